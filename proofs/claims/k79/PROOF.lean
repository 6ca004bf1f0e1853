import PyProof.Rows.All
import Wide.All
import OpenK.AllK
import Wide.FinOn
import HandS.ForMost
import HandS.ExcInit
import HandS.IsInst
import HandS.ExcIs
import PyProof.ReprReads
import KE.KExcInit
import HandS.ExcField
import KE.KDictWalk
import PyProof.CallFns
import PySem.Challenge.RW_namechains_k79_statements_written_and_re
import KE.KSuper
import HandS.ClsMeth
import HandS.Defaults
import HandS.OwnEq
import PyProof.InstNe
import HandS.Lambda
import HandS.EndOwn
import OpenK.KMeth
import KE.KStateDown
import HandS.Property
import HandS.Head0
import HandS.Head1
import HandS.Head2
import HandS.HeadHook1
import HandS.HeadHook2
import HandS.HeadHook4
import HandS.Style
import HandS.Walk
import HandS.List
import HandS.WordsExc
import HandS.FStr
import PyProof.Rows.StrJoinMade
import HandS.TupSets
import HandS.SetFor
import KE.KDictKeyed
import HandS.Deep
import HandS.Text
import HandS.Star
import HandS.Words
import HandS.More
import KE.KSortTupG
import HandS.TupAny
import HandS.TupMul
import KE.KIntText
import HandS.CallLocal
import PyProof.Rows.StrDigitsNeg
import PyProof.StrLawsRepr
import PyProof.FitsInt
import HandS.TryMany
import KE.KExcIs
set_option Elab.async false
set_option linter.all false
set_option maxRecDepth 100000
set_option maxHeartbeats 8000000
/-! A def whose run is told at one surrounding alone (so that what is being shown by repr is known), and a law's call by it. -/
namespace G
open PySem PySem.Spec PyProof.Rows L2
section
variable {P : Program} {w : World} {K : PySem.W.Frag} {mg : Str → Option Value}
/-- the def at f keeps sp, called within A -/
def RunA (P : Program) (w : World) (K : PySem.W.Frag) (mg : Str → Option Value) (A : Around) (f : Addr) (fd : FuncData) (ps : List Str) (sp : Sp) : Prop :=
  ∀ (base : Heap) (outer : List Env) (s : Shared) (H : Hp) (args : Args) (us : List Value) (vs : List V) (Q : VK) (E : XK), K.In base → base.Ns mainGlobals mg →
    Env0 P w K mg base A outer s H → BindsTo s fd args (ps.zip us) → Vals vs us → sp vs H Q E → codeAny (model P w) A (.call (.ref f) args) (CR CX0 outer P w H s Q E) s
theorem runA_of {A : Around} {nm ql : Str} {st : Stmt} {f : Addr} {fd : FuncData} {N ps : List Str} {k : Nat} {sp : Sp} (T : Fun K nm ql st f fd) (S : FnScope N ps (defScope st))
    (hl : ∀ vs H Q E, sp vs H Q E → vs.length = ps.length) (room : Room (k + 1) A)
    (body : ∀ (base : Heap) (cdv : Value) (outer : List Env) (s : Shared) (H : Hp) (vs : List V) (Q : VK) (E : XK), K.In base → base.Ns mainGlobals mg → Room k (A.deeper (envOfC ql (defScope st) s.heap.objs.size f cdv)) → sp vs H Q E →
      ∃ t, PSs (cxOf CX0 P w K mg base N ql (defScope st) f cdv A outer s H E).nox (defBody st) t ∧ t { nx := fun _ G => Q .non G, rt := Q } (start N vs) H) :
    RunA P w K mg A f fd ps sp := by
  intro base outer s H args us vs Q E kb nb env bt rv hp
  obtain ⟨oc, od, kV, doc, pm, an, cdv, ct, osl, rfl, look, code⟩ := T.ex
  have len := hl _ _ _ _ hp
  have inHeap : K.In s.heap := env.mod.kin.keeps fun a o z => (env.bs a o z).1
  have free : s.heap.NoLimit := env.mod.nolimit.keeps fun a o z => (env.bs a o z).1
  refine codeAny_call_function room.depth (inHeap _ _ look) rfl S.co S.gen rfl (PySem.W.codeRec_of inHeap code) (bt _ _ _ _ ?_)
  have kinds : ∀ y ∈ ps.zip us, (defScope st).names.lookup y.1 = some .local ∨ ((defScope st).names.lookup y.1 = some .cell ∧ ((cellsFrom (s.heap.objs.size + 1) (defScope st).names []).lookup y.1).isSome = true) := by
    rintro ⟨n, v⟩ hy
    cases S.par n (List.of_mem_zip hy).1 with
    | inl q => exact Or.inl q
    | inr q => exact Or.inr ⟨q, PySem.W.cellsFrom_some _ _ _ (Or.inl q)⟩
  refine wpAny_newFunctionEnv_cells S.kind kinds fun e2 he s1 into => ?_
  subst he
  obtain ⟨t, pt, q⟩ := body base cdv outer s H vs Q E kb nb (room.deeper _) hp
  refine ⟨free.keeps into.toInCall.keep, codeAny_func ?_⟩
  have I0 : Inv (cxOf CX0 P w K mg base N ql (defScope st) f cdv A outer s H E) [] (start N vs) H s1 := inv_start S room.hd env len rv into
  refine wpAny_mono (pt.nox.run [] s1 _ H _ I0 q) (fun flow s2 z => ?_) (fun _ _ z => z)
  match flow, z with
  | .ret u, ⟨v, σ2, H2, J, r2, z⟩ => exact ⟨v, H2, J.os, J.bare, J.base, J.hok, r2, z⟩
  | .next, ⟨σ2, H2, J, z⟩ => exact ⟨V.non, H2, J.os, J.bare, J.base, J.hok, rfl, z⟩
  | .brk, ⟨_, _, _, z⟩ => exact z.elim
  | .cont, ⟨_, _, _, z⟩ => exact z.elim
end
section
variable {P : Program} {w : World} {K : PySem.W.Frag} {mg mb : Str → Option Value} {fa a : Addr} {fd : FuncData} {x : Str} {sp : Sp} {s1 : Shared} {vs : List Value} {ns : List Int}
/-- what a law's call must give -/
abbrev LawEnd (s1 : Shared) : Result → Shared → Prop := fun r s' => r = .ok (.ret (.bool true)) ∧ OldK s1.heap s'.heap ∧ s'.os = s1.os ∧ AllBare s'.gens
/-- nothing but the script is tracked: H tells of it, or nothing -/
theorem law_from (KX : K.In s1.heap) (gl : s1.heap.Ns mainGlobals mg) (bl : s1.heap.Ns builtinsNs mb) (bb : ∀ x : Str, x ≠ "__name__" → mb x = bootBuiltins x) (lim : s1.heap.NoLimit) (g0 : s1.gens = #[])
    (isL : s1.heap.get? a = some { cls := .type "list", data := .seq vs.toArray }) (R : RunA P w K mg callerA fa fd [x] sp) (bind : ∀ (s : Shared) (u : Value), BindsTo s fd ⟨[u], []⟩ [(x, u)])
    {H : Hp} (only : Only H) (ok : HOk P w H s1.heap) (atA : ∀ b, H b ≠ none → b = a) (notK : H a ≠ none → K.lookup a = none) (h : sp [.ref a] H (fun v _ => v = .bl true) fun _ _ _ => False) :
    codeAny (model P w) callerA (.call (.ref fa) ⟨[.ref a], []⟩) (LawEnd s1) s1 := by
  have untr : ∀ {b : Addr}, b ≠ a → H b = none := fun {b} ne => by
    cases q : H b with
    | none => rfl
    | some u => exact absurd (atA b (by rw [q]; exact fun z => nomatch z)) ne
  have dictsOut : ∀ {b : Addr} {o : Obj} {es : Array DictEntry} {ep : Nat}, s1.heap.get? b = some o → o.data = .dict es ep → H b = none := fun {b o es ep} e d => untr fun z => by
    rw [z, isL] at e
    cases e
    exact nomatch d
  have ns_hid : ∀ {b : Addr} {m : Str → Option Value}, s1.heap.Ns b m → (hidT s1.heap H).Ns b m := by
    rintro b m ⟨o, es, ep, e, d, r⟩
    exact ⟨o, es, ep, hidT_get e (dictsOut e d), d, r⟩
  have kin : K.In (hidT s1.heap H) := fun b o e => hidT_get (KX b o e) (by
    by_cases z : b = a
    · cases q : H b with
      | none => rfl
      | some u =>
        rw [z, notK (by rw [← z, q]; exact fun z => nomatch z)] at e
        cases e
    · exact untr z)
  obtain ⟨mc, c1, c2⟩ := lim
  have env : Env0 P w K mg (hidT s1.heap H) callerA [] s1 H :=
    { frames := rfl, mod := ⟨kin, ns_hid gl, ⟨mb, ns_hid bl, bb⟩, ⟨mc, ns_hid c1, c2⟩⟩, bs := fun b o e => of_hidT e, bsz := Nat.le_of_eq (hidT_size _ _), funs := trivial, frf := fun b hb => (List.not_mem_nil hb).elim, hok := ok, bare := .of_eq g0 }
  refine codeAny_mono (R _ [] s1 H ⟨[.ref a], []⟩ [.ref a] [.ref a] _ _ kin (ns_hid gl) env (bind s1 (.ref a)) (.cons rfl .nil) h) fun r s2 z => ?_
  match r, z with
  | .error _, z => exact z.elim
  | .ok (.ret u), ⟨v, H2, os, bare, un, ok2, rv, q⟩ =>
    obtain rfl : v = V.bl true := q
    obtain rfl : u = Value.bool true := rv
    refine ⟨rfl, OldK.of_keep fun b o e => ?_, os, bare⟩
    cases only b with
    | inl n => exact un.keep b o e n (fun z => (List.not_mem_nil z).elim) (fun z => (List.not_mem_nil z).elim)
    | inr n =>
      obtain ⟨ob, xs, n⟩ := n
      have here := (ok b _ n).1
      have there := (ok2 b _ (un.frzs b ob _ n)).1
      rw [here] at e
      cases e
      exact there
  | .ok .next, z => exact z.elim
  | .ok .brk, z => exact z.elim
  | .ok .cont, z => exact z.elim
theorem law_callA (KX : K.In s1.heap) (gl : s1.heap.Ns mainGlobals mg) (bl : s1.heap.Ns builtinsNs mb) (bb : ∀ x : Str, x ≠ "__name__" → mb x = bootBuiltins x) (lim : s1.heap.NoLimit) (g0 : s1.gens = #[])
    (isL : s1.heap.get? a = some { cls := .type "list", data := .seq vs.toArray }) (hin : IntsAre vs ns) (few : ns.length ≤ sizeLine) (R : RunA P w K mg callerA fa fd [x] sp) (bind : ∀ (s : Shared) (u : Value), BindsTo s fd ⟨[u], []⟩ [(x, u)])
    (h : ∀ H : Hp, Only H → SqL K H a (ns.map V.int) → sp [.ref a] H (fun v _ => v = .bl true) fun _ _ _ => False) :
    codeAny (model P w) callerA (.call (.ref fa) ⟨[.ref a], []⟩) (LawEnd s1) s1 := by
  have rv := vals_ints hin
  cases hk : K.lookup a with
  | some o =>
    have e := KX a o hk
    rw [isL] at e
    cases e
    refine law_from KX gl bl bb lim g0 isL R bind (H := fun _ => none) (fun _ => Or.inl rfl) (fun b u z => nomatch z) (fun b z => absurd rfl z) (fun z => absurd rfl z) (h _ (fun _ => Or.inl rfl) (Or.inr ⟨_, vs.toArray, _, hk, rfl, rfl, rfl, ?_, ?_⟩))
    · rw [List.size_toArray, hin.length]
      exact few
    · simpa using rv
  | none =>
    have only : Only (fun b => if b = a then some (HO.frz { cls := .type "list", data := .seq vs.toArray } (.lst (ns.map V.int))) else none) := fun b => by
      by_cases z : b = a
      · exact Or.inr ⟨_, _, if_pos z⟩
      · exact Or.inl (if_neg z)
    refine law_from KX gl bl bb lim g0 isL R bind only (fun b u z => ?_) (fun b z => ?_) (fun _ => hk) (h _ only (Or.inl (Or.inr ⟨_, if_pos rfl⟩)))
    · by_cases q : b = a
      · rw [if_pos q] at z
        cases z
        subst q
        refine ⟨isL, ?_, vs, _, rv, isL⟩
        rw [List.length_map]
        exact few
      · rw [if_neg q] at z
        cases z
    · by_cases q : b = a
      · exact q
      · exact absurd (if_neg q) z
end
/-- THE END: a law by its run within the caller -/
theorem walkA {l : PySem.W.OpenLaw} {n : Nat} {q : Program} {loose : List Str} {XP : (Str → Option Value) → Heap → Prop} {YP : World → Heap → Prop} {d : DefRec} {K : Params → PySem.W.Frag} {sp : PySem.W.Frag → Sp} {x : Str}
    (hn : l.most = some n) (hn2 : n ≤ sizeLine) (hdf : d.params.defaults = []) (hY : ∀ (w : World) (h : Heap), YP w h → (K w.params).In h)
    (F : ∀ (w : World) (mg : Str → Option Value) (fa : Addr) (h : Heap), (K w.params).In h → h.Ns mainGlobals mg → mg d.name = some (.ref fa) →
      ∃ fd : FuncData, (∀ (s : Shared) (u : Value), BindsTo s fd ⟨[u], []⟩ [(x, u)]) ∧ RunA l.prog w (K w.params) mg callerA fa fd [x] (sp (K w.params)))
    (hsp : ∀ (K : PySem.W.Frag) (H : Hp) (a : Addr) (ns : List Int), ns.length ≤ n → Only H → SqL K H a (ns.map V.int) → sp K [.ref a] H (fun v _ => v = .bl true) fun _ _ _ => False) :
    PySem.W.WalkO q loose XP YP l.row.toRowW d [] (fun f vs => PySem.call f vs) := by
  refine Att.attach_call hn hdf fun w s0 s1 mg mb fa o pm cd doc a vs ns Gr Y ho hd hcd hmg hobj hints hlen hg => ?_
  obtain ⟨fd, hb, R⟩ := F w mg fa _ (hY w _ Y) Gr.T.g hmg
  exact law_callA (hY w _ Y) Gr.T.g Gr.T.b Gr.T.builtins Gr.T.nolimit hg hobj hints (Nat.le_trans hlen hn2) R hb fun H hO hS => hsp _ H a ns hlen hO hS
end G

/-! Own exceptions as plain values: made by a call, their fields read, asked by isinstance; any built-in base. -/
namespace G
open PySem PySem.Spec PyProof.Rows L2
open PySem.W (Frag)
/-- the base T (its mro) of an own exception class at C; its __init__ at fI -/
structure ExK (K : Frag) (C fI : Addr) (T : List Value) : Prop where
  base : ∃ B newId initId, ExcBaseFacts B newId initId T ∧ StoreFacts B T "object.__setattr__" "object" ∧ PySem.W.excInitIn K C T newId = true
  over : PySem.W.excOver K C T = true
  sa : PySem.W.findIn K (.ref C) "__setattr__" = some (some (.builtin "object.__setattr__"))
  ga : PySem.W.findIn K (.ref C) "__getattribute__" = some (some (.builtin "BaseException.__getattribute__"))
  gg : PySem.W.findIn K (.ref C) "__getattr__" = some none
  exC : PySem.W.subIn K (.ref C) (.type "BaseException") = some true
  hd : PySem.W.hasDictIn K C = true
  kp : PySem.W.keepIn K (.ref C) = true
  iC : PySem.W.findIn K (.ref C) "__init__" = some (some (.ref fI))
  iF : PySem.W.isFn K (.ref fI) = true
  cl : PySem.W.findIn K (.ref C) "__class__" = some (some (.builtin "object.__class__"))
  ob : PySem.W.mroIn K C (.type "object") = some true
/-- the library's own descriptors, the same for all classes -/
structure ExD (K : Frag) : Prop where
  hn : PySem.W.specialIn K (.builtin "object.__class__") "__get__" = some (some (.builtin "getset_descriptor.__get__"))
  ht : PySem.W.takesIn K (.builtin "object.__class__") = some true
section
variable {X : Cx} {pins : List (Addr × Obj)} {σ : L2.St} {H : Hp} {s : Shared} {a C fI dx : Addr} {T : List Value} {f : Str} {y : V} {u : Value} {fs : List (Str × V)} {E : Value → Shared → Prop} {A : Around}
/-- what is written at a and (new) at dx -/
theorem inv_two {o : HO} {t' : Nat} {g : HO} {h' : Heap} (I : Inv X pins σ H s) (e : H a = some o) (o1 : ∀ x, o ≠ .own x) (o2 : ∀ xs, o ≠ .tup xs) (o3 : ∀ b v, o ≠ .frz b v) (o4 : ∀ ps, o ≠ .tbl ps) (new : s.heap.objs.size ≤ dx)
    (k : ∀ b u, b ≠ a → s.heap.get? b = some u → h'.get? b = some u) (there : ∃ u, h'.get? a = some u) {oa : HO} (okA : ObjOk X.prog X.w (upd (upd H dx g) a oa) h' a oa) (okD : ObjOk X.prog X.w (upd (upd H dx g) a oa) h' dx g) :
    Inv X pins σ (upd (upd H dx g) a oa) { s with heap := h', toks := t' } := by
  have free : H dx = none := I.hok.fresh new
  have old : ∀ {b : Addr} {w : Obj}, s.heap.get? b = some w → b ≠ dx := fun z => Nat.ne_of_lt (Nat.lt_of_lt_of_le (Heap.lt_size z) new)
  have notA : ∀ {b : Addr}, H b = none → b ≠ a := fun {b} n z => by
    rw [z, e] at n
    exact nomatch n
  have keepO : ∀ {b : Addr} {w : HO}, H b = some w → o ≠ w → upd (upd H dx g) a oa b = some w := fun {b w} z n => by
    rw [upd_ne (at_ne e z n), upd_ne (ne_of_none z free)]
    exact z
  refine I.un (t' := t') ⟨fun b w z n _ _ => k b w (notA n) z, fun b w z n _ _ => ⟨w.slots, k b w (notA n) z⟩, fun b w z n _ => ?_, fun b w z _ => ?_, fun b xs z => keepO z (o2 xs), fun b w v z => keepO z (o3 w v), fun b ps z => ⟨#[], ?_⟩⟩ fun b w z => ?_
  · rw [upd_ne (notA n), upd_ne (old z)]
    exact n
  · by_cases q : b = a
    · rw [q]
      exact there
    · exact ⟨w, k b w q z⟩
  · rw [keepO z (o4 ps), Array.append_empty]
  · by_cases q : b = a
    · subst q
      rw [upd_same] at z
      cases z
      exact okA
    · rw [upd_ne q] at z
      by_cases r : b = dx
      · subst r
        rw [upd_same] at z
        cases z
        exact okD
      · rw [upd_ne r] at z
        exact (I.hok b w z).stay (fun c v hc l => k c v (by
            cases hc with
            | inl hc => rw [hc]; exact q
            | inr hc => exact at_ne e hc (o1 _)) l) (fun c hc => keepO hc (o1 _)) fun c xs hc => keepO hc (o2 xs)
/-- the first field of an exception -/
theorem set_first (R : ExK X.K C fI T) (I : Inv X pins σ H s) (e : H a = some (exo a C none)) (tk : PySem.W.takerIn X.K C f = some none) (ry : RelV y u) {Q : Unit → Shared → Prop}
    (h : ∀ d s', H d = none → d ≠ a → Inv X pins σ (upd (upd H d (exd d [(f, y)])) a (exo a C (some d))) s' → Q () s') : wpAny (model X.prog X.w) A (setAttr (.ref a) f u) Q E s := by
  obtain ⟨t1, ho⟩ := exo_at I.hok e
  obtain ⟨B, newId, initId, F, SF, _⟩ := R.base
  obtain ⟨cd, hc, hdc⟩ := PySem.W.any_some R.hd
  have I0 := I
  obtain ⟨hp, g, d, t, os⟩ := s
  have lt : a < hp.objs.size := Heap.lt_size ho
  refine PySem.W.set_plain I.kIn (od := none) ⟨ho, rfl, rfl, trivial⟩ R.sa (PySem.W.osa_openX (s := ⟨hp, g, d, t + 1, os⟩) (od := none) SF I.kIn ⟨ho, rfl, rfl, trivial⟩ R.over tk fun b => ?_)
  refine wpAny_bind (wpAny_pure (wpAny_bind (PySem.W.instanceDict_exc (c2 := .none) ho (PySem.W.looks_clsIn I.kIn hc) hdc ?_)))
  have he : hp.objs.size ≠ a := Nat.ne_of_gt lt
  refine HandSPX.store_in_new (hp := (hp.push (PySem.W.dictOf [] 0)).update a fun o => { o with dict := some hp.objs.size }) ⟨PySem.W.dictOf [] 0, #[], 0, ?_, rfl, fun e he => absurd he (by simp), fun _ => rfl⟩ fun h' tk' hn' hs => ?_
  · rw [Heap.get?_update_ne _ _ _ _ he]
    exact Heap.get?_push_at rfl rfl
  · have at1 : (hp.push (PySem.W.dictOf [] 0)).get? a = some _ := Heap.get?_push_of_some _ ho
    have hx := (hs.2 a he.symm).trans (Heap.get?_update_self _ at1 rfl)
    refine h hp.objs.size _ (I0.hok.fresh (Nat.le_refl _)) he (inv_two (t' := tk') I0 e (fun _ => exo_own) (fun _ => exo_tup) (fun _ _ => exo_frz) (fun _ => exo_tbl) (Nat.le_refl _) (fun b w hb q => ?_) ⟨_, hx⟩ (exo_ok hx) (exd_ok hn' (relO_put (fs := []) ry fun _ => True.intro)))
    exact (hs.2 b (Nat.ne_of_lt (Heap.lt_size q))).trans ((Heap.get?_update_ne _ _ _ _ hb).trans (Heap.get?_push_of_some _ q))
/-- a further field -/
theorem set_more (R : ExK X.K C fI T) (I : Inv X pins σ H s) (e : H a = some (exo a C (some dx))) (ed : H dx = some (exd dx fs)) (few : fs.length ≤ 900) (tk : PySem.W.takerIn X.K C f = some none) (ry : RelV y u) {Q : Unit → Shared → Prop}
    (h : ∀ s', Inv X pins σ (upd H dx (exd dx ((f, y) :: fs))) s' → Q () s') : wpAny (model X.prog X.w) A (setAttr (.ref a) f u) Q E s := by
  obtain ⟨t1, ho⟩ := exo_at I.hok e
  obtain ⟨mA, hns, rel⟩ := exd_at I.hok ed
  obtain ⟨B, newId, initId, F, SF, _⟩ := R.base
  obtain ⟨cd, hc, hdc⟩ := PySem.W.any_some R.hd
  have wi := within_of rel
  obtain ⟨oD, _, _, hoD, _, _⟩ := hns.count wi
  have I0 := I
  obtain ⟨hp, g, d, t, os⟩ := s
  refine PySem.W.set_plain I.kIn (od := some oD) ⟨ho, rfl, rfl, hoD⟩ R.sa (PySem.W.osa_openX (s := ⟨hp, g, d, t + 1, os⟩) (od := some oD) SF I.kIn ⟨ho, rfl, rfl, hoD⟩ R.over tk fun b => ?_)
  refine wpAny_bind (wpAny_pure (wpAny_bind (wpAny_bind (wpAny_loadPart ho (wpAny_bind ((PySem.W.looks_clsIn I.kIn hc).at ?_))))))
  rw [hdc]
  refine wpAny_pure (a := some dx) ?_
  refine OEX.store_in_old hns wi (by rw [List.length_map]; omega) fun h' tk' hn' hs => ?_
  obtain ⟨o2, es, ep, here, r⟩ := id hn'
  exact h _ (I0.write (t' := tk') (x := dx) (e := dx) (o := exd dx ((f, y) :: fs)) (by rw [ed]; exact True.intro) (.inl rfl) (fun b w hb q => (hs.2 b hb).trans q) ⟨_, here⟩ (exd_ok hn' (relO_put ry rel)))
end
/-- self.f = e, on an exception that is being made -/
def tSet (K : Frag) (f : Str) (to te : TE) : TS := fun D σ H => te σ H fun y H1 => to σ H1 fun x H2 => ∃ (a C fI : Addr) (T : List Value), x = .ref a ∧ ExK K C fI T ∧ PySem.W.takerIn K C f = some none ∧
  ((H2 a = some (exo a C none) ∧ ∀ d, H2 d = none → d ≠ a → D.nx σ (upd (upd H2 d (exd d [(f, y)])) a (exo a C (some d)))) ∨
    ∃ (d : Addr) (fs : List (Str × V)), H2 a = some (exo a C (some d)) ∧ H2 d = some (exd d fs) ∧ fs.length ≤ 900 ∧ D.nx σ (upd H2 d (exd d ((f, y) :: fs))))
/-- C(..) of an exception class, whose __init__ keeps sp -/
def tMk (C : Addr) (sp : Sp) (ta : TA) : TE := fun σ H Q => ta σ H fun vs H1 => vs.length ≤ 1000 ∧ ∀ a, H1 a = none → sp (.ref a :: vs) (upd H1 a (exo a C none)) (fun v H2 => v = .non ∧ Q (.ref a) H2) (fun _ _ _ => False)
/-- e.f of an exception -/
def tGet (K : Frag) (f : Str) (te : TE) : TE := fun σ H Q => te σ H fun x H1 => ∃ (a C fI d : Addr) (T : List Value) (fs : List (Str × V)) (v : V) (at_ : Option Value), x = .ref a ∧ ExK K C fI T ∧ H1 a = some (exo a C (some d)) ∧ H1 d = some (exd d fs) ∧
  PySem.W.findIn K (.ref C) f = some at_ ∧ PySem.W.noGet K at_ = true ∧ fs.lookup f = some v ∧ Q v H1
section
variable {X : Cx} {o e : Expr} {es : List Expr} {to te : TE} {ta : TA} {f x : Str} {p p' pos : Pos}
theorem ps_set_ex (ho : PE X o to) (he : PE X e te) (hs : swapsWith e (some (.Attribute o f p')) pos.line X.env = pure false := by rfl) : PS X (.Assign [.Attribute o f p'] e pos) (tSet X.K f to te) := by
  constructor
  intro pins s σ H D I h
  refine plainObj_wpAny_Assign_Attribute (wpAny_mono (he.run pins s σ H _ I h) (fun v s1 z => ?_) fun _ _ z => z) hs
  obtain ⟨y, H1, I1, r1, q1⟩ := z
  refine wpAny_mono (ho.run pins s1 σ H1 _ I1 q1) (fun u s2 z => ?_) fun _ _ z => z
  obtain ⟨x, H2, I2, r2, a, C, fI, T, rfl, R, tk, q⟩ := z
  cases r2
  cases q with
  | inl q => exact set_first R I2 q.1 tk r1 fun d s' n ne J => ⟨σ, _, J, q.2 d n ne⟩
  | inr q =>
    obtain ⟨d, fs, e1, e2, few, q⟩ := q
    exact set_more R I2 e1 e2 few tk r1 fun s' J => ⟨σ, _, J, q⟩
theorem pe_get_ex (he : PE X e te) (hb : attributeBase e f X.env (eval e X.env) = eval e X.env := by rfl) : PE X (.Attribute e f pos) (tGet X.K f te) := by
  constructor
  intro pins s σ H Q I h
  refine attr_of hb (wpAny_mono (he.run pins s σ H _ I h) (fun u s1 z => ?_) fun _ _ z => z)
  obtain ⟨x, H1, I1, rx, a, C, fI, d, T, fs, v, at_, rfl, R, e1, e2, fa, ng, l, q⟩ := z
  cases rx
  obtain ⟨t1, ho⟩ := exo_at I1.hok e1
  obtain ⟨mA, hns, rel⟩ := exd_at I1.hok e2
  obtain ⟨od, hod, hl⟩ := lookIn_ns hns
  obtain ⟨u, hu, ru⟩ := RelO.some_of (v := v) (o := mA f) (by rw [← l]; exact rel f)
  have J : PySem.W.InstAt s1.heap a _ C (some od) := ⟨ho, rfl, rfl, hod⟩
  exact HandSPX.exc_get I1.kIn J R.ga R.gg R.exC (PySem.W.findObj_own R.hd fa ng (by rw [hl, hu])) (handed_of ru) ⟨v, H1, I1.tok _, ru, q⟩
theorem pe_mk_ex {k : Nat} {C fI : Addr} {T : List Value} {fd : FuncData} {ps : List Str} {sp : Sp} (R : ExK X.K C fI T) (F1 : FnOk X.prog X.w X.K X.mg X.base CX0 k fI fd ps sp) (hr : Room (k + 1) X.A) (hb : Binds X.K fd ps []) (hg : Gl X x) (hm : X.mg x = some (.ref C)) (ha : PA X (e :: es) ta)
    (hdb : (x == ("__debug__" : Str)) = false := by decide) (he : starEach (e :: es) X.env = (false, eval e X.env) :: starEach es X.env := by rfl) (hpl : (backTo pos (starEach es X.env)).any (·.1) = false := by rfl) :
    PE X (.Call (.Name x p) (e :: es) [] pos) (tMk C sp ta) := by
  constructor
  intro pins s σ H Q I h
  obtain ⟨B, newId, initId, F, SF, q0⟩ := R.base
  refine wpAny_Call_Name_kw (ld_glob I hg hm ?_ hdb)
  refine PySem.W.callWith_K (h₀ := X.base) I.ok.mod.kin R.kp (wpAny_mono (ha.run pos pins s σ H _ I h) (fun us s1 z => ?_) fun _ _ z => z) he hpl
  obtain ⟨vs, H1, I1, r1, few, q1⟩ := z
  refine ⟨I1.kIn, ?_⟩
  obtain ⟨nm, N', qn, bs, bm, hdct, sn, sub, ab, col, dd, k0, k1, k2, k3, k5, hC, hT⟩ := PySem.W.excInit_of I1.kIn q0
  obtain ⟨oI, hoI, hcI⟩ := Option.map_eq_some_iff.mp (show (X.K.lookup fI).map (·.cls) = some (.type "function") from beq_iff_eq.mp R.iF)
  have look := PySem.W.looks_findIn (M := model X.prog X.w) I1.kIn R.iC
  have bnd := fun self => PySem.W.exc_bind (M := model X.prog X.w) (I1.kIn _ _ hoI) hcI self
  obtain ⟨hp, g, dr, tk, os⟩ := s1
  have new : H1 (hp.objs.size + 1) = none := I1.hok.fresh (Nat.le_succ _)
  have q2 := q1 _ new
  have I2 : Inv X pins σ (upd H1 (hp.objs.size + 1) (exo (hp.objs.size + 1) C none)) ⟨(hp.push (PySem.W.kdv_tup us)).push (PX.excO C hp.objs.size), g, dr, tk, os⟩ :=
    I1.laid (t' := tk) (o := exo (hp.objs.size + 1) C none) (h' := (hp.push (PySem.W.kdv_tup us)).push (PX.excO C hp.objs.size)) (fun b w q => Heap.get?_push_of_some _ (Heap.get?_push_of_some _ q)) (Nat.le_succ _) (exo_ok (t1 := hp.objs.size) (by heap_get))
  have r2 : Vals (V.ref (hp.objs.size + 1) :: vs) (Value.ref (hp.objs.size + 1) :: us) := .cons rfl r1
  have len : (Value.ref (hp.objs.size + 1) :: us).length = ps.length := by
    rw [← r2.length]
    exact F1.len _ _ _ _ q2
  have size : us.length ≤ sizeLine := by
    rw [← r1.length, sizeLine_eq]
    omega
  have hbd := hb ⟨(hp.push (PySem.W.kdv_tup us)).push (PX.excO C hp.objs.size), g, dr, tk, os⟩ (Value.ref (hp.objs.size + 1) :: us) I2.kIn (by simpa using len)
  rw [List.append_nil] at hbd
  refine wpAny_call (PX.call_own F hT hC look bnd size (codeAny_mono (F1.run _ X.stack _ _ ⟨Value.ref (hp.objs.size + 1) :: us, []⟩ (Value.ref (hp.objs.size + 1) :: us) _ _ (fun _ _ _ => False) (hr.make C us []) (I2.env0.make C us []) hbd r2 q2) fun r s2 z => ?_))
  match r, z with
  | .error _, z => exact z.elim
  | .ok (.ret u), ⟨v, H2, os2, bare, un, ok2, rv, ev, q3⟩ =>
    subst ev
    exact ⟨rv, .ref (hp.objs.size + 1), H2, I2.call' (ch := []) os2 un ok2 bare (fun b z => (List.not_mem_nil z).elim), rfl, q3⟩
  | .ok .next, z => exact z.elim
  | .ok .brk, z => exact z.elim
  | .ok .cont, z => exact z.elim
end
end G

/-! An own exception class, asked for as Bools. -/
namespace G
open PySem PySem.Spec PyProof.Rows L2
def exkB (K : PySem.W.Frag) (C fI : Addr) (T : List Value) (newId : String) : Bool :=
  PySem.W.excInitIn K C T newId && (PySem.W.excOver K C T && (decide (PySem.W.findIn K (.ref C) "__setattr__" = some (some (.builtin "object.__setattr__"))) && (decide (PySem.W.findIn K (.ref C) "__getattribute__" = some (some (.builtin "BaseException.__getattribute__"))) &&
  (decide (PySem.W.findIn K (.ref C) "__getattr__" = some none) && (decide (PySem.W.subIn K (.ref C) (.type "BaseException") = some true) && (PySem.W.hasDictIn K C && (PySem.W.keepIn K (.ref C) && (decide (PySem.W.findIn K (.ref C) "__init__" = some (some (.ref fI))) &&
  (PySem.W.isFn K (.ref fI) && (decide (PySem.W.findIn K (.ref C) "__class__" = some (some (.builtin "object.__class__"))) && (decide (PySem.W.mroIn K C (.type "object") = some true) && decide (PySem.W.typeIn K (.ref C) = some (.type "type")))))))))))))
theorem exkB_ok {K : PySem.W.Frag} {C fI : Addr} {T : List Value} {B newId initId : String} (F : ExcBaseFacts B newId initId T) (SF : StoreFacts B T "object.__setattr__" "object") (h : exkB K C fI T newId = true) : ExK K C fI T ∧ PySem.W.typeIn K (.ref C) = some (.type "type") := by
  simp only [exkB, Bool.and_eq_true, decide_eq_true_eq] at h
  obtain ⟨h1, h2, h3, h4, h5, h6, h7, h8, h9, h10, h11, h12, h13⟩ := h
  exact ⟨⟨⟨B, newId, initId, F, SF, h1⟩, h2, h3, h4, h5, h6, h7, h8, h9, h10, h11, h12⟩, h13⟩
end G

/-! C(k = v, ..) of an own exception class. -/
namespace G
open PySem PySem.Spec PySem.Calls L2
open PySem.W (Frag)
section
variable {prog : Program} {w : World} {A : Around} {E : Value → Shared → Prop} {R : Result → Shared → Prop} {h : Heap} {g : Array GenState} {d : Drawn} {t : Nat} {os : OsState}
variable {nm q : Str} {C N : Addr} {bs bm bmB : List Value} {hdct : Bool} {sn : List Str} {sub : List Value} {ab : Bool} {col : Option Bool} {dd : Option Addr} {k0 k1 k2 k3 k5 : Option Value} {B newId initId : String}
theorem checked_new (F : ExcBaseFacts B newId initId bmB) (same : ∀ X : String, bm.contains (.type X) = bmB.contains (.type X)) {us : List Value} {kw : List (Str × Value)} {Q : Unit → Shared → Prop}
    (at_ : h.get? C = some (excClassObj nm q C N bs bm hdct sn sub ab col dd k0 k1 k2 k3 k5 newId)) (z : Q () ⟨h, g, d, t, os⟩) : wpAny (model prog w) A (checkBuiltinCall newId ⟨.ref C :: us, kw⟩) Q E ⟨h, g, d, t, os⟩ := by
  have isB : (Value.ref C :: bm).contains (.type B) = true := by rw [List.contains_cons, same, F.hasB, Bool.or_true]
  have nostar := F.noStar
  simp only [checkBuiltinCall, F.newKind, F.newSplit, F.newRow]
  repeat (first | refine wpAny_loadPart_at at_ ?_ | (refine wpAny_isSubtype_exc at_ ?_; rw [isB]) | refine wpAny_staticBase_exc at_ ?_ | refine wpAny_madeBy_exc at_ ?_ | simp only [bne_self_eq_false, Bool.false_eq_true, if_false] | wp_step)
  exact z
theorem ran_new (F : ExcBaseFacts B newId initId bmB) (same : ∀ X : String, bm.contains (.type X) = bmB.contains (.type X)) {us : List Value} {kw : List (Str × Value)}
    (at_ : h.get? C = some (excClassObj nm q C N bs bm hdct sn sub ab col dd k0 k1 k2 k3 k5 newId)) (few : us.length ≤ sizeLine)
    (z : R (.ok (.ret (.ref (h.objs.size + 1)))) ⟨(h.push (PySem.W.kdv_tup us)).push (PX.excO C h.objs.size), g, d, t, os⟩) : codeAny (model prog w) A (.builtin newId ⟨.ref C :: us, kw⟩) R ⟨h, g, d, t, os⟩ := by
  have ends := F.ends
  have is1 : (Value.ref C :: bm).contains (.type B) = true := by rw [List.contains_cons, same, F.hasB, Bool.or_true]
  have is2 : (Value.ref C :: bm).contains (.type "AttributeError") = false := by rw [List.contains_cons, same, F.noAttr, Bool.or_false]; rfl
  have is3 : (Value.ref C :: bm).contains (.type "NameError") = false := by rw [List.contains_cons, same, F.noName, Bool.or_false]; rfl
  refine codeAny_builtinAt F.entry ?_
  unfold Builtin.«BaseException.__new__»
  refine wpAt_bind ?_
  show wpAt _ _ _ (stack >>= _) _ _ _
  refine wpAt_bind (wpAt_stack fun _ _ => wpAt_of_wpAny ?_)
  wp_walk
  refine wpAt_of_wpAny ?_
  rw [F.owner]
  repeat (first | with_reducible refine wpAny_madeHere_exc F.canon at_ ?_ | with_reducible refine wpAny_loadPart_at at_ ?_ | (with_reducible refine wpAny_isSubtype_exc at_ ?_; first | rw [is1] | rw [is2] | rw [is3]) | wp_step)
  show R _ _
  rw [Heap.size_push]
  exact z
theorem ran_type (F : ExcBaseFacts B newId initId bmB) (same : ∀ X : String, bm.contains (.type X) = bmB.contains (.type X)) {us : List Value} {kw : List (Str × Value)} {fI : Addr} {Q : Fin → Shared → Prop}
    (at_ : h.get? C = some (excClassObj nm q C N bs bm hdct sn sub ab col dd k0 k1 k2 k3 k5 newId)) (look : PySem.W.Looks (model prog w) h (typeLookup (.ref C) "__init__") (some (.ref fI)))
    (bnd : ∀ self, PySem.W.Looks (model prog w) h (bindSpecial (.ref fI) self) (.ref fI, [self])) (few : us.length ≤ sizeLine)
    (z : codeAny (model prog w) A (.call (.ref fI) ⟨.ref (h.objs.size + 1) :: us, kw⟩) (fun r s' => match r with | .ok (.ret v) => v = .none ∧ Q (.done (.ret (.ref (h.objs.size + 1)))) s' | .ok _ => False | .error e => E e s')
      ⟨(h.push (PySem.W.kdv_tup us)).push (PX.excO C h.objs.size), g, d, t, os⟩) : wpAny (model prog w) A (Builtin.«type.__call__» ⟨.ref C :: us, kw⟩) Q E ⟨h, g, d, t, os⟩ := by
  repeat (first | with_reducible refine wpAny_loadPart_at at_ ?_ | with_reducible refine wpAny_madeBy_exc at_ ?_ | wp_step)
  refine codeAny_call_builtin_code (Code.quiet_builtin _ F.quiet) (checked_new F same at_ ?_)
  refine ran_new F same at_ few ?_
  show wpAny _ _ _ _ _ _
  have old : ∀ b o, h.get? b = some o → ((h.push (PySem.W.kdv_tup us)).push (PX.excO C h.objs.size)).get? b = some o := fun b o e => Heap.get?_push_of_some _ (Heap.get?_push_of_some _ e)
  have at2 := old _ _ at_
  have obj : ((h.push (PySem.W.kdv_tup us)).push (PX.excO C h.objs.size)).get? (h.objs.size + 1) = some (PX.excO C h.objs.size) := by heap_get
  have own : (Value.ref C :: bm).contains (.ref C) = true := by simp
  have look2 := look.keeps old
  have bnd2 := (bnd (.ref (h.objs.size + 1))).keeps old
  unfold isInstance
  repeat (first | with_reducible refine wpAny_loadPart_at obj ?_ | (with_reducible refine wpAny_isSubtype_exc at2 ?_; rw [own]) | wp_step)
  show wpAny _ _ (typeLookup (.ref C) _) _ _ _
  refine look2.at (wpAny_holding (wpAny_bind (bnd2.at (wpAny_bind (wpAny_call (codeAny_mono z fun r s' y => ?_))))))
  rcases r with e | (v | _ | _ | _) <;> first | exact y | exact y.elim | skip
  obtain ⟨rfl, y⟩ := y
  first
    | exact wpAny_pure (wpAny_pure y)
    | (wp_walk; exact y)
theorem ran_class (F : ExcBaseFacts B newId initId bmB) (same : ∀ X : String, bm.contains (.type X) = bmB.contains (.type X)) {us : List Value} {kw : List (Str × Value)} {fI : Addr}
    (at_ : h.get? C = some (excClassObj nm q C N bs bm hdct sn sub ab col dd k0 k1 k2 k3 k5 newId)) (look : PySem.W.Looks (model prog w) h (typeLookup (.ref C) "__init__") (some (.ref fI)))
    (bnd : ∀ self, PySem.W.Looks (model prog w) h (bindSpecial (.ref fI) self) (.ref fI, [self])) (few : us.length ≤ sizeLine)
    (z : codeAny (model prog w) (A.under (.builtin "type.__call__" ⟨.ref C :: us, kw⟩)) (.call (.ref fI) ⟨.ref (h.objs.size + 1) :: us, kw⟩) (PySem.W.InitBack (h.objs.size + 1) R) ⟨(h.push (PySem.W.kdv_tup us)).push (PX.excO C h.objs.size), g, d, t, os⟩) :
    codeAny (model prog w) A (.call (.ref C) ⟨us, kw⟩) R ⟨h, g, d, t, os⟩ := by
  have f1 := tc_lookup
  have f2 := tc_bind (.ref C)
  have ty : (⟨h, g, d, t, os⟩ : Shared).TypeIs (.ref C) "type" := ⟨_, at_, rfl⟩
  refine codeAny_of_tree ?_
  show wpAny _ _ (callAny (.ref C) _) _ _ _
  repeat (any_goals (first | assumption | with_reducible refine wpAny_loadPart_at at_ ?_ | wp_step))
  refine ⟨rfl, ?_⟩
  refine codeAny_call_builtin_at (Code.quiet_builtin _ (by decide +kernel)) entry_typeCall (wpAny_check_type_call_sub at_ (ran_type F same at_ look bnd few (codeAny_mono z fun r s' y => ?_)))
  rcases r with e | (v | _ | _ | _) <;> exact y
end
end G

namespace G
open PySem PySem.Spec PyProof.Rows L2
open PySem.W (Frag)
/-- C(k = v, ..) of an exception class: perm puts the values into the order of the parameters -/
def tMkK (C : Addr) (m : Nat) (perm : {α : Type} → List α → List α) (sp : Sp) (tk : TA) : TE := fun σ H Q => tk σ H fun zs H1 => zs.length = m ∧ ∀ a, H1 a = none → sp (.ref a :: perm zs) (upd H1 a (exo a C none)) (fun v H2 => v = .non ∧ Q (.ref a) H2) (fun _ _ _ => False)
section
variable {X : Cx} {x : Str} {p pos : Pos} {kws : List Keyword} {tk : TA}
theorem pe_mk_exK {k : Nat} {C fI : Addr} {T : List Value} {fd : FuncData} {ps ks : List Str} {sp : Sp} (perm : {α : Type} → List α → List α) (hp : ∀ {zs : List V} {ws : List Value}, Vals zs ws → Vals (perm zs) (perm ws))
    (R : ExK X.K C fI T) (F1 : FnOk X.prog X.w X.K X.mg X.base CX0 k fI fd ps sp) (hr : Room (k + 1) X.A) (hb : ∀ (s : Shared) (u : Value) (ws : List Value), X.K.In s.heap → ws.length = ks.length → BindsTo s fd ⟨[u], ks.zip ws⟩ (ps.zip (u :: perm ws))) (hg : Gl X x) (hm : X.mg x = some (.ref C)) (hkw : PK X kws tk)
    (hall : (backToKw pos (keywordEach kws X.env)).all (·.1.isSome) = true := by rfl) (hks : (backToKw pos (keywordEach kws X.env)).filterMap (·.1) = ks := by rfl) (hdb : (x == ("__debug__" : Str)) = false := by decide)
    (hpl : ((backTo pos (starEach [] X.env)).any (·.1) || (backToKw pos (keywordEach kws X.env)).any (·.1.isNone)) = false := by rfl) :
    PE X (.Call (.Name x p) [] kws pos) (tMkK C ks.length perm sp tk) := by
  constructor
  intro pins s σ H Q I h
  obtain ⟨B, newId, initId, F, SF, q0⟩ := R.base
  refine wpAny_Call_Name_kw (ld_glob I hg hm (PySem.W.callWith_KW0 (h₀ := X.base) I.ok.mod.kin R.kp hall (wpAny_mono (hkw.run pos pins s σ H _ I h) (fun ws s1 z => ?_) fun _ _ z => z) hpl) hdb)
  obtain ⟨zs, H1, I1, r1, len, q1⟩ := z
  refine ⟨I1.kIn, ?_⟩
  rw [hks]
  obtain ⟨nm, N', qn, bs, bm, hdct, sn, sub, ab, col, dd, k0, k1, k2, k3, k5, hC, hT⟩ := PySem.W.excInit_of I1.kIn q0
  obtain ⟨oI, hoI, hcI⟩ := Option.map_eq_some_iff.mp (show (X.K.lookup fI).map (·.cls) = some (.type "function") from beq_iff_eq.mp R.iF)
  have look := PySem.W.looks_findIn (M := model X.prog X.w) I1.kIn R.iC
  have bnd := fun self => PySem.W.exc_bind (M := model X.prog X.w) (I1.kIn _ _ hoI) hcI self
  obtain ⟨hp1, g, dr, tk1, os⟩ := s1
  have new : H1 (hp1.objs.size + 1) = none := I1.hok.fresh (Nat.le_succ _)
  have q2 := q1 _ new
  have I2 : Inv X pins σ (upd H1 (hp1.objs.size + 1) (exo (hp1.objs.size + 1) C none)) ⟨(hp1.push (PySem.W.kdv_tup [])).push (PX.excO C hp1.objs.size), g, dr, tk1, os⟩ :=
    I1.laid (t' := tk1) (o := exo (hp1.objs.size + 1) C none) (h' := (hp1.push (PySem.W.kdv_tup [])).push (PX.excO C hp1.objs.size)) (fun b w q => Heap.get?_push_of_some _ (Heap.get?_push_of_some _ q)) (Nat.le_succ _) (exo_ok (t1 := hp1.objs.size) (by heap_get))
  have r2 : Vals (V.ref (hp1.objs.size + 1) :: perm zs) (Value.ref (hp1.objs.size + 1) :: perm ws) := .cons rfl (hp r1)
  have lw : ws.length = ks.length := by rw [← r1.length]; exact len
  have hbd := hb ⟨(hp1.push (PySem.W.kdv_tup [])).push (PX.excO C hp1.objs.size), g, dr, tk1, os⟩ (Value.ref (hp1.objs.size + 1)) ws I2.kIn lw
  refine wpAny_call (ran_class F hT hC look bnd (by decide) (codeAny_mono (F1.run _ X.stack _ _ ⟨[Value.ref (hp1.objs.size + 1)], ks.zip ws⟩ (Value.ref (hp1.objs.size + 1) :: perm ws) _ _ (fun _ _ _ => False) (hr.make C [] (ks.zip ws)) (I2.env0.make C [] (ks.zip ws)) hbd r2 q2) fun r s2 z => ?_))
  match r, z with
  | .error _, z => exact z.elim
  | .ok (.ret u), ⟨v, H2, os2, bare, un, ok2, rv, ev, q3⟩ =>
    subst ev
    exact ⟨rv, .ref (hp1.objs.size + 1), H2, I2.call' (ch := []) os2 un ok2 bare (fun b z => (List.not_mem_nil z).elim), rfl, q3⟩
  | .ok .next, z => exact z.elim
  | .ok .brk, z => exact z.elim
  | .ok .cont, z => exact z.elim
end
end G

/-! repr of what is tracked: None, bools, ints, texts, lists, tuples, dicts, nested. -/
namespace G
open PySem PySem.Spec PyProof.Rows L2
mutual
/-- v is the data d in H; no list of it stands where sys.modules does -/
inductive Da (K : PySem.W.Frag) (H : Hp) : V → PyData → Prop
  | non : Da K H .non .none
  | bl (b : Bool) : Da K H (.bl b) (.bool b)
  | int (i : Int) : Da K H (.int i) (.int i)
  | str (x : Str) : Da K H (.str x) (.str x)
  | lst {a : Addr} {xs : List V} {ds : List PyData} : a ≠ sysModules → SqL K H a xs → DaAll K H xs ds → Da K H (.ref a) (.list ds)
  | tup {a : Addr} {xs : List V} {ds : List PyData} : SqT K H a xs → DaAll K H xs ds → Da K H (.ref a) (.tuple ds)
  | dct {a : Addr} {kvs : List (Key × V)} {ds : List (PyData × PyData)} : H a = some (.dK kvs) → DaAll K H (kvs.map fun p => kV p.1) (ds.map (·.1)) → DaAll K H (kvs.map (·.2)) (ds.map (·.2)) → Da K H (.ref a) (.dict ds)
inductive DaAll (K : PySem.W.Frag) (H : Hp) : List V → List PyData → Prop
  | nil : DaAll K H [] []
  | cons {v : V} {vs : List V} {d : PyData} {ds : List PyData} : Da K H v d → DaAll K H vs ds → DaAll K H (v :: vs) (d :: ds)
end
mutual
theorem Da.same {K : PySem.W.Frag} {H G : Hp} (e : Same H G) : ∀ {v : V} {d : PyData}, Da K H v d → Da K G v d
  | _, _, .non => .non
  | _, _, .bl b => .bl b
  | _, _, .int i => .int i
  | _, _, .str x => .str x
  | _, _, .lst n s a => .lst n (e.seq s) (DaAll.same e a)
  | _, _, .tup s a => .tup (by
      rcases s with (s | ⟨o, s⟩) | s
      · exact .inl (.inl (e _ _ s))
      · exact .inl (.inr ⟨o, e _ _ s⟩)
      · exact .inr s) (DaAll.same e a)
  | _, _, .dct h a b => .dct (e _ _ h) (DaAll.same e a) (DaAll.same e b)
theorem DaAll.same {K : PySem.W.Frag} {H G : Hp} (e : Same H G) : ∀ {vs : List V} {ds : List PyData}, DaAll K H vs ds → DaAll K G vs ds
  | _, _, .nil => .nil
  | _, _, .cons h t => .cons (Da.same e h) (DaAll.same e t)
end
theorem keys_vals {κ : Type} {f : κ → V} {g : κ → Value → Bool} (hf : ∀ k u, g k u = true → RelV (f k) u) {prog : Program} {w : World} {knd : κ → Value → Bool} (hk : ∀ k u, knd k u = g k u) :
    ∀ {kvs : List (κ × V)} {vs : List (κ × Value)} {es : List DictEntry}, KV kvs vs → es.length = vs.length → (∀ (i : Nat) (e : DictEntry) (k : κ) (v : Value), es[i]? = some e → vs[i]? = some (k, v) → knd k e.key = true ∧ e.val = v) →
      Vals (kvs.map fun p => f p.1) (es.map (·.key)) ∧ Vals (kvs.map (·.2)) (es.map (·.val))
  | [], [], [], .nil, _, _ => ⟨.nil, .nil⟩
  | (k, x) :: kvs, (k', u) :: vs, e :: es, .cons ⟨ek, r⟩ t, l, h => by
    obtain rfl : k = k' := ek
    obtain ⟨h1, h2⟩ := h 0 e k u rfl rfl
    obtain ⟨i1, i2⟩ := keys_vals hf (prog := prog) (w := w) hk t (by simpa using l) fun i e' k' v' a b => h (i + 1) e' k' v' (by simpa using a) (by simpa using b)
    refine ⟨.cons (hf _ _ (by rw [← hk]; exact h1)) i1, .cons ?_ i2⟩
    show RelV x e.val
    rw [h2]
    exact r
section
variable {X : Cx} {pins : List (Addr × Obj)} {σ : L2.St} {H : Hp} {s : Shared}
theorem dict_vals (I : Inv X pins σ H s) {a : Addr} {kvs : List (Key × V)} (h : H a = some (.dK kvs)) :
    (a == sysModules) = false ∧ ∃ o es n, s.heap.get? a = some o ∧ o.cls = .type "dict" ∧ o.data = .dict es n ∧ Vals (kvs.map fun p => kV p.1) (es.toList.map (·.key)) ∧ Vals (kvs.map (·.2)) (es.toList.map (·.val)) := by
  obtain ⟨_, sm, vs, r, d⟩ := dk_of I.hok h
  obtain ⟨es, ep, ⟨o, ho, ex, hd⟩, hl, hall⟩ := Heap.DictOf.raw d
  refine ⟨sm, o, es, ep, ho, ex.1, hd, ?_⟩
  refine keys_vals (g := keyIs) (knd := keyIs) (prog := X.prog) (w := X.w) (fun k u e => ?_) (fun _ _ => rfl) r (by rw [Array.length_toList]; exact hl) fun i e k v h1 h2 => ?_
  · rcases keyIs_shape e with ⟨i, t, rfl, rfl⟩ | ⟨x, t, rfl, rfl⟩
    · exact ⟨t, rfl⟩
    · exact ⟨t, rfl⟩
  · rw [Array.getElem?_toList] at h1
    obtain ⟨hi, he⟩ := Array.getElem?_eq_some_iff.mp h1
    have q := hall i hi k v h2
    rw [he] at q
    exact q
mutual
theorem Da.reads (I : Inv X pins σ H s) : ∀ {v : V} {d : PyData} {u : Value}, Da X.K H v d → RelV v u → ∃ as, Reads s.heap u d as ∧ sysModules ∉ as
  | _, _, _, .non, r => by
    cases r
    exact ⟨_, .none, fun z => nomatch z⟩
  | _, _, _, .bl b, r => by
    cases r
    exact ⟨_, .bool b, fun z => nomatch z⟩
  | _, _, _, .int i, r => by
    obtain ⟨t, rfl⟩ := r
    exact ⟨_, .int i t, fun z => nomatch z⟩
  | _, _, _, .str x, r => by
    obtain ⟨t, rfl⟩ := r
    exact ⟨_, .str x t, fun z => nomatch z⟩
  | _, _, _, .lst ne q ha, r => by
    cases r
    obtain ⟨its, rv, ⟨o, n, ho, hc, _, hd⟩, _⟩ := I.list q
    obtain ⟨as, hr, hn⟩ := DaAll.reads I ha rv
    exact ⟨_, .list ho hc hd hr, fun z => by
      rcases List.mem_cons.mp z with z | z
      · exact ne z.symm
      · exact hn z⟩
  | _, _, _, .tup q ha, r => by
    cases r
    obtain ⟨its, rv, ⟨o, ho, hc, n, hd⟩, _⟩ := I.tuple q
    obtain ⟨as, hr, hn⟩ := DaAll.reads I ha rv
    exact ⟨_, .tuple ho hc hd hr, hn⟩
  | _, _, _, .dct q ha hb, r => by
    cases r
    obtain ⟨sm, o, es, n, ho, hc, hd, rk, rv⟩ := dict_vals I q
    obtain ⟨as, h1, n1⟩ := DaAll.reads I ha rk
    obtain ⟨bs, h2, n2⟩ := DaAll.reads I hb rv
    exact ⟨_, .dict ho hc hd h1 h2, fun z => by
      rcases List.mem_append.mp z with z | z
      · rcases List.mem_cons.mp z with z | z
        · rw [← z] at sm
          exact absurd sm (by decide)
        · exact n1 z
      · exact n2 z⟩
theorem DaAll.reads (I : Inv X pins σ H s) : ∀ {vs : List V} {ds : List PyData} {us : List Value}, DaAll X.K H vs ds → Vals vs us → ∃ as, ReadsAll s.heap us ds as ∧ sysModules ∉ as
  | _, _, _, .nil, r => by
    cases r
    exact ⟨_, .nil, fun z => nomatch z⟩
  | _, _, _, .cons h t, r => by
    cases r with
    | cons r1 r2 =>
      obtain ⟨as, h1, n1⟩ := Da.reads I h r1
      obtain ⟨bs, h2, n2⟩ := DaAll.reads I t r2
      exact ⟨_, .cons h1 h2, fun z => (List.mem_append.mp z).elim n1 n2⟩
end
end
section
variable {X : Cx}
def rRepr (K : PySem.W.Frag) : List V → Hp → VK → Prop := fun xs H Q => ∃ v d, xs = [v] ∧ Da K H v d ∧ d.showable = true ∧ d.depth ≤ 32 ∧ d.shown.length ≤ sizeLine ∧ Q (.str d.shown) H
theorem call_repr (hg : X.A.guards = some []) (hu : X.A.units + 64 < cLine) : CallR X (.builtin "repr") (rRepr X.K) := by
  rintro pins s σ H xs us Q I r ⟨v, d, rfl, hd, sh, dp, sz, q⟩
  cases r with
  | cons r1 r2 =>
    cases r2
    obtain ⟨as, hr, hn⟩ := Da.reads I hd r1
    cases hd with
    | non =>
      cases r1
      exact PySem.P.repr_of_none ⟨.str _, H, I.tok _, ⟨_, rfl⟩, q⟩
    | bl b =>
      cases r1
      exact PySem.P.repr_of_bool ⟨.str _, H, I.tok _, ⟨_, rfl⟩, q⟩
    | int i =>
      obtain ⟨t, rfl⟩ := r1
      exact PySem.P.repr_of_int (by simpa [PyData.showable] using sh) ⟨.str _, H, I.tok _, ⟨_, rfl⟩, q⟩
    | str x =>
      obtain ⟨t, rfl⟩ := r1
      exact PySem.P.repr_of_str ⟨.str _, H, I.tok _, ⟨_, rfl⟩, q⟩ (by simpa only [PyData.shown] using sz)
    | lst ne a b =>
      cases r1
      exact repr_of_reads' hr sh (fun _ => hn) hg (by omega) (fun _ _ e => e) (fun h' u tk k => ⟨.str _, H, I.kept (t' := tk) k, ⟨_, rfl⟩, q⟩) sz
    | tup a b =>
      cases r1
      exact repr_of_reads' hr sh (fun _ => hn) hg (by omega) (fun _ _ e => e) (fun h' u tk k => ⟨.str _, H, I.kept (t' := tk) k, ⟨_, rfl⟩, q⟩) sz
    | dct a b c =>
      cases r1
      exact repr_of_reads' hr sh (fun _ => hn) hg (by omega) (fun _ _ e => e) (fun h' u tk k => ⟨.str _, H, I.kept (t' := tk) k, ⟨_, rfl⟩, q⟩) sz
/-- [a, b, ..]: a new list, not at the place of sys.modules -/
def tLstS (t : TA) : TE := fun σ H Q => t σ H fun xs H1 => xs.length ≤ sizeLine ∧ ∀ p, H1 p = none → p ≠ sysModules → Q (.ref p) (upd H1 p (.lst xs))
theorem pe_lstS {es : List Expr} {t : TA} {pos : Pos} (h : PA X es t) : PE X (.List es pos) (tLstS t) := by
  constructor
  intro pins s σ H Q I hq
  refine wpAny_List_spliced (wpAny_mono (h.run pos pins s σ H _ I hq) (fun us s1 z => ?_) fun _ _ z => z)
  obtain ⟨xs, H1, J, r, few, q⟩ := z
  have new : H1 s1.heap.objs.size = none := J.hok.fresh (Nat.le_refl _)
  refine ⟨by rw [← r.length]; exact few, .ref s1.heap.objs.size, upd H1 s1.heap.objs.size (.lst xs), J.laid (o := .lst xs) (t' := s1.toks) (fun b u e => Heap.get?_push_of_some _ e) (Nat.le_refl _) ⟨few, us, 0, r, Heap.get?_push_size _ rfl⟩, rfl, q _ new (Nat.ne_of_gt J.big)⟩
end
end G

/-! The law's pen: a dict of cells, of a turn and of what is left of a great cell; a draw hands back a number below the bound. -/
namespace LW
open PySem L2 G
def top (i : Nat) : Stmt := PySem.Challenge.pw_namechains_k79_statements_written_and_re.main.body.getD i (.Pass ⟨0, 0, 0, 0⟩)
abbrev sPen : Stmt := top 49
abbrev sDraw : Stmt := top 50
abbrev sPick : Stmt := top 51
abbrev kCe : Key := Sum.inr (Str.ofString "cells")
abbrev kTu : Key := Sum.inr (Str.ofString "turn")
abbrev kLe : Key := Sum.inr (Str.ofString "left")
/-- the pen at p, its list of cells at c -/
structure PenAt (H : Hp) (p c : Addr) (cells : List Int) (t l : Int) : Prop where
  pen : H p = some (.dK [(kCe, .ref c), (kTu, .int t), (kLe, .int l)])
  lst : H c = some (.lst (cells.map V.int))
  few : cells.length ≤ 63
  t0 : 0 ≤ t
theorem k12 : ¬ ((kCe : Key) = kTu) := by decide +kernel
theorem k13 : ¬ ((kCe : Key) = kLe) := by decide +kernel
theorem k23 : ¬ ((kTu : Key) = kLe) := by decide +kernel
theorem v1 {a b d : V} : valV ([(kCe, a), (kTu, b), (kLe, d)] : List (Key × V)) (kCe) = some a := by simp [valV]
theorem v2 {a b d : V} : valV ([(kCe, a), (kTu, b), (kLe, d)] : List (Key × V)) (kTu) = some b := by
  unfold valV
  rw [List.find?_cons_of_neg (by simpa using k12), List.find?_cons_of_pos (by simp)]
  rfl
theorem v3 {a b d : V} : valV ([(kCe, a), (kTu, b), (kLe, d)] : List (Key × V)) (kLe) = some d := by
  unfold valV
  rw [List.find?_cons_of_neg (by simpa using k13), List.find?_cons_of_neg (by simpa using k23), List.find?_cons_of_pos (by simp)]
  rfl
theorem p2 {a b d x : V} : putK ([(kCe, a), (kTu, b), (kLe, d)] : List (Key × V)) (kTu) x = [(kCe, a), (kTu, x), (kLe, d)] := by
  have h1 : ¬ ((kLe : Key) = kTu) := fun z => k23 z.symm
  unfold putK
  rw [if_pos (by simp), List.map_cons, List.map_cons, List.map_cons, List.map_nil, if_neg k12, if_pos rfl, if_neg h1]
theorem p3 {a b d x : V} : putK ([(kCe, a), (kTu, b), (kLe, d)] : List (Key × V)) (kLe) x = [(kCe, a), (kTu, b), (kLe, x)] := by
  unfold putK
  rw [if_pos (by simp), List.map_cons, List.map_cons, List.map_cons, List.map_nil, if_neg k13, if_neg k23, if_pos rfl]
theorem merge3 {a b d : V} : mergeK [] ([(kCe, a), (kTu, b), (kLe, d)] : List (Key × V)) = [(kCe, a), (kTu, b), (kLe, d)] := by
  have e1 : ¬ (Str.ofString "cells" = Str.ofString "turn") := by decide +kernel
  have e2 : ¬ (Str.ofString "cells" = Str.ofString "left") := by decide +kernel
  have e3 : ¬ (Str.ofString "turn" = Str.ofString "left") := by decide +kernel
  simp [mergeK, putK, e1, e2, e3]
theorem PenAt.npc {H : Hp} {p c : Addr} {cells : List Int} {t l : Int} (N : PenAt H p c cells t l) : c ≠ p := ne_of N.lst N.pen (by intro z; cases z)
theorem PenAt.left {H : Hp} {p c : Addr} {cells : List Int} {t l : Int} (N : PenAt H p c cells t l) (x : Int) : PenAt (upd H p (.dK (putK [(kCe, .ref c), (kTu, .int t), (kLe, .int l)] kLe (.int x)))) p c cells t x :=
  ⟨by rw [upd_same, p3], by rw [upd_ne N.npc]; exact N.lst, N.few, N.t0⟩
theorem PenAt.turn {H : Hp} {p c : Addr} {cells : List Int} {t l : Int} (N : PenAt H p c cells t l) {x : Int} (h : 0 ≤ x) : PenAt (upd H p (.dK (putK [(kCe, .ref c), (kTu, .int t), (kLe, .int l)] kTu (.int x)))) p c cells x l :=
  ⟨by rw [upd_same, p2], by rw [upd_ne N.npc]; exact N.lst, N.few, h⟩
theorem PenAt.same {H H' : Hp} {p c : Addr} {cells : List Int} {t l : Int} (N : PenAt H p c cells t l) (e : Same H H') : PenAt H' p c cells t l := ⟨e _ _ N.pen, e _ _ N.lst, N.few, N.t0⟩
theorem PenAt.gL {H : Hp} {p c : Addr} {cells : List Int} {t l : Int} (N : PenAt H p c cells t l) : DGet H p (.str "left") (some (.int l)) := v3 (a := .ref c) (b := .int t) (d := .int l) ▸ DGet.k (k := kLe) N.pen
theorem PenAt.gT {H : Hp} {p c : Addr} {cells : List Int} {t l : Int} (N : PenAt H p c cells t l) : DGet H p (.str "turn") (some (.int t)) := v2 (a := .ref c) (b := .int t) (d := .int l) ▸ DGet.k (k := kTu) N.pen
theorem PenAt.gC {H : Hp} {p c : Addr} {cells : List Int} {t l : Int} (N : PenAt H p c cells t l) : DGet H p (.str "cells") (some (.ref c)) := v1 (a := .ref c) (b := .int t) (d := .int l) ▸ DGet.k (k := kCe) N.pen
theorem penLen {c : Addr} {t l : Int} : ([(kCe, V.ref c), (kTu, .int t), (kLe, .int l)] : List (Key × V)).length < sizeLine := by show 3 < sizeLine; decide
theorem dpInts (K : PySem.W.Frag) (H : Hp) : ∀ l : List Int, DpAll K H (l.map V.int) (l.map PyData.int)
  | [] => .nil
  | i :: l => .cons (.int i) (dpInts K H l)
theorem layInts : ∀ l : List Int, PyData.canLayAll0 (l.map PyData.int) = true
  | [] => by simp only [List.map_nil, PyData.canLayAll0]
  | i :: l => by simp only [List.map_cons, PyData.canLayAll0, PyData.canLay0, layInts l, Bool.and_self]
theorem depInts : ∀ l : List Int, PyData.depthAll (l.map PyData.int) = 0
  | [] => by simp only [List.map_nil, PyData.depthAll]
  | i :: l => by simp only [List.map_cons, PyData.depthAll, PyData.depth, depInts l, Nat.max_self]
theorem shapedInts (l : List Int) : SeqAt.shaped (.list (l.map PyData.int)) = true := by
  have h1 : (PyData.list (l.map PyData.int)).canLay0 = true := by simp only [PyData.canLay0, layInts]
  have h2 : (PyData.list (l.map PyData.int)).depth ≤ 64 := by simp only [PyData.depth, depInts]; omega
  simp only [SeqAt.shaped, h1, h2, decide_true, Bool.and_self]
theorem eqvNil : ∀ l : List Int, PyData.eqv (.list (l.map PyData.int)) (.list []) = decide (l = [])
  | [] => by simp [PyData.eqv, PyData.eqvAll]
  | i :: l => by simp [PyData.eqv, PyData.eqvAll]
theorem atCells {l : List Int} {i : Int} (h0 : 0 ≤ i) (h : i < l.length) : ∃ z, atI (l.map V.int) i = some (.int z) := by
  have hl : i.toNat < l.length := by omega
  exact ⟨l[i.toNat], at_of (j := i.toNat) (by omega) (by rw [List.getElem?_map, List.getElem?_eq_getElem hl]; rfl)⟩
/-- a number of the row of primes -/
def primes : List Int := [2147483629, 2147483647, 2147483587, 2147483563, 2147483579]
theorem prime_at {i : Int} (h0 : 0 ≤ i) (h5 : i < 5) : ∃ q : Int, atI (primes.map V.int) i = some (.int q) ∧ 2147483563 ≤ q ∧ q ≤ 2147483647 := by
  have h : i = 0 ∨ i = 1 ∨ i = 2 ∨ i = 3 ∨ i = 4 := by omega
  rcases h with rfl | rfl | rfl | rfl | rfl
  · exact ⟨2147483629, by decide +kernel, by omega, by omega⟩
  · exact ⟨2147483647, by decide +kernel, by omega, by omega⟩
  · exact ⟨2147483587, by decide +kernel, by omega, by omega⟩
  · exact ⟨2147483563, by decide +kernel, by omega, by omega⟩
  · exact ⟨2147483579, by decide +kernel, by omega, by omega⟩
theorem fm {i j : Int} (h : 0 < j) : 0 ≤ i.fmod j ∧ i.fmod j < j := ⟨Int.fmod_nonneg_of_pos i h, Int.fmod_lt_of_pos i h⟩
theorem cut63 (ns : List Int) (h : ns.length ≤ 63) : cutV (ns.map V.int) none (some 63) = ns.map V.int := by
  have e1 : HT.sIx (ns.map V.int).length 0 none = 0 := rfl
  have e2 : (ns.map V.int).length ≤ HT.sIx (ns.map V.int).length (ns.map V.int).length (some 63) := by
    rw [List.length_map]
    rw [show ((63 : Int)) = ((63 : Nat) : Int) from rfl, HT.sIx_nat]
    omega
  unfold cutV
  rw [e1, List.drop_zero, Nat.sub_zero]
  exact List.take_of_length_le e2
/-- what the walk asks of the built-ins -/
structure Bt (mg : Str → Option Value) : Prop where
  int : mg "int" = none
  len : mg "len" = none
  abs : mg "abs" = none
  list : mg "list" = none
def spDraw : Sp := fun vs H Q _ => ∃ (p c : Addr) (cells : List Int) (t l many : Int), vs = [.ref p, .int many] ∧ PenAt H p c cells t l ∧ t ≤ 1000000 ∧ 1 ≤ many ∧ many ≤ 1000000 ∧
  ∀ (r t' l' : Int) (H' : Hp), 0 ≤ r → r < many → t' ≤ t + 1 → PenAt H' p c cells t' l' → (∀ b o, H b = some o → b ≠ p → H' b = some o) → Q (.int r) H'
section
variable {P : Program} {w : World} {K : PySem.W.Frag} {mg : Str → Option Value} {base : Heap}
theorem scD : FnScope ["_law_pen_here", "_law_many", "_law_digit", "_law_turn", "_law_cell", "_law_primes", "_law_prime", "_law_drawn"] ["_law_pen_here", "_law_many"] (defScope sDraw) := ⟨rfl, rfl, rfl, by decide +kernel, rfl, by decide +kernel, by decide +kernel⟩
theorem ok_draw {f : Addr} {fd : FuncData} (F : Fun K "_law_draw" "_law_draw" sDraw f fd) (T : Bt mg) : FnOk P w K mg base CX0 1 f fd ["_law_pen_here", "_law_many"] spDraw := by
  refine F.ok scD (fun vs H Q E h => ?_) (fun cdv A outer s H vs Q E hr h => ?_)
  · obtain ⟨p, c, cells, t, l, many, rfl, _⟩ := h
    rfl
  · obtain ⟨p, c, cells, t, l, many, rfl, N, ht, hm1, hm2, k⟩ := h
    have hu := hu_of hr
    have hu64 := hr.units
    refine ⟨_, pss_cons (ps_if (pt_cmpR op_gt (pe_dget hu (pv 0) pe_str (fun _ _ => rfl)) pe_int (nomark _))
        (pss_cons (ps_set (i := 2) scD.nd rfl (Or.inl rfl) (pe_op op_modN (pe_callTy call_int1 (by rfl) T.int (by decide +kernel) (pa_cons (pe_dget hu (pv 0) pe_str (fun _ _ => rfl)) pa_nil)) (pv 1)))
        (pss_cons (ps_dput hu (pv 0) pe_str (pe_op op_fdivN (pe_dget hu (pv 0) pe_str (fun _ _ => rfl)) (pv 1)) rfl)
        (pss_one (ps_ret (pv 2))))) pss_nil)
      (pss_cons (ps_set (i := 3) scD.nd rfl (Or.inl rfl) (pe_dget hu (pv 0) pe_str (fun _ _ => rfl)))
      (pss_cons (ps_dput hu (pv 0) pe_str (pe_op op_add (pv 3) pe_int) rfl)
      (pss_cons (ps_set (i := 4) scD.nd rfl (Or.inl rfl) (pe_op op_add (pe_op op_mul pe_int (pv 3)) pe_int))
      (pss_cons (ps_if (pt_cmpR (op_neD hu64) (pe_dget hu (pv 0) pe_str (fun _ _ => rfl)) (pe_lst pa_nil) (nomark _))
        (pss_one (ps_set (i := 4) scD.nd rfl (Or.inl rfl) (pe_ix ix_list (pe_dget hu (pv 0) pe_str (fun _ _ => rfl))
          (pe_op op_modN (pe_callTy call_int1 (by rfl) T.int (by decide +kernel) (pa_cons (pv 3) pa_nil)) (pe_callB call_len (by rfl) T.len PySem.boot_len (pa_cons (pe_dget hu (pv 0) pe_str (fun _ _ => rfl)) pa_nil))) (fun _ _ => rfl)))) pss_nil)
      (pss_cons (ps_if (PW.pt (pw_and (pt_cmpR op_lt (pv 3) (pe_callB call_len (by rfl) T.len PySem.boot_len (pa_cons (pe_dget hu (pv 0) pe_str (fun _ _ => rfl)) pa_nil)) (nomark _))
          (pw_and1 (pt_cmpR op_ge (pe_callB call_abs (by rfl) T.abs (by decide +kernel) (pa_cons (pv 4) pa_nil)) (pe_op op_pow pe_int pe_int) (nomark _)))))
        (pss_cons (ps_dput hu (pv 0) pe_str (pe_op op_fdivN (pe_op op_sub (pe_callB call_abs (by rfl) T.abs (by decide +kernel) (pa_cons (pv 4) pa_nil)) (pe_op op_pow pe_int pe_int)) (pv 1)) rfl)
        (pss_one (ps_ret (pe_op op_modN (pe_op op_sub (pe_callB call_abs (by rfl) T.abs (by decide +kernel) (pa_cons (pv 4) pa_nil)) (pe_op op_pow pe_int pe_int)) (pv 1))))) pss_nil)
      (pss_cons (ps_set (i := 5) scD.nd rfl (Or.inl rfl) (pe_lst (pa_cons pe_int (pa_cons pe_int (pa_cons pe_int (pa_cons pe_int (pa_cons pe_int pa_nil)))))))
      (pss_cons (ps_set (i := 6) scD.nd rfl (Or.inl rfl) (pe_ix ix_list (pv 5) (pe_op op_modN (pe_callTy call_int1 (by rfl) T.int (by decide +kernel) (pa_cons (pv 3) pa_nil)) pe_int) (fun _ _ => rfl)))
      (pss_cons (ps_set (i := 7) scD.nd rfl (Or.inl rfl) (pe_op op_modN (pe_callTy call_int1 (by rfl) T.int (by decide +kernel) (pa_cons
          (pe_op op_add (pe_op op_add (pe_op op_mul (pe_op op_modN (pe_callTy call_int1 (by rfl) T.int (by decide +kernel) (pa_cons (pv 4) pa_nil)) (pv 6)) pe_int) (pe_op op_mul (pv 3) (pe_op op_add (pe_op op_mul pe_int (pv 3)) pe_int))) pe_int) pa_nil)) (pv 6)))
      (pss_cons (ps_set (i := 7) scD.nd rfl (Or.inl rfl) (pe_op op_modN (pe_callTy call_int1 (by rfl) T.int (by decide +kernel) (pa_cons (pe_op op_mul (pv 7) (pe_op op_add (pv 7) pe_int)) pa_nil))
          (pe_ix ix_list (pv 5) (pe_op op_modN (pe_callTy call_int1 (by rfl) T.int (by decide +kernel) (pa_cons (pe_op op_add (pv 3) pe_int) pa_nil)) pe_int) (fun _ _ => rfl))))
      (pss_one (ps_ret (pe_op op_modN (pe_callTy call_int1 (by rfl) T.int (by decide +kernel) (pa_cons (pe_op op_fdivN (pe_op op_modN (pe_callTy call_int1 (by rfl) T.int (by decide +kernel) (pa_cons
          (pe_op op_add (pe_op op_add (pe_op op_mul (pv 7) (pv 7)) (pe_op op_mul pe_int (pv 7))) (pv 3)) pa_nil)) pe_int) pe_int) pa_nil)) (pv 1))))))))))))), ?_⟩
    have ne0 : many ≠ 0 := by omega
    have cdn : many ≠ 0 ∧ many.natAbs < 1073741824 := ⟨ne0, by omega⟩
    have fmM : ∀ i : Int, 0 ≤ i.fmod many ∧ i.fmod many < many := fun i => fm (by omega)
    refine ⟨_, rfl, p, _, rfl, N.gL, _, _, rfl, rfl, _, rfl, ?_⟩
    refine ite2 (fun _ => ?_) (fun _ => ?_)
    · refine ⟨_, rfl, p, _, rfl, N.gL, .inl ⟨_, rfl, _, rfl, _, _, rfl, rfl, ne0, ?_⟩⟩
      refine ⟨_, rfl, p, _, rfl, N.gL, _, rfl, _, _, rfl, rfl, cdn, _, rfl, p, _, rfl, DPut.k (k := kLe) N.pen penLen, ?_⟩
      refine ⟨_, rfl, ?_⟩
      exact k _ t (l.fdiv many) _ (fmM l).1 (fmM l).2 (by omega) (N.left _) fun b o e hb => by rw [upd_ne hb]; exact e
    · refine ⟨_, rfl, p, _, rfl, N.gT, ?_⟩
      refine ⟨_, rfl, _, _, rfl, rfl, _, rfl, p, _, rfl, DPut.k (k := kTu) N.pen penLen, ?_⟩
      have N1 := N.turn (x := t + 1) (by have := N.t0; omega)
      have old1 : ∀ b o, H b = some o → b ≠ p → (upd H p (.dK (putK [(kCe, .ref c), (kTu, .int t), (kLe, .int l)] kTu (.int (t + 1))))) b = some o := fun b o e hb => by rw [upd_ne hb]; exact e
      revert N1 old1
      generalize (upd H p (.dK (putK [(kCe, .ref c), (kTu, .int t), (kLe, .int l)] kTu (.int (t + 1))))) = H1
      intro N1 old1
      refine ⟨_, rfl, _, _, rfl, rfl, .inl ⟨by decide, by decide⟩, _, _, rfl, rfl, ?_⟩
      refine ⟨_, rfl, p, _, rfl, N1.gC, by decide, fun q hq => ?_⟩
      have e1 : (upd H1 q (.lst [])) c = some (.lst (cells.map V.int)) := by rw [upd_ne (ne_of_none N1.lst hq)]; exact N1.lst
      refine ⟨.list (cells.map PyData.int), .list [], .lst (Or.inl (Or.inl e1)) (dpInts _ _ cells), .lst (Or.inl (Or.inl upd_same)) .nil, shapedInts cells, by decide +kernel, _, rfl, ?_⟩
      have s1 : Same H1 (upd H1 q (.lst [])) := fun b o e => by rw [upd_ne (ne_of_none e hq)]; exact e
      have N2 := N1.same s1
      have old2 : ∀ b o, H b = some o → b ≠ p → (upd H1 q (.lst [])) b = some o := fun b o e hb => s1 b o (old1 b o e hb)
      revert N2 old2
      generalize upd H1 q (.lst []) = H2
      intro N2 old2
      rw [eqvNil]
      by_cases hc : cells = []
      rw [decide_eq_true hc]
      refine iteF ?_
      rotate_left
      rw [decide_eq_false hc]
      refine iteT ?_
      have pos : (0 : Int) < cells.length := by
        have := List.length_pos_iff.mpr hc
        omega
      obtain ⟨z, hz⟩ := atCells (l := cells) (fm (i := t) pos).1 (fm (i := t) pos).2
      refine ⟨_, rfl, p, _, rfl, N2.gC, _, rfl, .inl ⟨_, rfl, _, rfl, p, _, rfl, N2.gC, _, cells.length, rfl, .inl ⟨_, Or.inl (Or.inl N2.lst), (List.length_map ..).symm⟩, _, _, rfl, rfl, (by omega), c, _, _, _, rfl, rfl, Or.inl (Or.inl N2.lst), hz, ?_⟩⟩
      all_goals
        have pw : (0 : Int) ≤ 18 ∧ (18 : Int) ≤ 1000000 ∧ (10 : Int).natAbs < 2 ^ 64 := ⟨by decide, by decide, by decide⟩
        refine ⟨_, rfl, _, rfl, p, _, rfl, N2.gC, _, cells.length, rfl, .inl ⟨_, Or.inl (Or.inl N2.lst), (List.length_map ..).symm⟩, _, _, rfl, rfl, _, rfl, ?_⟩
        refine ite2 (fun hA => ?_) (fun hA => ?_)
      all_goals try refine ⟨_, rfl, _, rfl, _, _, rfl, rfl, pw, _, _, rfl, rfl, _, rfl, ?_⟩
      all_goals try refine ite2 (fun hB => ?_) (fun hB => ?_)
      all_goals try first
        | exact absurd hB Bool.false_ne_true
        | (refine ⟨_, rfl, _, rfl, _, _, rfl, rfl, pw, _, _, rfl, rfl, _, rfl, _, _, rfl, rfl, cdn, _, rfl, p, _, rfl, DPut.k (k := kLe) N2.pen penLen, ?_⟩
           refine ⟨_, rfl, _, rfl, _, _, rfl, rfl, pw, _, _, rfl, rfl, _, rfl, _, _, rfl, rfl, ne0, ?_⟩
           exact k _ (t + 1) _ _ (fmM _).1 (fmM _).2 (by omega) (N2.left _) (fun b o e hb => by rw [upd_ne hb]; exact old2 b o e hb))
      all_goals
        obtain ⟨q1, hq1, lo1, hi1⟩ := prime_at (fm (i := t) (j := 5) (by decide)).1 (fm (i := t) (j := 5) (by decide)).2
        obtain ⟨q2, hq2, lo2, hi2⟩ := prime_at (fm (i := t + 2) (j := 5) (by decide)).1 (fm (i := t + 2) (j := 5) (by decide)).2
        have t0 := N.t0
        refine ⟨by decide, fun pr hpr => ?_⟩
        have here : (upd H2 pr (.lst (primes.map V.int))) pr = some (.lst (primes.map V.int)) := upd_same
        have s2 : Same H2 (upd H2 pr (.lst (primes.map V.int))) := fun b o e => by rw [upd_ne (ne_of_none e hpr)]; exact e
        have N3 := N2.same s2
        have old3 : ∀ b o, H b = some o → b ≠ p → (upd H2 pr (.lst (primes.map V.int))) b = some o := fun b o e hb => s2 b o (old2 b o e hb)
        have b1 : ∀ i : Int, -(2 ^ 64) < i.fmod q1 ∧ i.fmod q1 < 2 ^ 64 := fun i => ⟨by have := (fm (i := i) (j := q1) (by omega)).1; omega, by have := (fm (i := i) (j := q1) (by omega)).2; omega⟩
        have b2 : ∀ i : Int, -(2 ^ 64) < i.fmod q2 ∧ i.fmod q2 < 2 ^ 64 := fun i => ⟨by have := (fm (i := i) (j := q2) (by omega)).1; omega, by have := (fm (i := i) (j := q2) (by omega)).2; omega⟩
        have n1 : q1 ≠ 0 := by omega
        have n2 : q2 ≠ 0 := by omega
        have bt : -(2 ^ 64) < t ∧ t < 2 ^ 64 := ⟨by omega, by omega⟩
        refine ⟨_, rfl, _, rfl, .inl ⟨_, rfl, _, _, rfl, rfl, (show (5 : Int) ≠ 0 by decide), pr, _, _, _, rfl, rfl, Or.inl (Or.inl here), hq1, ?_⟩⟩
        refine ⟨_, rfl, .inl ⟨_, rfl, _, rfl, _, _, rfl, rfl, n1, _, _, rfl, rfl, .inr ⟨by decide, by decide⟩, _, rfl, _, rfl, _, _, rfl, rfl, .inl ⟨by decide, by decide⟩, _, _, rfl, rfl, _, _, rfl, rfl, .inl bt, _, _, rfl, rfl, _, _, rfl, rfl, .inl ⟨_, rfl, _, rfl, _, _, rfl, rfl, n1, ?_⟩⟩⟩
        refine ⟨_, rfl, _, rfl, _, _, rfl, rfl, _, _, rfl, rfl, .inl (b1 _), .inl ⟨_, rfl, _, rfl, _, rfl, _, _, rfl, rfl, .inl ⟨_, rfl, _, _, rfl, rfl, (show (5 : Int) ≠ 0 by decide), pr, _, _, _, rfl, rfl, Or.inl (Or.inl here), hq2, _, _, rfl, rfl, n2, ?_⟩⟩⟩
        refine ⟨_, rfl, _, rfl, _, _, rfl, rfl, .inl (b2 _), _, rfl, _, _, rfl, rfl, .inl ⟨by decide, by decide⟩, _, _, rfl, rfl, _, rfl, _, _, rfl, rfl, .inl ⟨_, rfl, _, _, rfl, rfl, (show (2147483549 : Int) ≠ 0 by decide), _, _, rfl, rfl, ⟨by decide, by decide⟩, .inl ⟨_, rfl, _, rfl, _, _, rfl, rfl, ne0, ?_⟩⟩⟩
        exact k _ (t + 1) _ _ (fmM _).1 (fmM _).2 (by omega) N3 old3
/-- the pen is made of the script -/
def spPen (K : PySem.W.Frag) : Sp := fun vs H Q _ => ∃ (a : Addr) (ns : List Int), vs = [.ref a] ∧ SqL K H a (ns.map V.int) ∧ ns.length ≤ 63 ∧ ∀ (p c : Addr) (H' : Hp), H p = none → H c = none → Same H H' → PenAt H' p c ns 0 0 → Q (.ref p) H'
theorem scPen : FnScope ["_law_script"] ["_law_script"] (defScope sPen) := ⟨rfl, rfl, rfl, by decide +kernel, rfl, by decide +kernel, by decide +kernel⟩
theorem ok_pen {f : Addr} {fd : FuncData} (F : Fun K "_law_pen" "_law_pen" sPen f fd) (T : Bt mg) : FnOk P w K mg base CX0 1 f fd ["_law_script"] (spPen K) := by
  refine F.ok scPen (fun vs H Q E h => ?_) (fun cdv A outer s H vs Q E hr h => ?_)
  · obtain ⟨a, ns, rfl, _⟩ := h
    rfl
  · obtain ⟨a, ns, rfl, hS, few, k⟩ := h
    refine ⟨_, pss_one (ps_ret (pe_disp (pps_cons pe_str (pe_callTy call_list_of (by rfl) T.list (by decide +kernel) (pa_cons (pe_slice sl_list (pv 0) po_none (po_some pe_int)) pa_nil))
      (pps_cons pe_str pe_int (pps_cons pe_str pe_int pps_nil))) (by rfl) (by rfl) (fun z => by cases z) (by decide))), ?_⟩
    intro p hp
    have s0 : Same H (upd H p (.dK [])) := fun b o e => by rw [upd_ne (ne_of_none e hp)]; exact e
    refine ⟨_, rfl, _, rfl, a, _, rfl, s0.seq hS, fun q hq => ?_⟩
    refine ⟨q, _, rfl, .inl (Or.inl (Or.inl upd_same)), fun c hc => ?_⟩
    rw [cut63 ns few] at hc ⊢
    have s1 : Same (upd H p (.dK [])) (upd (upd H p (.dK [])) q (.lst (ns.map V.int))) := fun b o e => by rw [upd_ne (ne_of_none e hq)]; exact e
    have s2 : Same (upd (upd H p (.dK [])) q (.lst (ns.map V.int))) (upd (upd (upd H p (.dK [])) q (.lst (ns.map V.int))) c (.lst (ns.map V.int))) := fun b o e => by rw [upd_ne (ne_of_none e hc)]; exact e
    have hpc : (upd (upd (upd H p (.dK [])) q (.lst (ns.map V.int))) c (.lst (ns.map V.int))) p = some (.dK []) := s2 _ _ (s1 _ _ upd_same)
    have npc : c ≠ p := fun z => by
      rw [z] at hc
      rw [s1 _ _ upd_same] at hc
      cases hc
    refine ⟨hpc, [(kCe, .ref c), (kTu, .int 0), (kLe, .int 0)], rfl, (show 3 ≤ 15 by decide), ?_⟩
    rw [merge3]
    refine k p c _ hp (s0.free (s1.free hc)) (fun b o e => ?_) ⟨upd_same, ?_, few, by decide⟩
    · rw [upd_ne (ne_of_none e hp)]
      exact s2 _ _ (s1 _ _ (s0 _ _ e))
    · rw [upd_ne npc, upd_same]
def spPick (K : PySem.W.Frag) : Sp := fun vs H Q _ => ∃ (p c o : Addr) (cells : List Int) (t l : Int) (xs : List V), vs = [.ref p, .ref o] ∧ PenAt H p c cells t l ∧ t ≤ 1000000 ∧ H o = some (.lst xs) ∧ 1 ≤ xs.length ∧ xs.length ≤ 1000000 ∧
  ∀ (x : V) (t' l' : Int) (H' : Hp), x ∈ xs → t' ≤ t + 1 → PenAt H' p c cells t' l' → (∀ b o, H b = some o → b ≠ p → H' b = some o) → Q x H'
theorem scPick : FnScope ["_law_pen_here", "_law_options"] ["_law_pen_here", "_law_options"] (defScope sPick) := ⟨rfl, rfl, rfl, by decide +kernel, rfl, by decide +kernel, by decide +kernel⟩
theorem ok_pick {f fD : Addr} {fd fdD : FuncData} (F : Fun K "_law_pick" "_law_pick" sPick f fd) (T : Bt mg) (GD : FnOk P w K mg base CX0 1 fD fdD ["_law_pen_here", "_law_many"] spDraw) (mD : mg "_law_draw" = some (.ref fD)) (kD : PySem.W.keepIn K (.ref fD) = true) (bD : Binds K fdD ["_law_pen_here", "_law_many"] []) :
    FnOk P w K mg base CX0 2 f fd ["_law_pen_here", "_law_options"] (spPick K) := by
  refine F.ok scPick (fun vs H Q E h => ?_) (fun cdv A outer s H vs Q E hr h => ?_)
  · obtain ⟨p, c, o, cells, t, l, xs, rfl, _⟩ := h
    rfl
  · obtain ⟨p, c, o, cells, t, l, xs, rfl, N, ht, ho, n1, n2, k⟩ := h
    refine ⟨_, pss_one (ps_ret (pe_ix ix_list (pv 1) (pe_call GD hr (by rfl) mD kD bD .nil pass0 (pa_cons (pv 0) (pa_cons (pe_callB call_len (by rfl) T.len PySem.boot_len (pa_cons (pv 1) pa_nil)) pa_nil))) (fun _ _ => rfl))), ?_⟩
    have nop : o ≠ p := ne_of ho N.pen (by intro z; cases z)
    refine ⟨_, rfl, _, rfl, _, rfl, .ref o, xs.length, rfl, .inl ⟨_, Or.inl (Or.inl ho), rfl⟩, ?_⟩
    refine ⟨p, c, cells, t, l, xs.length, rfl, N, ht, by omega, by omega, fun r t' l' H' r0 r1 ht' N' old => ?_⟩
    have hl : r.toNat < xs.length := by omega
    refine ⟨o, xs, r, xs[r.toNat], rfl, rfl, Or.inl (Or.inl (old _ _ ho nop)), at_of (j := r.toNat) (by omega) (List.getElem?_eq_getElem hl), ?_⟩
    exact k _ t' l' H' (List.getElem_mem hl) ht' N' old
end
end LW

/-! A method in which «super().__init__(e, ..)» stands among other statements: its class's cell, its start, its run. -/
namespace G
open PySem PySem.Spec PySem.Calls PyProof.Rows L2
open PySem.W (Frag)
/-- n defaults stand in a tuple of the written part -/
def DflS (K : Frag) (dV : Value) (n : Nat) : Prop := ∃ (T : Addr) (o : Obj) (its : List Value) (m : Nat), dV = .ref T ∧ K.lookup T = some o ∧ o.data = .seq its.toArray m ∧ its.length = n
/-- the function object of such a method, at f, with the cell of the class D and n defaults -/
structure FunS (K : Frag) (nm ql : Str) (st : Stmt) (n : Nat) (D f : Addr) (fd : FuncData) : Prop where
  fn : ∃ (oc : Value) (od : Option Addr) (dV kV doc pm : Value) (an : Option Addr) (cda cc : Addr) (ct : Value) (osl : Array (Option Value)), fd = PySem.W.ksFn nm ql (defArgs st) (defBody st) (defScope st) dV kV doc pm an (.ref cda) ct cc ∧
    K.lookup f = some ⟨oc, od, .func fd, osl⟩ ∧ PySem.W.codeIn K (.ref cda) ql = true ∧ (∃ cl cld csl, K.lookup cc = some ⟨cl, cld, .cell (some (.ref D)), csl⟩) ∧
    ∃ ccl cdd vs ccs tf, K.lookup cda = some ⟨ccl, cdd, .fields vs, ccs⟩ ∧ vs[2]? = some (.str "/claim/cut.py" tf) ∧ DflS K dV n
  kp : PySem.W.keepIn K (.ref f) = true
/-- its names: the parameters first, none captured but the class's -/
structure ScopeS (N ps : List Str) (sc : Scope) : Prop where
  kind : sc.kind = .function
  co : sc.isCoroutine = false
  gen : sc.isGenerator = false
  nd : N.Nodup
  pre : N.take ps.length = ps
  par : ∀ x ∈ ps, sc.names.lookup x = some .local
  noc : ∀ y ∈ sc.names, y.2 ≠ .cell
  free : ∀ y ∈ sc.names, y.2 = .free → y.1 = "__class__"
  sup : sc.names.lookup ("super" : Str) = some .globalImplicit
  cls : sc.names.lookup ("__class__" : Str) = some .free
  out : ("__class__" : Str) ∉ N
/-- the context of its body -/
def cxS (CX : CXT) (P : Program) (w : World) (K : Frag) (mg : Str → Option Value) (base : Heap) (N : List Str) (ql : Str) (sc : Scope) (f cda cc : Addr) (A : Around) (outer : List Env) (s : Shared) (H : Hp) (E : XK) : Cx where
  prog := P
  w := w
  K := K
  mg := mg
  base := base
  A := A.deeper (PySem.W.ksEnv ql sc s.heap.objs.size f (.ref cda) cc)
  N := N
  s_0 := s
  H_0 := H
  env := PySem.W.ksEnv ql sc s.heap.objs.size f (.ref cda) cc
  outer := outer
  stack := PySem.W.ksEnv ql sc s.heap.objs.size f (.ref cda) cc :: outer
  ex := []
  fn := fun _ => false
  calm := true
  pn := []
  xe := fun e z => wpAny (model P w) (A.deeper (PySem.W.ksEnv ql sc s.heap.objs.size f (.ref cda) cc)) (leaving (PySem.W.ksEnv ql sc s.heap.objs.size f (.ref cda) cc) e) (fun _ z2 => CX outer H s E e z2) (fun e2 z2 => CX outer H s E e2 z2) z
section
variable {CX : CXT} {P : Program} {w : World} {K : Frag} {mg : Str → Option Value} {base : Heap}
theorem start_get {N ps : List Str} {vs : List V} {i : Nat} {y : Str} {v : V} (pre : N.take ps.length = ps) (hl : vs.length = ps.length) (h1 : N[i]? = some y) (h2 : (L2.start N vs)[i]? = some (some v)) : vs[i]? = some v ∧ ps[i]? = some y := by
  have lt : i < vs.length := Decidable.byContradiction fun z => by
    unfold L2.start at h2
    rw [List.getElem?_append_right (by simpa using z), List.getElem?_replicate] at h2
    split at h2 <;> cases h2
  constructor
  · unfold L2.start at h2
    rw [List.getElem?_append_left (by simpa using lt), List.getElem?_map] at h2
    cases q : vs[i]? with
    | none => rw [q] at h2; cases h2
    | some a => rw [q] at h2; cases h2; rfl
  · have q : (N.take ps.length)[i]? = N[i]? := List.getElem?_take_of_lt (by omega)
    rw [pre] at q
    rw [q]
    exact h1
theorem zip_fst : ∀ (ps : List Str) (us : List Value), ((ps.zip us).map (·.1)).Sublist ps
  | [], _ => by simp
  | _ :: _, [] => by simp
  | p :: ps, u :: us => by
    rw [List.zip_cons_cons, List.map_cons]
    exact (zip_fst ps us).cons₂ p
theorem rev_lookup : ∀ {ps : List Str} {us : List Value} {i : Nat} {y : Str} {u : Value}, ps.Nodup → ps[i]? = some y → us[i]? = some u → (ps.zip us).reverse.lookup y = some u := by
  intro ps us i y u nd h1 h2
  have mem : (y, u) ∈ (ps.zip us).reverse := List.mem_reverse.mpr (List.mem_iff_getElem?.mpr ⟨i, by
    rw [List.getElem?_zip_eq_some]
    exact ⟨h1, h2⟩⟩)
  have keys : ((ps.zip us).reverse.map (·.1)).Nodup := by
    rw [List.map_reverse]
    refine (List.reverse_perm _).nodup_iff.mpr ?_
    exact nd.sublist (zip_fst ps us)
  obtain ⟨v, hv⟩ := mem_lookup mem
  have m2 := PySem.mem_of_lookup hv
  have : v = u := by
    generalize (ps.zip us).reverse = l at mem keys m2
    clear hv
    induction l with
    | nil => cases mem
    | cons a r ih =>
      rw [List.map_cons, List.nodup_cons] at keys
      rcases List.mem_cons.mp mem with e1 | e1
      · rcases List.mem_cons.mp m2 with e2 | e2
        · rw [← e1] at e2
          exact (Prod.mk.inj e2).2
        · exact absurd (List.mem_map_of_mem (f := (·.1)) e2) (by rw [← e1] at keys; exact keys.1)
      · rcases List.mem_cons.mp m2 with e2 | e2
        · exact absurd (List.mem_map_of_mem (f := (·.1)) e1) (by rw [← e2] at keys; exact keys.1)
        · exact ih e1 keys.2 e2
  rw [hv, this]
theorem start_S {N ps : List Str} {ql : Str} {sc : Scope} {f cda cc D : Addr} {A : Around} {outer : List Env} {s : Shared} {H : Hp} {E : XK} {us : List Value} {vs : List V} {h0 : Heap} {tk : Nat} (S : ScopeS N ps sc) (hd : A.handled = none) (e0 : Env0 P w K mg base A outer s H)
    (hl : vs.length = ps.length) (r : Vals vs us) (hcc : ∃ cl cld csl, K.lookup cc = some ⟨cl, cld, .cell (some (.ref D)), csl⟩) (ns : h0.Ns s.heap.objs.size fun x => (ps.zip us).reverse.lookup x) (k0 : ∀ b o, s.heap.get? b = some o → h0.get? b = some o) :
    Inv (cxS CX P w K mg base N ql sc f cda cc A outer s H E) [] (L2.start N vs) H { s with heap := h0, toks := tk } := by
  obtain ⟨cl, cld, csl, hcc⟩ := hcc
  have inB := e0.mod.kin _ _ hcc
  have inS := (e0.bs _ _ inB).1
  have nCC := (e0.bs _ _ inB).2
  have ndP : ps.Nodup := by rw [← S.pre]; exact S.nd.sublist (List.take_sublist _ _)
  have fr := e0.hok.fresh (Nat.le_refl s.heap.objs.size)
  have cells : ∀ {y c}, (PySem.W.ksEnv ql sc s.heap.objs.size f (.ref cda) cc).cells.lookup y = some c → y = "__class__" ∧ c = cc := fun {y c} h => by
    have m := PySem.mem_of_lookup h
    have m2 : (y, c) ∈ [(("__class__" : Str), cc)] := m
    rw [List.mem_singleton] at m2
    exact ⟨(Prod.mk.inj m2).1, (Prod.mk.inj m2).2⟩
  have noex : ∀ b : Addr, b ∉ (cxS CX P w K mg base N ql sc f cda cc A outer s H E).ex := fun b z => List.not_mem_nil z
  have ok : (cxS CX P w K mg base N ql sc f cda cc A outer s H E).Ok := ⟨e0.mod, S.kind, rfl, rfl, Nat.le_refl _, (by
      intro x y c h1 h2
      rw [(cells h1).1, (cells h2).1]), (by
      intro x hx
      rcases hx with hx | hx
      · exact absurd rfl (S.noc _ (PySem.mem_of_lookup (show sc.names.lookup x = some .cell from hx)))
      · have e := S.free _ (PySem.mem_of_lookup (show sc.names.lookup x = some .free from hx)) rfl
        have e : x = ("__class__" : Str) := e
        rw [e]
        exact ⟨cc, by show ([(("__class__" : Str), cc)] : List (Str × Addr)).lookup _ = _; simp [List.lookup]⟩), (by
      intro x c h
      cases h), fun _ => hd, Around.frames_deeper e0.frames, .inr ⟨rfl, rfl⟩, fun b z => (noex b z).elim, e0.bs, e0.bsz, fun b _ _ => noex b, fun b z => (noex b z).elim, e0.funs, e0.frf⟩
  refine ⟨ok, rfl, e0.bare, Un.kept k0, ⟨_, ns, ?_⟩, ?_, fr, ?_, fun p hp => (List.not_mem_nil hp).elim, e0.hok.kept k0, ?_⟩
  · intro i y v h1 h2 h3
    obtain ⟨g1, g2⟩ := start_get S.pre hl h1 h2
    obtain ⟨u, hu, rv⟩ := r.get g1
    refine ⟨u, rv, .inl ⟨S.par y (List.mem_of_getElem? g2), rev_lookup ndP g2 hu⟩⟩
  · intro x c h
    obtain ⟨_, rfl⟩ := cells h
    exact ⟨_, _, k0 _ _ inS, rfl⟩
  · intro x c h
    rw [(cells h).2]
    exact nCC
  · unfold L2.start
    have := congrArg List.length S.pre
    rw [List.length_take] at this
    show (vs.map some ++ List.replicate (N.length - vs.length) none).length = N.length
    rw [List.length_append, List.length_map, List.length_replicate]
    omega
/-- what the written part says, so that super() within a method of D, on an instance of C, finds the __init__ at f2 -/
structure SupOk (K : Frag) (mg : Str → Option Value) (C D f2 : Addr) : Prop where
  clsC : (PySem.W.clsIn K C).isSome = true
  clsD : (PySem.W.clsIn K D).isSome = true
  self : PySem.W.mroIn K C (.ref D) = some true
  sup : mg "super" = none
  any : PySem.W.nsIn K cStatics "thirdparty.any" = some none
  meth : PySem.W.ks_superIn K C D "__init__" = some (some (.ref f2))
  ty : PySem.W.typeIn K (.ref f2) = some (.type "function")
  fn : PySem.W.fnIn K f2 = true
def supB (K : Frag) (C D f2 : Addr) : Bool := (PySem.W.clsIn K C).isSome && ((PySem.W.clsIn K D).isSome && (decide (PySem.W.mroIn K C (.ref D) = some true) && (decide (PySem.W.nsIn K cStatics "thirdparty.any" = some none) &&
  (decide (PySem.W.ks_superIn K C D "__init__" = some (some (.ref f2))) && (decide (PySem.W.typeIn K (.ref f2) = some (.type "function")) && PySem.W.fnIn K f2)))))
theorem supB_ok {K : Frag} {mg : Str → Option Value} {C D f2 : Addr} (s : mg "super" = none) (h : supB K C D f2 = true) : SupOk K mg C D f2 := by
  simp only [supB, Bool.and_eq_true, decide_eq_true_eq] at h
  obtain ⟨h1, h2, h3, h4, h5, h6, h7⟩ := h
  exact ⟨h1, h2, h3, s, h4, h5, h6, h7⟩
/-- a def's run, as code -/
theorem fn_code {X : Cx} {CX : CXT} {k : Nat} {f : Addr} {fd : FuncData} {ps : List Str} {sp : Sp} {E : XK} {pins : List (Addr × Obj)} {σ : L2.St} {H : Hp} {s : Shared} {Q : VK} {us : List Value} {vs : List V} (F : FnOk X.prog X.w X.K X.mg X.base CX k f fd ps sp) (hr : Room k X.A) (b : Binds X.K fd ps [])
    (pass : Passes CX X E) (I : Inv X pins σ H s) (r : Vals vs us) (h : sp vs H Q E) : codeAny (model X.prog X.w) X.A (.call (.ref f) ⟨us, []⟩) (fun res z => match res with | .ok (.ret v) => EP X pins σ Q v z | .ok _ => False | .error e => X.xe e z) s := by
  have n : us.length = ps.length := r.length ▸ F.len _ _ _ _ h
  have b1 := b s us I.kIn (by rw [List.append_nil]; exact n)
  rw [List.append_nil] at b1
  refine codeAny_mono (F.run _ _ _ _ ⟨us, []⟩ us vs Q E hr I.env0 b1 r h) fun res z q => ?_
  match res, q with
  | .error e, q => exact pass pins σ H s e z I q
  | .ok (.ret u), q => exact I.after q
/-- super().__init__(e, ..): self in slot 0 -/
def tSup (C : Addr) (sp : Sp) (E : XK) (t : TA) : TS := fun D σ H => ∃ (a dx : Addr) (fs : List (Str × V)), σ[0]? = some (some (.ref a)) ∧ H a = some (.ins C dx fs) ∧ t σ H fun vs H1 => sp (.ref a :: vs) H1 (fun _ H2 => D.nx σ H2) E
theorem at_super {N ps : List Str} {nm ql : Str} {st : Stmt} {f cda cc C D f2 : Addr} {A : Around} {outer : List Env} {s0 : Shared} {H0 : Hp} {E0 E : XK} {CX2 : CXT} {k : Nat} {fd2 : FuncData} {ps2 : List Str} {sp : Sp} {e : Expr} {es : List Expr} {t : TA} {p0 p1 p2 p3 p4 : Pos} {body : List Stmt} {pl : Sem Bool}
    {oc ccl cl : Value} {od cdd cld : Option Addr} {dV kV doc pm ct : Value} {an : Option Addr} {osl ccs csl : Array (Option Value)} {vs0 : Array Value} {tf : Tok} (S : ScopeS N ps (defScope st))
    (lk : K.lookup f = some ⟨oc, od, .func (PySem.W.ksFn nm ql (defArgs st) (defBody st) (defScope st) dV kV doc pm an (.ref cda) ct cc), osl⟩) (hcc : K.lookup cc = some ⟨cl, cld, .cell (some (.ref D)), csl⟩) (hcd : K.lookup cda = some ⟨ccl, cdd, .fields vs0, ccs⟩) (hv2 : vs0[2]? = some (.str "/claim/cut.py" tf))
    (first : ∃ ar : Arg, ((defArgs st).posonlyargs ++ (defArgs st).args).head? = some ar ∧ N[0]? = some ar.arg ∧ (defScope st).names.lookup ar.arg = some .local) (file : (P.main.file : Str) = "/claim/cut.py") (top : (P.main.scope.names.lookup ("super" : Str)).isSome = false)
    (Y : SupOk K mg C D f2) (F2 : FnOk P w K mg base CX2 k f2 fd2 ps2 sp) (b2 : Binds K fd2 ps2 []) (hr : Room k (A.deeper (PySem.W.ksEnv ql (defScope st) s0.heap.objs.size f (.ref cda) cc)))
    (pass : Passes CX2 (cxS CX P w K mg base N ql (defScope st) f cda cc A outer s0 H0 E0) E) (ha : PA (cxS CX P w K mg base N ql (defScope st) f cda cc A outer s0 H0 E0) (e :: es) t)
    (he : eval (.Call (.Attribute (.Call (.Name "super" p0) [] [] p1) "__init__" p2) (e :: es) [] p3) (PySem.W.ksEnv ql (defScope st) s0.heap.objs.size f (.ref cda) cc) = (do
      let ov ← attributeBase (.Call (.Name "super" p0) [] [] p1) "__init__" (PySem.W.ksEnv ql (defScope st) s0.heap.objs.size f (.ref cda) cc) (eval (.Call (.Name "super" p0) [] [] p1) (PySem.W.ksEnv ql (defScope st) s0.heap.objs.size f (.ref cda) cc))
      standAt p2.atName
      let (g, first) ← holding [ov] (getMethod ov "__init__" pl)
      callWith p3 g first (backTo p3 (starEach (e :: es) (PySem.W.ksEnv ql (defScope st) s0.heap.objs.size f (.ref cda) cc))) []))
    (hi : interactive (PySem.W.ksEnv ql (defScope st) s0.heap.objs.size f (.ref cda) cc) = false)
    (hst : starEach (e :: es) (PySem.W.ksEnv ql (defScope st) s0.heap.objs.size f (.ref cda) cc) = (false, eval e (PySem.W.ksEnv ql (defScope st) s0.heap.objs.size f (.ref cda) cc)) :: starEach es (PySem.W.ksEnv ql (defScope st) s0.heap.objs.size f (.ref cda) cc))
    (hpl : (backTo p3 (starEach es (PySem.W.ksEnv ql (defScope st) s0.heap.objs.size f (.ref cda) cc))).any (·.1) = false)
    {pins : List (Addr × Obj)} {s : Shared} {σ : L2.St} {H : Hp} {Dn : Ends} (I : Inv (cxS CX P w K mg base N ql (defScope st) f cda cc A outer s0 H0 E0) pins σ H s) (h : tSup C sp E t Dn σ H) :
    _root_.PySem.wpAt (model P w) (A.deeper (PySem.W.ksEnv ql (defScope st) s0.heap.objs.size f (.ref cda) cc)) (.func body (PySem.W.ksEnv ql (defScope st) s0.heap.objs.size f (.ref cda) cc))
      (exec (.Expr (.Call (.Attribute (.Call (.Name "super" p0) [] [] p1) "__init__" p2) (e :: es) [] p3) p4) (PySem.W.ksEnv ql (defScope st) s0.heap.objs.size f (.ref cda) cc))
      (SP (cxS CX P w K mg base N ql (defScope st) f cda cc A outer s0 H0 E0) pins Dn) (cxS CX P w K mg base N ql (defScope st) f cda cc A outer s0 H0 E0).xe s := by
  obtain ⟨a, dx, fs, eσ, ea, h⟩ := h
  obtain ⟨ar, har, hN, hloc⟩ := first
  have KX : K.In s.heap := I.kIn
  obtain ⟨mA, O, _⟩ := ins_get I.hok ea
  obtain ⟨od2, J, _⟩ := O.look
  obtain ⟨m, hns, hl⟩ := I.loc
  obtain ⟨u, ru, lu⟩ := hl 0 ar.arg (.ref a) hN eσ (.inl hloc)
  obtain rfl : u = Value.ref a := ru
  have hm : m ar.arg = some (.ref a) := by
    rcases lu with ⟨_, q⟩ | ⟨q, _⟩
    · exact q
    · have q : (defScope st).names.lookup ar.arg = some .cell ∨ (defScope st).names.lookup ar.arg = some .free := q
      rw [hloc] at q
      rcases q with q | q <;> cases q
  obtain ⟨mb, bl, bb⟩ := I.mod.blt
  have inD : ∃ (oD : Obj) (cd : ClassData), s.heap.get? D = some oD ∧ oD.data = .cls cd := by
    obtain ⟨cd, z⟩ := Option.isSome_iff_exists.mp Y.clsD
    unfold PySem.W.clsIn at z
    split at z
    · rename_i c d cd' sl q
      cases z
      exact ⟨_, _, KX _ _ q, rfl⟩
    · cases z
  obtain ⟨oD, cdD, hD1, hD2⟩ := inD
  obtain ⟨cd, hcl⟩ := Option.isSome_iff_exists.mp Y.clsC
  refine PySem.ks_wpAt_Expr_any (PySem.ks_wpAt_MethodCall (pl := pl) ?_ he) (hi := hi)
  refine PySem.ks_wpAt_super_base (env := PySem.W.ksEnv ql (defScope st) s0.heap.objs.size f (.ref cda) cc) S.sup S.cls (by decide +kernel) rfl (KX _ _ lk) rfl har rfl (KX _ _ hcd) rfl hv2 (by rw [file]; decide +kernel) top ?_
  refine PySem.W.ks_loadName_global S.kind S.sup (loadGlobal_builtin (env := PySem.W.ksEnv ql (defScope st) s0.heap.objs.size f (.ref cda) cc) (I.mod.glob.keeps I.bk) Y.sup (bl.keeps I.bk) ((bb _ (by decide +kernel)).trans (by decide +kernel)) ⟨rfl, ?_⟩)
  refine wpAny_loadName_free S.kind S.cls rfl ⟨_, KX _ _ hcc, rfl⟩ ?_
  refine wpAny_loadName_local S.kind hloc hns hm ?_
  obtain ⟨hp, gs, dr, tk, os⟩ := s
  refine PySem.ks_wpAny_isType_cls hD1 hD2 ⟨rfl, ?_⟩
  refine PySem.ks_wpAny_call_super hD1 hD2 J.at_ J.cls (fun c z => ?_) (PySem.W.looks_mroIn KX Y.self) (fun h1 so k1 => ?_)
  · have q := J.no
    unfold PySem.W.notCls at q
    rw [z] at q
    exact Bool.noConfusion q
  have I1 := I.kept (t' := tk) k1
  have KX1 := KX.keeps k1
  obtain ⟨mA1, O1, _⟩ := ins_get I1.hok ea
  obtain ⟨od3, J1, _⟩ := O1.look
  have supI := Y.meth
  unfold PySem.W.ks_superIn at supI
  rw [hcl, Option.bind_some] at supI
  obtain ⟨o2, ho2, hc2⟩ : ∃ o2, h1.get? f2 = some o2 ∧ o2.cls = .type "function" := by
    have ty : (K.lookup f2).map (·.cls) = some (.type "function") := Y.ty
    cases q : K.lookup f2 with
    | none => rw [q] at ty; cases ty
    | some o => rw [q] at ty; exact ⟨o, KX1 _ _ q, Option.some.inj ty⟩
  refine PySem.ks_wpAny_getMethod_super so (PySem.W.looks_opaque KX1 Y.any) (l₀ := cd.mro) (fun A Q E s k q => wpAny_bind ((PySem.W.looks_clsIn KX1 hcl) A _ E s k (wpAny_pure q))) rfl KX1 supI ho2 hc2 (PySem.W.ks_ne KX1 J1 hcl) (by decide +kernel) ?_
  have I2 := ClX.met_new (g := f2) (C := a) I1
  refine ClX.callwith_cm I2 (ClX.base_none I1 (Nat.le_refl _)) Y.fn (wpAny_mono (ha.run p3 _ _ σ H _ I2 h) (fun us s3 z => ?_) fun _ _ z => z) hst hpl
  obtain ⟨vs, H2, I3, rv, q⟩ := z
  refine ⟨⟨ClX.pin_at I3, I3.kIn⟩, ?_⟩
  have go := fn_code (us := .ref a :: us) (vs := .ref a :: vs) F2 hr b2 pass I3 (.cons (a := V.ref a) rfl rv) q
  refine wpAny_mono (wpAny_call (PySem.W.method_call (ClX.pin_at I3) go)) (fun v s4 z => ?_) fun _ _ z => z
  obtain ⟨x, H4, I4, _, q4⟩ := z
  exact ⟨σ, H4, ClX.unpin I4, q4⟩
theorem sp_cases {X : Cx} {pins : List (Addr × Obj)} {D : Ends} {fl : Flow} {z : Shared} (h : SP X pins D fl z) (nb : ∀ σ H, ¬ D.bk σ H) (nc : ∀ σ H, ¬ D.ct σ H) :
    (fl = .next ∧ ∃ σ H, Inv X pins σ H z ∧ D.nx σ H) ∨ ∃ u v σ H, fl = .ret u ∧ Inv X pins σ H z ∧ RelV v u ∧ D.rt v H := by
  cases fl with
  | next => exact .inl ⟨rfl, h⟩
  | ret u =>
    obtain ⟨v, σ, H, J, r, q⟩ := h
    exact .inr ⟨u, v, σ, H, rfl, J, r, q⟩
  | brk =>
    obtain ⟨σ, H, _, q⟩ := h
    exact (nb σ H q).elim
  | cont =>
    obtain ⟨σ, H, _, q⟩ := h
    exact (nc σ H q).elim
theorem wp_app {M : Model} {Γ : PySem.Ctx} {env : Env} {rest : List Stmt} {Q : Flow → Pos → Shared → Prop} {E : Value → Pos → Shared → Prop} : ∀ (pre : List Stmt) (p : Pos) (s : Shared),
    Sem.wp M Γ (execs pre env) (fun fl p2 s2 => match fl with | .next => Sem.wp M Γ (execs rest env) Q E p2 s2 | fl => Q fl p2 s2) E p s → Sem.wp M Γ (execs (pre ++ rest) env) Q E p s
  | [], p, s, h => by
    rw [execs_nil, Sem.wp_pure'] at h
    exact h
  | st :: pre, p, s, h => by
    rw [execs_cons, Sem.wp_bind'] at h
    rw [List.cons_append, execs_cons, Sem.wp_bind']
    refine Sem.wp_mono M Γ _ (fun fl p2 s2 z => ?_) (fun _ _ _ z => z) p s h
    cases fl with
    | next => exact wp_app pre p2 s2 z
    | ret v =>
      rw [Sem.wp_pure'] at z ⊢
      exact z
    | brk =>
      rw [Sem.wp_pure'] at z ⊢
      exact z
    | cont =>
      rw [Sem.wp_pure'] at z ⊢
      exact z
/-- THE RULE for such a method -/
theorem fun_okS {N ps : List Str} {nm ql : Str} {st : Stmt} {fd : FuncData} {f D : Addr} {k : Nat} {sp : Sp} {pre post : List Stmt} {sup : Stmt} {nd : Nat} (F : FunS K nm ql st nd D f fd) (S : ScopeS N ps (defScope st)) (len : ∀ vs H Q E, sp vs H Q E → vs.length = ps.length) (hb : defBody st = pre ++ sup :: post)
    (body : ∀ (oc : Value) (od : Option Addr) (dV kV doc pm : Value) (an : Option Addr) (cda cc : Addr) (ct : Value) (osl : Array (Option Value)) (cl : Value) (cld : Option Addr) (csl : Array (Option Value)) (ccl : Value) (cdd : Option Addr) (vs0 : Array Value) (ccs : Array (Option Value)) (tf : Tok),
      K.lookup f = some ⟨oc, od, .func (PySem.W.ksFn nm ql (defArgs st) (defBody st) (defScope st) dV kV doc pm an (.ref cda) ct cc), osl⟩ → K.lookup cc = some ⟨cl, cld, .cell (some (.ref D)), csl⟩ → K.lookup cda = some ⟨ccl, cdd, .fields vs0, ccs⟩ → vs0[2]? = some (.str "/claim/cut.py" tf) →
      ∀ (A : Around) (outer : List Env) (s : Shared) (H : Hp) (vs : List V) (Q : VK) (E : XK), Room k (A.deeper (PySem.W.ksEnv ql (defScope st) s.heap.objs.size f (.ref cda) cc)) → sp vs H Q E →
      ∃ t1 t2 t3 : TS, PSs (cxS CX P w K mg base N ql (defScope st) f cda cc A outer s H E) pre t1 ∧
        (∀ (pins : List (Addr × Obj)) (z : Shared) (σ : L2.St) (G : Hp) (Dn : Ends), Inv (cxS CX P w K mg base N ql (defScope st) f cda cc A outer s H E) pins σ G z → t2 Dn σ G →
          _root_.PySem.wpAt (model P w) (A.deeper (PySem.W.ksEnv ql (defScope st) s.heap.objs.size f (.ref cda) cc)) (.func (defBody st) (PySem.W.ksEnv ql (defScope st) s.heap.objs.size f (.ref cda) cc)) (exec sup (PySem.W.ksEnv ql (defScope st) s.heap.objs.size f (.ref cda) cc))
            (SP (cxS CX P w K mg base N ql (defScope st) f cda cc A outer s H E) pins Dn) (cxS CX P w K mg base N ql (defScope st) f cda cc A outer s H E).xe z) ∧
        PSs (cxS CX P w K mg base N ql (defScope st) f cda cc A outer s H E) post t3 ∧
        t1 { nx := fun σ1 H1 => t2 { nx := fun σ2 H2 => t3 { nx := fun _ H3 => Q .non H3, rt := Q } σ2 H2, rt := Q } σ1 H1, rt := Q } (L2.start N vs) H) :
    FnOk P w K mg base CX (k + 1) f fd ps sp := by
  refine ⟨len, fun A outer s H args us vs Q E hr e0 bt rv h => ?_⟩
  obtain ⟨oc, od, dV, kV, doc, pm, an, cda, cc, ct, osl, rfl, lk, code, ⟨cl, cld, csl, hcc⟩, ccl, cdd, vs0, ccs, tf, hcd, hv2, _⟩ := F.fn
  have KX : K.In s.heap := e0.mod.kin.keeps fun b o z => (e0.bs b o z).1
  have lim : s.heap.NoLimit := e0.mod.nolimit.keeps fun b o z => (e0.bs b o z).1
  have hl := len _ _ _ _ h
  obtain ⟨t1, t2, t3, T1, T2, T3, q⟩ := body _ _ _ _ _ _ _ _ _ _ _ _ _ _ _ _ _ _ _ lk hcc hcd hv2 A outer s H vs Q E (hr.deeper _) h
  refine PySem.ks_codeAny_call_defAt (body := defBody st) (binds := ps.zip us) hr.depth (KX _ _ lk) rfl lim (PySem.W.codeRec_of KX code) rfl bt S.noc (fun x hx => S.par x.1 (List.of_mem_zip hx).1) (fun h0 ns k0 => ?_) S.co S.gen S.kind
  have I0 : Inv (cxS CX P w K mg base N ql (defScope st) f cda cc A outer s H E) [] (L2.start N vs) H { s with heap := h0, toks := s.toks + (ps.zip us).length } := start_S S hr.hd e0 hl rv ⟨cl, cld, csl, hcc⟩ ns k0
  have fin : ∀ (fl : Flow) (z : Shared), SP (cxS CX P w K mg base N ql (defScope st) f cda cc A outer s H E) [] { nx := fun _ H3 => Q .non H3, rt := Q } fl z → CR CX outer P w H s Q E (.ok (.ret (match fl with | .ret v => v | _ => .none))) z := fun fl z y => by
    rcases sp_cases y (fun _ _ q => q) (fun _ _ q => q) with ⟨rfl, _, H2, J, y⟩ | ⟨u, v, _, H2, rfl, J, r2, y⟩
    · exact ⟨V.non, H2, J.os, J.bare, J.base, J.hok, rfl, y⟩
    · exact ⟨v, H2, J.os, J.bare, J.base, J.hok, r2, y⟩
  intro Γ p hc hΓ
  show Sem.wp _ Γ (execs (defBody st) _) _ _ p _
  rw [hb]
  refine wp_app pre p _ (Sem.wp_mono _ Γ _ (fun fl p2 z y => ?_) (fun e p2 z y => y) p _ (T1.run [] _ _ H _ I0 q Γ p hΓ))
  rcases sp_cases y (fun _ _ q => q) (fun _ _ q => q) with ⟨rfl, σ1, H1, J1, y⟩ | ⟨u, v, σ2, H2, rfl, J, r2, y⟩
  · show Sem.wp _ Γ (execs (sup :: post) _) _ _ p2 z
    rw [execs_cons, Sem.wp_bind']
    refine Sem.wp_mono _ Γ _ (fun fl p3 z3 y3 => ?_) (fun e p3 z3 y3 => y3) p2 z (T2 [] z σ1 H1 _ J1 y Γ p2 hc hΓ)
    rcases sp_cases y3 (fun _ _ q => q) (fun _ _ q => q) with ⟨rfl, σ2, H2, J2, y3⟩ | ⟨u, v, σ2, H2, rfl, J, r2, y⟩
    · exact Sem.wp_mono _ Γ _ (fun fl p4 z4 y4 => fin fl z4 y4) (fun e p4 z4 y4 => y4) p3 z3 (T3.run [] _ _ H2 _ J2 y3 Γ p3 hΓ)
    · show Sem.wp _ Γ (pure (Flow.ret u)) _ _ p3 z3
      rw [Sem.wp_pure']
      exact fin (.ret u) z3 ⟨v, σ2, H2, J, r2, y⟩
  · exact fin (.ret u) z ⟨v, σ2, H2, J, r2, y⟩
/-- how a call binds, by position or with keywords, the defaults looked at -/
theorem FunS.kbinds {nm ql : Str} {st : Stmt} {n : Nat} {D f : Addr} {fd : FuncData} {ps ks : List Str} {g : List Value → List Value → List Value} {gV : List V → List V → List V} (F : FunS K nm ql st n D f fd) (m : Nat)
    (rel : ∀ {vs : List V} {us : List Value} {zs : List V} {ws : List Value}, Vals vs us → Vals zs ws → Vals (gV vs zs) (g us ws))
    (h : ∀ (T : Addr) (kV doc pm : Value) (an : Option Addr) (cda cc : Addr) (ct : Value) (us its ws : List Value), us.length = m → its.length = n → ws.length = ks.length →
      ∃ k, bindArgs (PySem.W.ksFn nm ql (defArgs st) (defBody st) (defScope st) (.ref T) kV doc pm an (.ref cda) ct cc) ⟨us, ks.zip ws⟩ = seqItems? (.ref T) >>= k ∧ k (some its.toArray) = pure (ps.zip (g us ws))) : KBn K fd ps m ks g gV := by
  obtain ⟨oc, od, dV, kV, doc, pm, an, cda, cc, ct, osl, rfl, lk, code, _, ccl, cdd, vs0, ccs, tf, hcd, hv2, T, o, its, m2, rfl, lT, oT, ln⟩ := F.fn
  refine ⟨fun s us ws X l1 l2 => ?_, rel⟩
  obtain ⟨k, e1, e2⟩ := h T kV doc pm an cda cc ct us its ws l1 ln l2
  refine BindsTo.of_looks fun M => ?_
  rw [e1]
  exact looks_items X lT oT (.of_pure e2)
theorem FunS.binds {nm ql : Str} {st : Stmt} {n : Nat} {D f : Addr} {fd : FuncData} {ps : List Str} (F : FunS K nm ql st n D f fd)
    (h : ∀ (T : Addr) (kV doc pm : Value) (an : Option Addr) (cda cc : Addr) (ct : Value) (us its : List Value), us.length = ps.length → its.length = n →
      ∃ k, bindArgs (PySem.W.ksFn nm ql (defArgs st) (defBody st) (defScope st) (.ref T) kV doc pm an (.ref cda) ct cc) ⟨us, []⟩ = seqItems? (.ref T) >>= k ∧ k (some its.toArray) = pure (ps.zip us)) : Binds K fd ps [] := by
  obtain ⟨oc, od, dV, kV, doc, pm, an, cda, cc, ct, osl, rfl, lk, code, _, ccl, cdd, vs0, ccs, tf, hcd, hv2, T, o, its, m2, rfl, lT, oT, ln⟩ := F.fn
  intro s us X hl
  rw [List.append_nil] at hl ⊢
  obtain ⟨k, e1, e2⟩ := h T kV doc pm an cda cc ct us its hl ln
  refine BindsTo.of_looks fun M => ?_
  rw [e1]
  exact looks_items X lT oT (.of_pure e2)
end
end G

/-! == and != of an own instance by its class's own __eq__, beside anything, with either answer. -/
namespace G
open PySem PySem.Spec PyProof.Rows L2
section
variable {prog : Program} {w : World} {A : Around} {E : Value → Shared → Prop} {s : Shared} {K : PySem.W.Frag} {x C f : Addr} {ox : Obj} {od : Option Obj} {b tb : Value}
/-- x != b: object.__ne__ asks the own __eq__ -/
theorem ne_own {Q : Value → Shared → Prop} (hu : A.units + 1 < cLine) (X : K.In s.heap) (I : PySem.W.InstAt s.heap x ox C od) (hb : PySem.W.Looks (model prog w) s.heap (typeOf b) tb) (hn : PySem.W.notFirst K C tb = true)
    (heq : PySem.W.findIn K (.ref C) "__eq__" = some (some (.ref f))) (hne : PySem.W.findIn K (.ref C) "__ne__" = some (some (.builtin "object.__ne__"))) (hf : PySem.W.isFn K (.ref f) = true) (hob : PySem.W.subIn K (.ref C) (.type "object") = some true)
    (h : wpAny (model prog w) A.in1 (call (.ref f) [.ref x, b]) (fun v z => ∃ k, v = .bool k ∧ Q (.bool (!k)) z) E s) : wpAny (model prog w) A (richCompare .NotEq (.ref x) b) Q E s := by
  have kind := I.type (M := model prog w)
  have entry : wpAny (model prog w) A.in1 (Builtin.«object.__ne__» ⟨[.ref x, b], []⟩) (fun fin z => ∃ k, fin = .done (.ret (.bool k)) ∧ Q (.bool k) z) E s := by
    unfold Builtin.«object.__ne__»
    refine wpAny_bind (wpAny_of_eq (a := ((Value.ref x : Value), [b])) (by first | rfl | (simp only [slotArgs]; rfl)) ?_)
    refine wpAny_bind (wpAny_cRoomFor hu ?_)
    refine wpAny_bind (PySem.W.ifBound_K X I heq hf (wpAny_mono h (fun v z q => ?_) fun _ _ e => e))
    obtain ⟨k, rfl, q⟩ := q
    refine wpAny_bind (wpAny_truthy_bool ?_)
    exact wpAny_pure ⟨_, rfl, q⟩
  have call1 : wpAny (model prog w) A (call (.builtin "object.__ne__") [.ref x, b]) (fun v z => ∃ k, v = .bool k ∧ Q (.bool k) z) E s := by
    refine wpAny_call (codeAny_call_builtin PySem.F.cmp_object.ne.plain PySem.F.cmpEntry_ne ?_)
    refine PySem.W.check_slot PySem.F.cmpKind_ne PySem.F.cmpSplit_ne (kind.andThen (PySem.W.looks_subIn X hob)) (PySem.F.cmpArgs_ne _ _) ?_
    refine wpAny_mono entry (fun fin z q => ?_) fun _ _ e => e
    obtain ⟨k, rfl, q⟩ := q
    exact ⟨k, rfl, q⟩
  have one : wpAny (model prog w) A (tryCompare (.ref x) "__ne__" b) (fun r z => ∃ k, r = some (.bool k) ∧ Q (.bool k) z) E s := by
    unfold tryCompare
    refine wpAny_bind ?_
    simp only [callSpecialIfBound?, bindSpecialIfBound?]
    refine wpAny_holding (wpAny_bind (wpAny_bind (wpAny_bind (kind.here ((PySem.W.looks_findIn X hne).here ?_)))))
    refine wpAny_bind (wpAny_askSetting (wpAny_ite ?_))
    have fin : ∀ R : Option Value → Shared → Prop, (∀ k z, Q (.bool k) z → R (some (.bool k)) z) → wpAny (model prog w) A (call (.builtin "object.__ne__") ([.ref x] ++ [b]) >>= fun v => pure (some v)) R E s := fun R hR => by
      refine wpAny_bind (wpAny_mono call1 (fun v z q => ?_) fun _ _ e => e)
      obtain ⟨k, rfl, q⟩ := q
      exact wpAny_pure (hR k z q)
    rw [PySem.F.cmp_object.ne.bind]
    split
    · exact wpAny_bind (wpAny_pure (wpAny_pure (fin _ fun k z q => wpAny_pure ⟨k, rfl, q⟩)))
    · exact wpAny_tryCatch (wpAny_bind (wpAny_pure (wpAny_pure (fin _ fun k z q => wpAny_pure ⟨k, rfl, q⟩))))
  unfold richCompare
  simp only [oneThing_ref]
  refine wpAny_holding (wpAny_bind (wpAny_cRoomFor (Nat.lt_of_succ_lt hu) (wpAny_bind (kind.here (wpAny_bind (hb.here ?_))))))
  rw [cmpInfo_NotEq]
  dsimp only
  split
  · rename_i q
    have e : PySem.W.subIn K tb (.ref C) = some false := by
      cases Bool.or_eq_true_iff.mp hn with
      | inl e =>
        rw [beq_iff_eq.mp e] at q
        simp at q
      | inr e => exact beq_iff_eq.mp e
    refine wpAny_bind ((PySem.W.looks_subIn X e).here ?_)
    simp only [Bool.false_eq_true, if_false]
    refine wpAny_bind (wpAny_mono one (fun r z q => ?_) fun _ _ e => e)
    obtain ⟨k, rfl, q⟩ := q
    exact wpAny_pure q
  · refine wpAny_bind (wpAny_pure ?_)
    simp only [Bool.false_eq_true, if_false]
    refine wpAny_bind (wpAny_mono one (fun r z q => ?_) fun _ _ e => e)
    obtain ⟨k, rfl, q⟩ := q
    exact wpAny_pure q
end
/-- what the written part says of a class with its own __eq__, at f, and no __ne__ -/
structure EqC (K : PySem.W.Frag) (C f : Addr) : Prop where
  eq : PySem.W.findIn K (.ref C) "__eq__" = some (some (.ref f))
  ne : PySem.W.findIn K (.ref C) "__ne__" = some (some (.builtin "object.__ne__"))
  fn : PySem.W.isFn K (.ref f) = true
  ob : PySem.W.subIn K (.ref C) (.type "object") = some true
def eqCB (K : PySem.W.Frag) (C f : Addr) : Bool := decide (PySem.W.findIn K (.ref C) "__eq__" = some (some (.ref f))) && (decide (PySem.W.findIn K (.ref C) "__ne__" = some (some (.builtin "object.__ne__"))) && (PySem.W.isFn K (.ref f) && decide (PySem.W.subIn K (.ref C) (.type "object") = some true)))
theorem eqCB_ok {K : PySem.W.Frag} {C f : Addr} (h : eqCB K C f = true) : EqC K C f := by
  simp only [eqCB, Bool.and_eq_true, decide_eq_true_eq] at h
  exact ⟨h.1, h.2.1, h.2.2.1, h.2.2.2⟩
/-- x == y (neg: x != y), x an instance of C, y of a kind that is no subclass of C: as the own __eq__ promises -/
def rOwn (K : PySem.W.Frag) (C : Addr) (sp : Sp) (neg : Bool) : R2 := fun x y H Q => ∃ (a dx : Addr) (fs : List (Str × V)) (tb : Value), x = .ref a ∧ H a = some (.ins C dx fs) ∧ TyX K H y tb ∧ PySem.W.notFirst K C tb = true ∧
  sp [.ref a, y] H (fun v G => ∃ k, v = .bl k ∧ Q (.bl (if neg then !k else k)) G) fun _ _ _ => False
section
variable {X : Cx} {C f : Addr} {fd : FuncData} {ps : List Str} {sp : Sp} {k : Nat}
theorem own_call {pins : List (Addr × Obj)} {σ : L2.St} {H : Hp} {s : Shared} {A : Around} {Q : VK} {us : List Value} {vs : List V} (F : FnOk X.prog X.w X.K X.mg X.base CX0 k f fd ps sp) (b : Binds X.K fd ps []) (r : Room k A) (fr : A.frames = some X.stack) (I : Inv X pins σ H s) (rv : Vals vs us)
    (h : sp vs H Q fun _ _ _ => False) : wpAny (model X.prog X.w) A (call (.ref f) us) (EP X pins σ Q) X.xe s := by
  have e0 := I.env0
  have n : us.length = ps.length := rv.length ▸ F.len _ _ _ _ h
  have b1 := b s us I.kIn (by rw [List.append_nil]; exact n)
  rw [List.append_nil] at b1
  refine wpAny_call (codeAny_mono (F.run A X.stack s H ⟨us, []⟩ us vs Q _ r ⟨fr, e0.mod, e0.bs, e0.bsz, e0.funs, e0.frf, e0.hok, e0.bare⟩ b1 rv h) fun res z q => ?_)
  match res, q with
  | .error e, q => exact q.elim
  | .ok (.ret u), q => exact I.after q
theorem op_eqO (F : FnOk X.prog X.w X.K X.mg X.base CX0 k f fd ps sp) (c : EqC X.K C f) (b : Binds X.K fd ps []) (hr : Room k X.A) : OpR X (compareOp .Eq) (rOwn X.K C sp false) := by
  intro pins s σ H x y v u Q I rx ry h
  obtain ⟨a, dx, fs, tb, rfl, ha, ty, nf, h⟩ := h
  cases rx
  obtain ⟨P, kit, hP, _⟩ := kit_of I ry ty
  obtain ⟨m, J, _⟩ := ins_get I.hok ha
  obtain ⟨od, J, _⟩ := J.look
  obtain ⟨mm, hF⟩ := I.fr
  show wpAny (model X.prog X.w) X.A (richCompare .Eq (.ref a) u) (EP X pins σ Q) X.xe s
  refine PySem.W.cmp_K (op := .Eq) (tb := tb) hr.units0 hF I.ok.mod.kin J (kit.ty _ _ I.kIn hP) nf c.eq c.fn ?_
  refine wpAny_mono (own_call F b hr I.ok.frames I (.cons (a := V.ref a) rfl (.cons ry .nil)) h) (fun z s' q => ?_) fun _ _ z => z
  obtain ⟨v2, H2, J2, r2, k2, rfl, q⟩ := q
  cases r2
  exact ⟨.bl k2, H2, J2, rfl, q⟩
theorem op_neO (F : FnOk X.prog X.w X.K X.mg X.base CX0 k f fd ps sp) (c : EqC X.K C f) (b : Binds X.K fd ps []) (hr : Room (k + 1) X.A) : OpR X (compareOp .NotEq) (rOwn X.K C sp true) := by
  intro pins s σ H x y v u Q I rx ry h
  obtain ⟨a, dx, fs, tb, rfl, ha, ty, nf, h⟩ := h
  cases rx
  obtain ⟨P, kit, hP, _⟩ := kit_of I ry ty
  obtain ⟨m, J, _⟩ := ins_get I.hok ha
  obtain ⟨od, J, _⟩ := J.look
  show wpAny (model X.prog X.w) X.A (richCompare .NotEq (.ref a) u) (EP X pins σ Q) X.xe s
  have hu := hr.units
  refine ne_own (by omega) I.kIn J (kit.ty _ _ I.kIn hP) nf c.eq c.ne c.fn c.ob ?_
  refine wpAny_mono (own_call F b hr.in1 I.ok.frames I (.cons (a := V.ref a) rfl (.cons ry .nil)) h) (fun z s' q => ?_) fun _ _ z => z
  obtain ⟨v2, H2, J2, r2, k2, rfl, q⟩ := q
  cases r2
  exact ⟨k2, rfl, .bl (!k2), H2, J2, rfl, q⟩
end
end G

/-! A list never stands where sys.modules does: known of any value, where the written part holds that dict. -/
namespace G
open PySem PySem.Spec PyProof.Rows L2
def sysB (K : PySem.W.Frag) : Bool := match K.lookup sysModules with
  | some ⟨.type t, _, _, _⟩ => decide (t = "dict")
  | _ => false
theorem sys_ok {K : PySem.W.Frag} (h : sysB K = true) : ∃ o, K.lookup sysModules = some o ∧ o.cls = .type "dict" := by
  unfold sysB at h
  split at h
  · next t _ _ _ l => exact ⟨_, l, congrArg Value.type (of_decide_eq_true h)⟩
  · cases h
theorem np_of {X : Cx} (hs : sysB X.K = true) {pins : List (Addr × Obj)} {σ : L2.St} {H : Hp} {s : Shared} (I : Inv X pins σ H s) {a : Addr} {xs : List V} (h : H a = some (.lst xs)) : a ≠ sysModules := fun z => by
  obtain ⟨o, l, c⟩ := sys_ok hs
  have e := I.kIn _ _ l
  obtain ⟨_, its, n, _, _, e2⟩ := I.lstM h
  rw [z, e] at e2
  have e3 := congrArg Obj.cls (Option.some.inj e2)
  rw [c] at e3
  exact absurd (Value.type.inj e3) (by decide)
/-- .. and what it gives is no list there -/
def tNp (t : TE) : TE := fun σ H Q => t σ H fun v H1 => (∀ a xs, v = .ref a → H1 a = some (.lst xs) → a ≠ sysModules) → Q v H1
theorem pe_np {X : Cx} (hs : sysB X.K = true) {e : Expr} {t : TE} (h : PE X e t) : PE X e (tNp t) := by
  refine ⟨fun pins s σ H Q I q => ?_⟩
  refine wpAny_mono (h.run pins s σ H _ I q) (fun u s1 z => ?_) fun _ _ z => z
  obtain ⟨x, H1, J, r, q⟩ := z
  exact ⟨x, H1, J, r, q fun a xs _ g => np_of hs J g⟩
end G

/-! Promises of defs where nothing is being shown by repr: their calls. -/
namespace G
open PySem PySem.Spec PyProof.Rows L2
/-- as FnOk, but only within surroundings in which no repr runs -/
structure FnOkG (P : Program) (w : World) (K : PySem.W.Frag) (mg : Str → Option Value) (base : Heap) (CX : CXT) (k : Nat) (f : Addr) (fd : FuncData) (ps : List Str) (sp : Sp) : Prop where
  len : ∀ vs H Q E, sp vs H Q E → vs.length = ps.length
  run : ∀ (A : Around) (outer : List Env) (s : Shared) (H : Hp) (args : Args) (us : List Value) (vs : List V) (Q : VK) (E : XK), Room k A → A.guards = some [] → Env0 P w K mg base A outer s H → BindsTo s fd args (ps.zip us) → Vals vs us → sp vs H Q E →
    codeAny (model P w) A (.call (.ref f) args) (CR CX outer P w H s Q E) s
section
variable {P : Program} {w : World} {K : PySem.W.Frag} {mg : Str → Option Value} {base : Heap} {CX : CXT} {k : Nat} {f : Addr} {fd : FuncData} {ps : List Str} {sp : Sp}
theorem FnOkG.of (F : FnOk P w K mg base CX k f fd ps sp) : FnOkG P w K mg base CX k f fd ps sp := ⟨F.len, fun A o s H args us vs Q E r _ => F.run A o s H args us vs Q E r⟩
/-- a def's body, where nothing is being shown -/
theorem fun_okG {nm ql : Str} {st : Stmt} {N : List Str} {k : Nat} (T : Fun K nm ql st f fd) (S : FnScope N ps (defScope st)) (len : ∀ vs H Q E, sp vs H Q E → vs.length = ps.length)
    (body : ∀ (cdv : Value) (A : Around) (outer : List Env) (s : Shared) (H : Hp) (vs : List V) (Q : VK) (E : XK), A.guards = some [] → Room k (A.deeper (envOfC ql (defScope st) s.heap.objs.size f cdv)) → sp vs H Q E →
      ∃ t, PSs (cxOf CX P w K mg base N ql (defScope st) f cdv A outer s H E) (defBody st) t ∧ t { nx := fun _ G => Q .non G, rt := Q } (start N vs) H) : FnOkG P w K mg base CX (k + 1) f fd ps sp := by
  obtain ⟨oc, od, kV, doc, pm, an, cdv, ct, osl, rfl, look, code⟩ := T.ex
  exact ⟨len, fun A outer s H args us vs Q E r g e0 b rv h => LamX.run_ofS look code S r e0 b rv (len _ _ _ _ h) fun r2 => body cdv A outer s H vs Q E g r2 h⟩
end
section
variable {X : Cx} {CX : CXT} {k : Nat} {f : Addr} {fd : FuncData} {ps : List Str} {sp : Sp} {dvs : List V} {ds : List Value} {E : XK} {x : Str} {p pos : Pos} {e : Expr} {es : List Expr} {t : TA}
theorem run_G {pins : List (Addr × Obj)} {σ : L2.St} {H : Hp} {s : Shared} {Q : VK} {us : List Value} {vs : List V} (F : FnOkG X.prog X.w X.K X.mg X.base CX k f fd ps sp) (g : X.A.guards = some []) (hr : Room k X.A) (b : Binds X.K fd ps ds) (d : Vals dvs ds) (pass : Passes CX X E)
    (I : Inv X pins σ H s) (r : Vals vs us) (h : sp (vs ++ dvs) H Q E) : wpAny (model X.prog X.w) X.A (call (.ref f) us) (EP X pins σ Q) X.xe s := by
  have r2 : Vals (vs ++ dvs) (us ++ ds) := r.append d
  have n : (us ++ ds).length = ps.length := r2.length ▸ F.len _ _ _ _ h
  refine wpAny_call (codeAny_mono (F.run _ _ _ _ ⟨us, []⟩ _ _ _ _ hr g I.env0 (b s us I.kIn n) r2 h) fun res z q => ?_)
  match res, q with
  | .error e, q => exact pass pins σ H s e z I q
  | .ok (.ret u), q => exact I.after q
theorem pe_callG (F : FnOkG X.prog X.w X.K X.mg X.base CX k f fd ps sp) (g : X.A.guards = some []) (hr : Room k X.A) (gl : Gl X x) (hm : X.mg x = some (.ref f)) (kp : PySem.W.keepIn X.K (.ref f) = true) (b : Binds X.K fd ps ds) (d : Vals dvs ds) (pass : Passes CX X E) (ha : PA X (e :: es) t)
    (nd : (x == ("__debug__" : Str)) = false := by decide) (st : starEach (e :: es) X.env = (false, eval e X.env) :: starEach es X.env := by rfl) (pl : (backTo pos (starEach es X.env)).any (·.1) = false := by rfl) : PE X (.Call (.Name x p) (e :: es) [] pos) (tCall sp dvs E t) := by
  constructor
  intro pins s σ H Q I h
  refine wpAny_Call_Name_kw (ld_glob I gl hm (PySem.W.callWith_K (h₀ := X.base) I.ok.mod.kin kp (wpAny_mono (ha.run pos pins s σ H _ I h) (fun us s1 z => ?_) fun _ _ z => z) st pl) nd)
  obtain ⟨vs, H1, J, r, q⟩ := z
  exact ⟨J.kIn, run_G F g hr b d pass J r q⟩
end
end G

/-! The end of a law that makes lambdas and shows values by repr: its call by the caller, its own table of code objects tracked. -/
namespace G
open PySem PySem.Spec PyProof.Rows L2
/-- the table, and the script or nothing -/
def hdT (P a : Addr) (o : Option HO) : Hp := fun b => if b = P then some (.tbl #[]) else if b = a then o else none
section
variable {P : Program} {w : World} {K : PySem.W.Frag} {mg mb : Str → Option Value} {fa a c T : Addr} {fd : FuncData} {x : Str} {sp : Sp} {s1 : Shared} {vs : List Value} {ns : List Int} {k : Nat}
theorem hdT_P {o : Option HO} : hdT T a o T = some (.tbl #[]) := if_pos rfl
theorem hdT_a {o : Option HO} (n : a ≠ T) : hdT T a o a = o := (if_neg n).trans (if_pos rfl)
theorem hdT_else {o : Option HO} {b : Addr} (n : b ≠ T) (m : b ≠ a) : hdT T a o b = none := (if_neg n).trans (if_neg m)
theorem law_fromT (KX : K.In s1.heap) (gl : s1.heap.Ns mainGlobals mg) (bl : s1.heap.Ns builtinsNs mb) (bb : ∀ x : Str, x ≠ "__name__" → mb x = bootBuiltins x) (lim : s1.heap.NoLimit) (g0 : s1.gens = #[])
    (tabS : s1.heap.get? T = some { cls := .none, data := .fields #[] }) (tabK : K.lookup T = none) (code : PySem.W.CodeHd s1.heap c T) (bm : ∃ (m : Addr) (ob : Obj), mg "__builtins__" = some (.ref m) ∧ m ≠ builtinsNs ∧ s1.heap.get? m = some ob ∧ ob.cls = .type "module" ∧ ob.dict = some builtinsNs ∧ ob.data = .plain)
    (isL : s1.heap.get? a = some { cls := .type "list", data := .seq vs.toArray }) (rv : Vals (ns.map V.int) vs) (few : ns.length ≤ sizeLine) (hr : Room k callerA)
    (F : ∀ base : Heap, K.In base → base.Ns mainGlobals mg → LamX.TabB base mg c T → FnOkG P w K mg base CX0 k fa fd [x] sp) (bind : ∀ (s : Shared) (u : Value), BindsTo s fd ⟨[u], []⟩ [(x, u)])
    {o : Option HO} (ho : o = none ∨ (o = some (.frz { cls := .type "list", data := .seq vs.toArray } (.lst (ns.map V.int))) ∧ K.lookup a = none))
    (h : sp [.ref a] (hdT T a o) (fun v _ => v = .bl true) fun _ _ _ => False) :
    codeAny (model P w) callerA (.call (.ref fa) ⟨[.ref a], []⟩) (LawEnd s1) s1 := by
  have aT : a ≠ T := fun z => by
    rw [z, tabS] at isL
    have q := congrArg Obj.data (Option.some.inj isL)
    cases q
  have untr : ∀ {b : Addr} {ob : Obj}, s1.heap.get? b = some ob → (∀ us, ob.data ≠ .fields us) → (∀ us n, ob.data ≠ .seq us n) → hdT T a o b = none := fun {b ob} e n1 n2 => by
    by_cases z1 : b = T
    · rw [z1, tabS] at e
      cases e
      exact absurd rfl (n1 _)
    by_cases z2 : b = a
    · rw [z2, isL] at e
      cases e
      exact absurd rfl (n2 _ _)
    exact hdT_else z1 z2
  have nsH : ∀ {b : Addr} {m : Str → Option Value}, s1.heap.Ns b m → (hidT s1.heap (hdT T a o)).Ns b m := by
    rintro b m ⟨ob, es, ep, e, d, r⟩
    exact ⟨ob, es, ep, hidT_get e (untr e (fun us z => by rw [d] at z; cases z) fun us n z => by rw [d] at z; cases z), d, r⟩
  have kin : K.In (hidT s1.heap (hdT T a o)) := fun b ob e => hidT_get (KX b ob e) (by
    by_cases z1 : b = T
    · rw [z1, tabK] at e
      cases e
    by_cases z2 : b = a
    · rw [z2, hdT_a aT]
      rcases ho with ho | ⟨_, ho⟩
      · exact ho
      · rw [z2, ho] at e
        cases e
    exact hdT_else z1 z2)
  have hok : HOk P w (hdT T a o) s1.heap := fun b u e => by
    by_cases z1 : b = T
    · rw [z1, hdT_P] at e
      cases e
      rw [z1]
      exact tabS
    by_cases z2 : b = a
    · rw [z2, hdT_a aT] at e
      rcases ho with ho | ⟨ho, _⟩
      · rw [ho] at e
        cases e
      · rw [ho] at e
        cases e
        rw [z2]
        exact ⟨isL, by rw [List.length_map]; exact few, vs, _, rv, isL⟩
    · rw [hdT_else z1 z2] at e
      cases e
  have TB : LamX.TabB (hidT s1.heap (hdT T a o)) mg c T := by
    refine ⟨?_, ?_, fun z => ?_⟩
    · obtain ⟨ob, us, file, tf, flags, tg, inF, text, tt, e1, r1, r2, r3, r4, r5, r6, r7, r8, ne⟩ := code
      have nc : hdT T a o c = none := by
        refine hdT_else ne fun z => ?_
        rw [z, isL] at e1
        cases e1
        cases r2
      exact ⟨ob, us, file, tf, flags, tg, inF, text, tt, hidT_get e1 nc, r1, r2, r3, r4, r5, r6, r7, r8, ne⟩
    · obtain ⟨m, ob, b1, b2, b3, b4, b5, b6⟩ := bm
      have nG : m ≠ mainGlobals := fun q => by
        obtain ⟨o2, es, ep, e, d, _⟩ := gl
        rw [q, e] at b3
        cases b3
        rw [d] at b6
        cases b6
      have nP : m ≠ T := fun q => by
        rw [q, tabS] at b3
        cases b3
        cases b6
      exact ⟨m, ob, b1, b2, nG, nP, hidT_get b3 (untr b3 (fun us z => by rw [b6] at z; cases z) fun us n z => by rw [b6] at z; cases z), b4, b5, b6⟩
    · obtain ⟨o2, es, ep, e, d, _⟩ := gl
      rw [z, tabS] at e
      cases e
      cases d
  obtain ⟨mc, c1, c2⟩ := lim
  have env : Env0 P w K mg (hidT s1.heap (hdT T a o)) callerA [] s1 (hdT T a o) :=
    { frames := rfl, mod := ⟨kin, nsH gl, ⟨mb, nsH bl, bb⟩, ⟨mc, nsH c1, c2⟩⟩, bs := fun b o e => of_hidT e, bsz := Nat.le_of_eq (hidT_size _ _), funs := trivial, frf := fun b hb => (List.not_mem_nil hb).elim, hok := hok, bare := .of_eq g0 }
  refine codeAny_mono ((F _ kin (nsH gl) TB).run callerA [] s1 _ ⟨[.ref a], []⟩ [.ref a] [.ref a] _ _ hr rfl env (bind s1 (.ref a)) (.cons (a := V.ref a) rfl .nil) h) fun r s2 z => ?_
  match r, z with
  | .error _, z => exact z.elim
  | .ok (.ret u), ⟨v, H2, os, bare, un, ok2, rv2, q⟩ =>
    obtain rfl : v = V.bl true := q
    obtain rfl : u = Value.bool true := rv2
    have stays : ∀ b ob, b ≠ T → s1.heap.get? b = some ob → s2.heap.get? b = some ob := fun b ob nT e => by
      cases q : hdT T a o b with
      | none => exact un.keep b ob e q (fun z => (List.not_mem_nil z).elim) (fun z => (List.not_mem_nil z).elim)
      | some u2 =>
        by_cases z2 : b = a
        · rcases ho with ho | ⟨ho, _⟩
          · rw [z2, hdT_a aT, ho] at q
            cases q
          · have q2 : hdT T a o a = some (.frz { cls := .type "list", data := .seq vs.toArray } (.lst (ns.map V.int))) := by rw [hdT_a aT, ho]
            have here := (hok a _ q2).1
            have there := (ok2 a _ (un.frzs a _ _ q2)).1
            rw [z2] at e ⊢
            rw [here] at e
            cases e
            exact there
        · rw [hdT_else nT z2] at q
          cases q
    obtain ⟨more, grown⟩ := un.tbls T #[] hdT_P
    have grew : s2.heap.get? T = some { cls := .none, data := .fields (#[] ++ more) } := ok2 T _ grown
    refine ⟨rfl, ⟨fun b ob e => ?_, fun b ob e => ?_⟩, os, bare⟩
    · by_cases z1 : b = T
      · rw [z1] at e ⊢
        rw [tabS] at e
        cases e
        exact .inr (.inl ⟨(code.tab tabS).isCodeTable, rfl, #[], more, rfl, grew⟩)
      · exact .inl (stays b ob z1 e)
    · by_cases z1 : b = T
      · rw [z1]
        exact ⟨_, grew⟩
      · exact ⟨ob, stays b ob z1 e⟩
  | .ok .next, z => exact z.elim
  | .ok .brk, z => exact z.elim
  | .ok .cont, z => exact z.elim
end
/-- THE END: the law's own table at T, its code object at c -/
theorem walkT {l : PySem.W.OpenLaw} {n k : Nat} {q : Program} {loose : List Str} {XP : (Str → Option Value) → Heap → Prop} {YP : World → Heap → Prop} {d : DefRec} {K : Params → PySem.W.Frag} {sp : PySem.W.Frag → Addr → Sp} {x : Str}
    (hn : l.most = some n) (hn2 : n ≤ sizeLine) (hdf : d.params.defaults = []) (hr : Room k callerA) (hrec : ((recsOf q).any fun e => e.name == d.name) = true) (hY : ∀ (w : World) (h : Heap), YP w h → (K w.params).In h)
    (F : ∀ (w : World) (mg : Str → Option Value) (fa : Addr) (h : Heap), YP w h → (K w.params).In h → h.Ns mainGlobals mg → mg d.name = some (.ref fa) → LamX.OwnTab (K w.params) fa h → XP mg h →
      ∃ (fd : FuncData) (c T : Addr), h.get? T = some { cls := .none, data := .fields #[] } ∧ (K w.params).lookup T = none ∧ PySem.W.CodeHd h c T ∧ (∀ (s : Shared) (u : Value), BindsTo s fd ⟨[u], []⟩ [(x, u)]) ∧
        ∀ base : Heap, (K w.params).In base → base.Ns mainGlobals mg → LamX.TabB base mg c T → FnOkG l.prog w (K w.params) mg base CX0 k fa fd [x] (sp (K w.params) T))
    (hsp : ∀ (K : PySem.W.Frag) (T : Addr) (H : Hp) (a : Addr) (ns : List Int), ns.length ≤ n → H T = some (.tbl #[]) → SqL K H a (ns.map V.int) → sp K T [.ref a] H (fun v _ => v = .bl true) fun _ _ _ => False) :
    PySem.W.WalkO q loose XP YP l.row.toRowW d [] (fun f vs => PySem.call f vs) := by
  refine Att.attach_call hn hdf fun w s0 s1 mg mb fa o pm cd doc a vs ns Gr Y ho hd hcd hmg hobj hints hlen hg => ?_
  have KX := hY w _ Y
  have own : LamX.OwnTab (K w.params) fa s1.heap := fun c P o1 fd1 e dd vs1 sl k1 k2 k3 k4 k5 => by
    obtain ⟨dL, m1, m2⟩ := List.any_eq_true.mp hrec
    have m3 : dL.name = d.name := beq_iff_eq.mp m2
    obtain ⟨a2, o2, fd2, c2, P2, h1, h2, h3, h4, h5, ⟨⟨oc, vc, e1, _, e3, e4⟩, hP⟩⟩ := Gr.T.tab dL m1
    rw [m3, hmg] at h1
    cases h1
    have g1 := KX _ _ k1
    rw [g1] at h2
    cases h2
    rw [k2] at h3
    cases h3
    rw [k3] at h4
    cases h4
    have g2 := KX _ _ k4
    rw [g2] at e1
    cases e1
    cases e3
    rw [k5] at e4
    cases e4
    exact hP
  obtain ⟨fd, c, T, t1, t2, t3, hb, R⟩ := F w mg fa _ Y KX Gr.T.g hmg own Gr.X
  have rv := vals_ints hints
  have few := Nat.le_trans hlen hn2
  have aT : a ≠ T := fun z => by
    rw [z, t1] at hobj
    have q := congrArg Obj.data (Option.some.inj hobj)
    cases q
  cases hk : (K w.params).lookup a with
  | some ob =>
    have e := KX a ob hk
    rw [hobj] at e
    cases e
    refine law_fromT KX Gr.T.g Gr.T.b Gr.T.builtins Gr.T.nolimit hg t1 t2 t3 Gr.T.bmain hobj rv few hr R hb (o := none) (.inl rfl) (hsp _ _ _ _ _ hlen hdT_P (.inr ⟨_, vs.toArray, _, hk, rfl, rfl, rfl, ?_, ?_⟩))
    · rw [List.size_toArray, hints.length]
      exact few
    · simpa using rv
  | none =>
    exact law_fromT KX Gr.T.g Gr.T.b Gr.T.builtins Gr.T.nolimit hg t1 t2 t3 Gr.T.bmain hobj rv few hr R hb (o := some (.frz { cls := .type "list", data := .seq vs.toArray } (.lst (ns.map V.int)))) (.inr ⟨rfl, hk⟩) (hsp _ _ _ _ _ hlen hdT_P (.inl (.inr ⟨_, hdT_a aT⟩)))
end G

/-! x[i] of an own instance whose class has its own __getitem__. -/
namespace G
open PySem PySem.Spec PyProof.Rows L2
/-- what the written part says of such a class -/
structure GetC (K : PySem.W.Frag) (C f : Addr) : Prop where
  get : PySem.W.findIn K (.ref C) "__getitem__" = some (some (.ref f))
  fn : PySem.W.isFn K (.ref f) = true
  fi : PySem.W.fnIn K f = true
def rGetO (C : Addr) (sp : Sp) : R2 := fun x y H Q => ∃ (a dx : Addr) (fs : List (Str × V)), x = .ref a ∧ H a = some (.ins C dx fs) ∧ sp [.ref a, y] H Q fun _ _ _ => False
theorem pe_ixO {X : Cx} {C f : Addr} {fd : FuncData} {ps : List Str} {sp : Sp} {k : Nat} {e1 e2 : Expr} {t1 t2 : TE} {pos : Pos} (F : FnOk X.prog X.w X.K X.mg X.base CX0 k f fd ps sp) (c : GetC X.K C f) (b : Binds X.K fd ps []) (hr : Room (k + 1) X.A) (h1 : PE X e1 t1) (h2 : PE X e2 t2)
    (hs : ∀ v u, subscripted e2 true v u = runValue (.builtin "lifetime.subscript" ⟨[v, u], []⟩) := by intro _ _; with_unfolding_all rfl) : PE X (.Subscript e1 e2 pos) (tOp (rGetO C sp) t1 t2) := by
  refine ⟨fun pins s σ H Q I h => Subscript_ (thn (h1.run pins s σ H _ I h) fun v s1 ⟨x, H1, I1, r1, q1⟩ => thn (h2.run pins s1 σ H1 _ I1 q1) fun u s2 ⟨y, H2, I2, r2, q2⟩ => ?_)⟩
  obtain ⟨a, dx, fs, rfl, ha, q⟩ := q2
  cases r1
  obtain ⟨m, J, _⟩ := ins_get I2.hok ha
  obtain ⟨od, J, _⟩ := J.look
  obtain ⟨mm, hF⟩ := I2.fr
  exact PySem.W.sub_K hF I2.ok.mod.kin J c.get c.fi c.fn (own_call F b hr.in1 I2.ok.frames I2 (.cons (a := V.ref a) rfl (.cons r2 .nil)) q) (hs _ _)
end G

/-! A head whose compiled text stays small: the top is run once in the kernel, what is asked of it is a list of Bools and of the defs' shapes. -/
namespace Hd
open PySem PySem.Spec PyProof.Rows L2 G
abbrev Fr := PySem.W.Frag
abbrev ga := He.ga
abbrev ma := He.ma
/-- a property's getter -/
def pg (K : Fr) (C : Addr) (x : Str) : Addr := match PySem.W.recIn K (ma K C x) "property" with
  | some (.ref a :: _) => a
  | _ => 0
abbrev Shape := Option (Str × Str × Arguments × FuncBody × Scope × Addr × List Str × Addr)
def shapeOf (K : Fr) (a : Addr) : Shape := match K.lookup a with
  | some ⟨_, _, .func fd, _⟩ => some (fd.name, fd.qualname, fd.params, fd.body, fd.scope, fd.globals, fd.closure.map (·.1), fd.builtins)
  | _ => none
structure D where
  at_ : Fr → Addr
  name : Str
  qual : Str
  st : Stmt
  clo : List Str := []
def D.val (d : D) : Shape := some (d.name, d.qual, defArgs d.st, .stmts (defBody d.st), defScope d.st, mainGlobals, d.clo, builtinsNs)
abbrev Al := Bool × List Shape
def obs (cs : List (Fr → Bool)) (ds : List D) (K : Fr) : Al := (cs.all fun c => c K, ds.map fun d => shapeOf K (d.at_ K))
def val (ds : List D) : Al := (true, ds.map D.val)
/-- the whole heap below n, as a list, empty tables left out -/
def frN (g : Addr → Option Obj) : Nat → Nat → Fr
  | 0, _ => []
  | n + 1, a => match g a with
    | some o => (match He.emptyTab o with
      | true => frN g n (a + 1)
      | false => (a, o) :: frN g n (a + 1))
    | none => frN g n (a + 1)
theorem frN_at {g : Addr → Option Obj} {a : Addr} {o : Obj} : ∀ n b, (frN g n b).lookup a = some o → g a = some o
  | 0, _, e => nomatch (show (none : Option Obj) = some o from e)
  | n + 1, b, e => by
    unfold frN at e
    cases hb : g b with
    | none =>
      rw [hb] at e
      exact frN_at n (b + 1) e
    | some ob =>
      rw [hb] at e
      dsimp only at e
      cases ht : He.emptyTab ob with
      | true =>
        rw [ht] at e
        exact frN_at n (b + 1) e
      | false =>
        rw [ht] at e
        have e2 : (match a == b with | true => some ob | false => (frN g n (b + 1)).lookup a) = some o := e
        cases q : (a == b) with
        | true =>
          rw [q] at e2
          rw [beq_iff_eq.mp q, hb, Option.some.inj e2]
        | false =>
          rw [q] at e2
          exact frN_at n (b + 1) e2
def hook (n : Nat) (cs : List (Fr → Bool)) (ds : List D) : PySem.W.Hook where
  α := Al
  obs := fun s => obs cs ds (frN s.heap.get? n 0)
  val := fun _ => val ds
  says := fun _ h => ∃ K : Fr, K.In h ∧ obs cs ds K = val ds
  of := fun _ s e => ⟨frN s.heap.get? n 0, fun _ _ e => frN_at _ _ e, e⟩
  keeps := fun _ _ _ ⟨K, hK, c⟩ k => ⟨K, PySem.W.Frag.In.keeps hK k, c⟩
def ob (n : Nat) (cs : List (Fr → Bool)) (ds : List D) (s : PySem.W.SharedT) : Al := obs cs ds (frN (HandSHeadRun.getT s) n 0)
theorem ob_eq (n : Nat) (cs : List (Fr → Bool)) (ds : List D) (s : PySem.W.SharedT) : ob n cs ds s = (hook n cs ds).obs s.abs := by
  have e : HandSHeadRun.getT s = s.abs.heap.get? := funext fun a => HandSHeadRun.getT_eq s a
  unfold ob
  rw [e]
  rfl
/-- two runs of the same top, each with a part of what is asked -/
theorem run_join {r : PySem.W.OpenRow} {q : Program} {n M : Nat} {c1 c2 : List (Fr → Bool)} {d1 d2 : List D} {l : List PySem.Str} {w : World} (h1 : HandSHeadRun.RunEq r q (hook n c1 d1) (ob n c1 d1) M l w) (h2 : HandSHeadRun.RunEq r q (hook n c2 d2) (ob n c2 d2) M l w) :
    HandSHeadRun.RunEq r q (hook n (c1 ++ c2) (d1 ++ d2)) (ob n (c1 ++ c2) (d1 ++ d2)) M l w := fun os => by
  obtain ⟨s, e, z1⟩ := Option.map_eq_some_iff.mp (h1 os)
  obtain ⟨s2, e2, z2⟩ := Option.map_eq_some_iff.mp (h2 os)
  cases e.symm.trans e2
  refine Option.map_eq_some_iff.mpr ⟨s, e, ?_⟩
  have a1 : ob n c1 d1 s = val d1 := congrArg (fun z => z.2.2) z1
  have a2 : ob n c2 d2 s = val d2 := congrArg (fun z => z.2.2) z2
  have b1 : _ = true := congrArg (fun z => z.1) z1
  have b2 := congrArg (fun z => z.2.1) z1
  have f1 : (c1.all fun c => c (frN (HandSHeadRun.getT s) n 0)) = true := congrArg (fun z : Al => z.1) a1
  have f2 : (c2.all fun c => c (frN (HandSHeadRun.getT s) n 0)) = true := congrArg (fun z : Al => z.1) a2
  have g1 : d1.map (fun d => shapeOf (frN (HandSHeadRun.getT s) n 0) (d.at_ (frN (HandSHeadRun.getT s) n 0))) = d1.map D.val := congrArg (fun z : Al => z.2) a1
  have g2 : d2.map (fun d => shapeOf (frN (HandSHeadRun.getT s) n 0) (d.at_ (frN (HandSHeadRun.getT s) n 0))) = d2.map D.val := congrArg (fun z : Al => z.2) a2
  have e3 : ob n (c1 ++ c2) (d1 ++ d2) s = val (d1 ++ d2) := by
    unfold ob obs val
    rw [List.all_append, f1, f2, List.map_append, g1, g2, List.map_append]
    rfl
  exact Prod.ext b1 (Prod.ext b2 e3)
structure Says (cs : List (Fr → Bool)) (ds : List D) (K : Fr) : Prop where
  eq : obs cs ds K = val ds
section
variable {cs : List (Fr → Bool)} {ds : List D} {K : Fr}
theorem Says.fact (c : Says cs ds K) (i : Nat) {f : Fr → Bool} (h : cs[i]? = some f) : f K = true := by
  have c1 : (cs.all fun c => c K) = true := congrArg (fun z : Al => z.1) c.eq
  exact List.all_eq_true.mp c1 f (List.mem_of_getElem? h)
theorem Says.shape (c : Says cs ds K) (i : Nat) {d : D} (h : ds[i]? = some d) : shapeOf K (d.at_ K) = d.val := by
  have e : ds.map (fun d => shapeOf K (d.at_ K)) = ds.map D.val := congrArg (fun z : Al => z.2) c.eq
  have e2 : (ds.map fun d => shapeOf K (d.at_ K))[i]? = (ds.map D.val)[i]? := by rw [e]
  rw [List.getElem?_map, List.getElem?_map, h] at e2
  exact Option.some.inj e2
end
/-! ### what is asked -/
def eqO (a b : Option (Option Value)) : Bool := decide (a = b)
theorem eqO_ok {a b : Option (Option Value)} (h : eqO a b = true) : a = b := of_decide_eq_true h
def noneV : Value → Bool
  | .none => true
  | _ => false
def cellV (K : Fr) (C : Addr) : List (Str × Addr) → Bool
  | [(_, cc)] => (match K.lookup cc with
    | some ⟨_, _, .cell (some (.ref C')), _⟩ => decide (C' = C)
    | _ => false)
  | _ => false
def fileV (K : Fr) : Value → Bool
  | .ref cda => (match K.lookup cda with
    | some ⟨_, _, .fields vs, _⟩ => (match (vs[2]? : Option Value) with
      | some (.str z _) => decide (z = Str.ofString "/claim/cut.py")
      | _ => false)
    | _ => false)
  | _ => false
def dflV (K : Fr) (n : Nat) : Value → Bool
  | .ref T => (match K.lookup T with
    | some ⟨_, _, .seq its _, _⟩ => decide (its.toList.length = n)
    | _ => false)
  | _ => false
/-- a def without defaults, its code -/
def fnB (K : Fr) (a : Addr) (q : Str) : Bool := PySem.W.keepIn K (.ref a) && (match K.lookup a with
  | some ⟨_, _, .func fd, _⟩ => PySem.W.codeIn K fd.code q && noneV fd.defaults
  | _ => false)
def gloB (K : Fr) (x : Str) : Bool := eqO (PySem.W.nsIn K mainGlobals x) (some (some (.ref (ga K x))))
def freeB (K : Fr) (x : Str) : Bool := eqO (PySem.W.nsIn K mainGlobals x) (some none)
def intB (K : Fr) (x : Str) (i : Int) : Bool := match PySem.W.nsIn K mainGlobals x with
  | some (some (.int j _)) => decide (j = i)
  | _ => false
def methB (K : Fr) (C : Addr) (m : Str) : Bool := eqO (PySem.W.findIn K (.ref C) m) (some (some (.ref (ma K C m)))) && PySem.W.isFn K (.ref (ma K C m))
def clsB (K : Fr) (C : Addr) (xs : List Str) : Bool :=
  eqO (PySem.W.findIn K (.ref C) "__init__") (some (some (.ref (ma K C "__init__")))) && (PySem.W.makesIn K C && (PySem.W.isFn K (.ref (ma K C "__init__")) && (PySem.W.keepIn K (.ref C) && (PySem.W.plainGet K C Str.empty && (PySem.W.hasDictIn K C && (PySem.W.plainOver K C && (decide (PySem.W.findIn K (.ref C) "__setattr__" = some (some (.builtin "object.__setattr__"))) && xs.all fun x => decide (PySem.W.findIn K (.ref C) x = some none))))))))
def insB (K : Fr) (C : Addr) : Bool :=
  decide (PySem.W.findIn K (.ref C) "__class__" = some (some (.builtin "object.__class__"))) && (decide (PySem.W.specialIn K (.builtin "object.__class__") "__get__" = some (some (.builtin "getset_descriptor.__get__"))) && (decide (PySem.W.takesIn K (.builtin "object.__class__") = some true) && (decide (PySem.W.mroIn K C (.type "object") = some true) && decide (PySem.W.kitOne K (.ref C) (.ref C) = some true))))
def kitB (K : Fr) (C D : Addr) (b : Bool) : Bool := decide (PySem.W.kitOne K (.ref C) (.ref D) = some b)
def propB (K : Fr) (C : Addr) (x : Str) : Bool := eqO (PySem.W.findIn K (.ref C) x) (some (some (.ref (ma K C x)))) && ((match PySem.W.recIn K (ma K C x) "property" with
  | some (.ref _ :: _) => true
  | _ => false) && (decide (PySem.W.specialIn K (.ref (ma K C x)) "__get__" = some (some (.builtin "property.__get__"))) && decide (PySem.W.takesIn K (.ref (ma K C x)) = some true)))
/-- a method with the class's own cell and n defaults -/
def fnSB (K : Fr) (C a : Addr) (q : Str) (n : Nat) : Bool := PySem.W.keepIn K (.ref a) && (match K.lookup a with
  | some ⟨_, _, .func fd, _⟩ => PySem.W.codeIn K fd.code q && (cellV K C fd.closure && (fileV K fd.code && dflV K n fd.defaults))
  | _ => false)
/-- an error's class over the built-in ones bm, with the field x -/
def oexB (K : Fr) (C : Addr) (x : Str) (bm : List Value) (nw : String) : Bool :=
  (match K.lookup C with
  | some ⟨.type t, _, .cls cd, sl⟩ => decide (t = "type") && ((match cd.mro with
    | .ref C' :: m => decide (C' = C) && decide (m = bm)
    | _ => false) && (!cd.hasDel && (cd.hasDict && (match sl.toList with
    | [_, _, _, _, some (.builtin n), _] => decide (n = nw)
    | _ => false))))
  | _ => false) && (eqO (PySem.W.findIn K (.ref C) "__init__") (some (some (.ref (ma K C "__init__")))) && (decide (PySem.W.findIn K (.ref C) "__setattr__" = some (some (.builtin "object.__setattr__"))) && (decide (PySem.W.subIn K (.ref C) (.type "BaseException") = some true) && (decide (PySem.W.typeIn K (.ref C) = some (.type "type")) && (PySem.W.keepIn K (.ref C) && (decide (PySem.W.findIn K (.ref C) x = some none) && decide (PySem.W.typeIn K (.ref (ma K C "__init__")) = some (.type "function"))))))))
section
variable {K : Fr} {h : Heap} {mg : Str → Option Value}
theorem glo_ok (X : K.In h) (G : h.Ns mainGlobals mg) {x : Str} (c : gloB K x = true) : mg x = some (.ref (ga K x)) := PySem.W.mg_of X G (eqO_ok c)
theorem free_ok (X : K.In h) (G : h.Ns mainGlobals mg) {x : Str} (c : freeB K x = true) : mg x = none := PySem.W.mg_none_of X G (eqO_ok c)
theorem int_ok (X : K.In h) (G : h.Ns mainGlobals mg) {x : Str} {i : Int} (c : intB K x i = true) : ∃ t, mg x = some (.int i t) := He.int_ok X G c
theorem ba {a b : Bool} (h : (a && b) = true) : a = true ∧ b = true := Bool.and_eq_true_iff.mp h
theorem fun_ok {a : Addr} {x q : Str} {st : Stmt} (e : shapeOf K a = (D.mk (fun _ => a) x q st []).val) (c : fnB K a q = true) : ∃ fd, Fun K x q st a fd := by
  obtain ⟨kp, c2⟩ := ba c
  unfold shapeOf at e
  cases l : K.lookup a with
  | none => rw [l] at c2; cases c2
  | some o =>
    obtain ⟨oc, od, dt, osl⟩ := o
    rw [l] at c2 e
    cases dt with
    | func fd =>
      obtain ⟨n1, n2, n3, n4, n5, n6, n7, n8, n9, n10, n11, n12, n13, n14, n15⟩ := fd
      have e2 : (some (n1, n2, n3, n4, n5, n6, n7.map (·.1), n15) : Shape) = some (x, q, defArgs st, .stmts (defBody st), defScope st, mainGlobals, [], builtinsNs) := e
      simp only [Option.some.injEq, Prod.mk.injEq] at e2
      obtain ⟨h1, h2, h3, h4, h5, h6, h7, h8⟩ := e2
      have h7 : n7 = [] := List.map_eq_nil_iff.mp h7
      subst h1 h2 h3 h4 h5 h6 h7 h8
      obtain ⟨k1, k2⟩ := ba (show (PySem.W.codeIn K n13 n2 && noneV n8) = true from c2)
      have e8 : n8 = .none := by
        clear e c2 l
        cases n8 with
        | none => rfl
        | _ => cases k2
      subst e8
      exact ⟨_, ⟨⟨oc, od, n9, n10, n11, n12, n13, n14, osl, rfl, l, k1⟩, kp⟩⟩
    | _ => cases c2
theorem cell_ok {C : Addr} {l : List (Str × Addr)} (h : l.map (·.1) = [Str.ofString "__class__"]) (c : cellV K C l = true) : ∃ cc, l = [(Str.ofString "__class__", cc)] ∧ ∃ cl cld csl, K.lookup cc = some ⟨cl, cld, .cell (some (.ref C)), csl⟩ := by
  match l, h, c with
  | [(y, cc)], h, c =>
    refine ⟨cc, by rw [show y = Str.ofString "__class__" from (List.cons.inj h).1], ?_⟩
    have c : (match K.lookup cc with
      | some ⟨_, _, .cell (some (.ref C')), _⟩ => decide (C' = C)
      | _ => false) = true := c
    split at c
    · next d => exact ⟨_, _, _, by rw [d, of_decide_eq_true c]⟩
    · cases c
theorem file_ok {v : Value} (c : fileV K v = true) : ∃ cda, v = .ref cda ∧ ∃ ccl cdd vs ccs tf, K.lookup cda = some ⟨ccl, cdd, .fields vs, ccs⟩ ∧ vs[2]? = some (.str "/claim/cut.py" tf) := by
  unfold fileV at c
  split at c
  · split at c
    · next d =>
      split at c
      · next d2 => exact ⟨_, rfl, _, _, _, _, _, d, by rw [d2, of_decide_eq_true c]⟩
      · cases c
    · cases c
  · cases c
theorem dfl_ok {v : Value} {n : Nat} (c : dflV K n v = true) : DflS K v n := by
  unfold dflV at c
  split at c
  · split at c
    · next its m sl d => exact ⟨_, _, its.toList, m, rfl, d, rfl, of_decide_eq_true c⟩
    · cases c
  · cases c
theorem funS_ok {C a : Addr} {x q : Str} {st : Stmt} {n : Nat} (e : shapeOf K a = (D.mk (fun _ => a) x q st ["__class__"]).val) (c : fnSB K C a q n = true) : ∃ fd, FunS K x q st n C a fd := by
  obtain ⟨kp, c2⟩ := ba c
  unfold shapeOf at e
  cases l : K.lookup a with
  | none => rw [l] at c2; cases c2
  | some o =>
    obtain ⟨oc, od, dt, osl⟩ := o
    rw [l] at c2 e
    cases dt with
    | func fd =>
      obtain ⟨n1, n2, n3, n4, n5, n6, n7, n8, n9, n10, n11, n12, n13, n14, n15⟩ := fd
      have e2 : (some (n1, n2, n3, n4, n5, n6, n7.map (·.1), n15) : Shape) = some (x, q, defArgs st, FuncBody.stmts (defBody st), defScope st, mainGlobals, [Str.ofString "__class__"], builtinsNs) := e
      simp only [Option.some.injEq, Prod.mk.injEq] at e2
      obtain ⟨h1, h2, h3, h4, h5, h6, h7, h8⟩ := e2
      have c3 : (PySem.W.codeIn K n13 q && (cellV K C n7 && (fileV K n13 && dflV K n n8))) = true := c2
      clear c2
      obtain ⟨k1, c3⟩ := ba c3
      obtain ⟨k2, c4⟩ := ba c3
      obtain ⟨k3, k4⟩ := ba c4
      obtain ⟨cc, h7, k2c⟩ : ∃ cc, n7 = [(Str.ofString "__class__", cc)] ∧ ∃ cl cld csl, K.lookup cc = some ⟨cl, cld, .cell (some (.ref C)), csl⟩ := cell_ok h7 k2
      obtain ⟨cda, h13, ccl, cdd, vs, ccs, tf, k5, k6⟩ := file_ok k3
      have k4' := dfl_ok k4
      subst h1 h2 h3 h4 h5 h6 h7 h8 h13
      exact ⟨_, ⟨⟨oc, od, n8, n9, n10, n11, n12, cda, cc, n14, osl, rfl, l, k1, k2c, ccl, cdd, vs, ccs, tf, k5, k6, k4'⟩, kp⟩⟩
    | _ => cases c2
theorem meth_ok {C : Addr} {m : Str} (c : methB K C m = true) : PySem.W.findIn K (.ref C) m = some (some (.ref (ma K C m))) ∧ PySem.W.isFn K (.ref (ma K C m)) = true := by
  obtain ⟨c1, c2⟩ := ba c
  exact ⟨eqO_ok c1, c2⟩
theorem cls_ok {C : Addr} {xs : List Str} (h : clsB K C xs = true) : Mk K C (ma K C "__init__") ∧ Cls K C ∧ ∀ x ∈ xs, NoAttr K C x := by
  simp only [clsB, Bool.and_eq_true, decide_eq_true_eq, List.all_eq_true] at h
  obtain ⟨i, h1, h2, h3, h4, h5, h6, h7, h8⟩ := h
  exact ⟨⟨h1, eqO_ok i, h2, h3⟩, ⟨h4, h5, h6, h7⟩, h8⟩
theorem kit_ok {C D : Addr} {b : Bool} (h : kitB K C D b = true) : PySem.W.kitOne K (.ref C) (.ref D) = some b := of_decide_eq_true h
theorem prop_ok {C : Addr} {x : Str} (h : propB K C x = true) : PropOf K C x (ma K C x) (pg K C x) := by
  obtain ⟨h1, h⟩ := ba h
  obtain ⟨h2, h⟩ := ba h
  obtain ⟨h3, h4⟩ := ba h
  have e : ∃ rest, PySem.W.recIn K (ma K C x) "property" = some (.ref (pg K C x) :: rest) := by
    unfold pg
    split at h2
    · next d => exact ⟨_, by rw [d]⟩
    · cases h2
  exact ⟨eqO_ok h1, of_decide_eq_true h3, of_decide_eq_true h4, e⟩
theorem oex_ok {C : Addr} {x : Str} {bm : List Value} (h : oexB K C x bm "ValueError.__new__" = true) (hb : PySem.HandSPX.refsVE bm = true) : OexC K C ∧ PySem.W.findIn K (.ref C) "__init__" = some (some (.ref (ma K C "__init__"))) ∧ PySem.W.findIn K (.ref C) x = some none ∧ PySem.W.typeIn K (.ref (ma K C "__init__")) = some (.type "function") := by
  unfold oexB at h
  obtain ⟨h1, h⟩ := ba h
  obtain ⟨h2, h⟩ := ba h
  obtain ⟨h3, h⟩ := ba h
  obtain ⟨h4, h⟩ := ba h
  obtain ⟨h5, h⟩ := ba h
  obtain ⟨h6, h⟩ := ba h
  obtain ⟨h7, h8⟩ := ba h
  refine ⟨⟨?_, of_decide_eq_true h3, of_decide_eq_true h4, of_decide_eq_true h5, h6⟩, eqO_ok h2, of_decide_eq_true h7, of_decide_eq_true h8⟩
  split at h1
  · next t dd cd sl l =>
    obtain ⟨a1, h1⟩ := ba h1
    obtain ⟨a2, h1⟩ := ba h1
    obtain ⟨a3, h1⟩ := ba h1
    obtain ⟨a4, a5⟩ := ba h1
    obtain ⟨nm, bs, mro, ns, qn, hd, sn, sub, ab, col, del⟩ := cd
    dsimp only at a2 a3 a4
    have e1 : t = "type" := of_decide_eq_true a1
    have e3 : del = false := by simpa using a3
    have e4 : hd = true := a4
    have e2 : mro = .ref C :: bm := by
      split at a2
      · next C' m =>
        obtain ⟨b1, b2⟩ := ba a2
        rw [of_decide_eq_true b1, of_decide_eq_true b2]
      · cases a2
    have e5 : ∃ k0 k1 k2 k3 k5, sl = #[k0, k1, k2, k3, some (.builtin "ValueError.__new__"), k5] := by
      split at a5
      · next k0 k1 k2 k3 n k5 hs =>
        refine ⟨k0, k1, k2, k3, k5, ?_⟩
        obtain ⟨l⟩ := sl
        simp only at hs
        rw [hs, of_decide_eq_true a5]
      · cases a5
    obtain ⟨k0, k1, k2, k3, k5, e5⟩ := e5
    subst e1 e2 e3 e4 e5
    exact ⟨_, _, _, _, _, _, _, _, _, _, _, _, _, _, _, l, hb⟩
  · cases h1
theorem ins_ok {C : Addr} (h : insB K C = true) : PySem.W.findIn K (.ref C) "__class__" = some (some (.builtin "object.__class__")) ∧ PySem.W.specialIn K (.builtin "object.__class__") "__get__" = some (some (.builtin "getset_descriptor.__get__")) ∧ PySem.W.takesIn K (.builtin "object.__class__") = some true ∧ PySem.W.mroIn K C (.type "object") = some true ∧ PySem.W.kitOne K (.ref C) (.ref C) = some true := by
  simp only [insB, Bool.and_eq_true, decide_eq_true_eq] at h
  exact h
end
/-! ### the law's own table of code objects -/
def codA (K : Fr) (a : Addr) : Addr := match K.lookup a with
  | some ⟨_, _, .func fd, _⟩ => (match fd.code with
    | .ref c => c
    | _ => 0)
  | _ => 0
def tabA (K : Fr) (a : Addr) : Addr := match K.lookup (codA K a) with
  | some ⟨_, _, .fields vs, _⟩ => (match vs.getD 11 .none with
    | .ref P => P
    | _ => 0)
  | _ => 0
def strV : Value → Bool
  | .str _ _ => true
  | _ => false
def intV : Value → Bool
  | .int _ _ => true
  | _ => false
def boolV : Value → Bool
  | .bool _ => true
  | _ => false
/-- the def at a makes code objects of its own: its table, not in the written part -/
def lawB (K : Fr) (a : Addr) : Bool := (match K.lookup a with
  | some ⟨_, _, .func fd, _⟩ => (match fd.code with
    | .ref c => (match K.lookup c with
      | some ⟨.type t, _, .fields vs, _⟩ => decide (t = "code") && (decide (vs[11]? = some (.ref (tabA K a))) && (strV (vs.getD 18 .none) && (intV (vs.getD 7 .none) && (boolV (vs.getD 9 .none) && (intV (vs.getD 10 .none) && decide (c ≠ tabA K a))))))
      | _ => false)
    | _ => false)
  | _ => false) && (K.lookup (tabA K a)).isNone
theorem law_ok {K : Fr} {h : Heap} (X : K.In h) {a : Addr} (c : lawB K a = true) : PySem.W.CodeHd h (codA K a) (tabA K a) ∧ K.lookup (tabA K a) = none ∧
    ∃ oc od fd osl cc dd vs csl, K.lookup a = some ⟨oc, od, .func fd, osl⟩ ∧ fd.code = .ref (codA K a) ∧ K.lookup (codA K a) = some ⟨cc, dd, .fields vs, csl⟩ ∧ vs[11]? = some (.ref (tabA K a)) := by
  unfold lawB at c
  obtain ⟨c, n⟩ := ba c
  have n : K.lookup (tabA K a) = none := Option.isNone_iff_eq_none.mp n
  split at c
  · next oc od fd osl l =>
    split at c
    · next cc ec =>
      have e0 : codA K a = cc := by
        unfold codA
        rw [l]
        dsimp only
        rw [ec]
      split at c
      · next t dd vs csl l2 =>
        obtain ⟨c1, c⟩ := ba c
        obtain ⟨c2, c⟩ := ba c
        obtain ⟨c3, c⟩ := ba c
        obtain ⟨c4, c⟩ := ba c
        obtain ⟨c5, c⟩ := ba c
        obtain ⟨c6, c7⟩ := ba c
        have c2 := of_decide_eq_true c2
        have c7 := of_decide_eq_true c7
        have c1 : t = "code" := of_decide_eq_true c1
        have g11 : vs.getD 11 .none = .ref (tabA K a) := by
          rw [Array.getD_eq_getD_getElem?, c2]
          rfl
        obtain ⟨file, tf, e3⟩ : ∃ z t, vs.getD 18 .none = .str z t := by
          cases q : vs.getD 18 .none with
          | str z t => exact ⟨z, t, rfl⟩
          | _ => rw [q] at c3; cases c3
        obtain ⟨fl, tg, e4⟩ : ∃ z t, vs.getD 7 .none = .int z t := by
          cases q : vs.getD 7 .none with
          | int z t => exact ⟨z, t, rfl⟩
          | _ => rw [q] at c4; cases c4
        obtain ⟨inF, e5⟩ : ∃ z, vs.getD 9 .none = .bool z := by
          cases q : vs.getD 9 .none with
          | bool z => exact ⟨z, rfl⟩
          | _ => rw [q] at c5; cases c5
        obtain ⟨tx, tt, e6⟩ : ∃ z t, vs.getD 10 .none = .int z t := by
          cases q : vs.getD 10 .none with
          | int z t => exact ⟨z, t, rfl⟩
          | _ => rw [q] at c6; cases c6
        subst c1
        refine ⟨⟨_, vs, file, tf, fl, tg, inF, tx, tt, X _ _ (e0 ▸ l2), rfl, rfl, c2, g11, e3, e4, e5, e6, e0 ▸ c7⟩, n, oc, od, fd, osl, _, dd, vs, csl, l, e0 ▸ ec, e0 ▸ l2, c2⟩
      · cases c
    · cases c
  · cases c
/-- the end of a law that makes lambdas, over such a head -/
theorem walkYT {l : PySem.W.OpenLaw} {n k : Nat} {q : Program} {loose : List Str} {XP : (Str → Option Value) → Heap → Prop} {YP : World → Heap → Prop} {d : DefRec} {x : Str} {sp : Fr → Addr → Sp}
    (hn : l.most = some n) (hn2 : n ≤ sizeLine) (hdf : d.params.defaults = []) (hr : Room k callerA) (hrec : ((recsOf q).any fun e => e.name == d.name) = true)
    (F : ∀ (w : World) (mg : Str → Option Value) (fa : Addr) (h : Heap), YP w h → h.Ns mainGlobals mg → mg d.name = some (.ref fa) →
      ∃ (K : Fr) (fd : FuncData), K.In h ∧ lawB K fa = true ∧ (∀ (s : Shared) (u : Value), BindsTo s fd ⟨[u], []⟩ [(x, u)]) ∧
        ∀ base : Heap, K.In base → base.Ns mainGlobals mg → LamX.TabB base mg (codA K fa) (tabA K fa) → FnOkG l.prog w K mg base CX0 k fa fd [x] (sp K (tabA K fa)))
    (hsp : ∀ (K : Fr) (T : Addr) (H : Hp) (a : Addr) (ns : List Int), ns.length ≤ n → H T = some (.tbl #[]) → SqL K H a (ns.map V.int) → sp K T [.ref a] H (fun v _ => v = .bl true) fun _ _ _ => False) :
    PySem.W.WalkO q loose XP YP l.row.toRowW d [] (fun f vs => PySem.call f vs) := by
  refine Att.attach_call hn hdf fun w s0 s1 mg mb fa o pm cd doc a vs ns Gr Y ho hd hcd hmg hobj hints hlen hg => ?_
  obtain ⟨K, fd, KX, lb, hb, R⟩ := F w mg fa _ Y Gr.T.g hmg
  obtain ⟨t3, t2, oc, od, fd0, osl, ccc, dd, vs0, csl, l1, l2, l3, l4⟩ := law_ok KX lb
  have t1 : s1.heap.get? (tabA K fa) = some { cls := .none, data := .fields #[] } := by
    obtain ⟨dL, m1, m2⟩ := List.any_eq_true.mp hrec
    have m3 : dL.name = d.name := beq_iff_eq.mp m2
    obtain ⟨a2, o2, fd2, c2, P2, h1, h2, h3, h4, h5, ⟨⟨oc, vc, e1, _, e3, e4⟩, hP⟩⟩ := Gr.T.tab dL m1
    rw [m3, hmg] at h1
    cases h1
    have g1 := KX _ _ l1
    rw [g1] at h2
    cases h2
    cases h3
    rw [l2] at h4
    cases h4
    have g2 := KX _ _ l3
    rw [g2] at e1
    cases e1
    cases e3
    rw [l4] at e4
    cases e4
    exact hP
  have rv := vals_ints hints
  have few := Nat.le_trans hlen hn2
  have aT : a ≠ tabA K fa := fun z => by
    rw [z, t1] at hobj
    have q := congrArg Obj.data (Option.some.inj hobj)
    cases q
  cases hk : K.lookup a with
  | some ob =>
    have e := KX a ob hk
    rw [hobj] at e
    cases e
    refine law_fromT KX Gr.T.g Gr.T.b Gr.T.builtins Gr.T.nolimit hg t1 t2 t3 Gr.T.bmain hobj rv few hr R hb (o := none) (.inl rfl) (hsp _ _ _ _ _ hlen hdT_P (.inr ⟨_, vs.toArray, _, hk, rfl, rfl, rfl, ?_, ?_⟩))
    · rw [List.size_toArray, hints.length]
      exact few
    · simpa using rv
  | none =>
    exact law_fromT KX Gr.T.g Gr.T.b Gr.T.builtins Gr.T.nolimit hg t1 t2 t3 Gr.T.bmain hobj rv few hr R hb (o := some (.frz { cls := .type "list", data := .seq vs.toArray } (.lst (ns.map V.int)))) (.inr ⟨rfl, hk⟩) (hsp _ _ _ _ _ hlen hdT_P (.inl (.inr ⟨_, hdT_a aT⟩)))
/-- the end of a law over such a head -/
theorem walkY {l : PySem.W.OpenLaw} {n : Nat} {q : Program} {loose : List Str} {XP : (Str → Option Value) → Heap → Prop} {YP : World → Heap → Prop} {d : DefRec} {x : Str}
    (hn : l.most = some n) (hn2 : n ≤ sizeLine) (hdf : d.params.defaults = [])
    (F : ∀ (w : World) (mg : Str → Option Value) (fa : Addr) (h : Heap), YP w h → h.Ns mainGlobals mg → mg d.name = some (.ref fa) →
      ∃ (K : Fr) (fd : FuncData) (sp : Sp), K.In h ∧ (∀ (s : Shared) (u : Value), BindsTo s fd ⟨[u], []⟩ [(x, u)]) ∧
        (∀ (H : Hp) (a : Addr) (ns : List Int), ns.length ≤ n → Only H → SqL K H a (ns.map V.int) → sp [.ref a] H (fun v _ => v = .bl true) fun _ _ _ => False) ∧ RunA l.prog w K mg callerA fa fd [x] sp) :
    PySem.W.WalkO q loose XP YP l.row.toRowW d [] (fun f vs => PySem.call f vs) := by
  refine Att.attach_call hn hdf fun w s0 s1 mg mb fa o pm cd doc a vs ns Gr Y ho hd hcd hmg hobj hints hlen hg => ?_
  obtain ⟨K, fd, sp, KX, hb, hsp, R⟩ := F w mg fa _ Y Gr.T.g hmg
  exact law_callA KX Gr.T.g Gr.T.b Gr.T.builtins Gr.T.nolimit hg hobj hints (Nat.le_trans hlen hn2) R hb fun H hO hS => hsp H a ns hlen hO hS
end Hd

/-! What is asked of the program's top. -/
namespace LW
open PySem L2 G
def dsTG0_0 : List Hd.D := [
  ⟨fun K => Hd.ga K "_law_pen", "_law_pen", "_law_pen", (top 49), []⟩,
  ⟨fun K => Hd.ga K "_law_draw", "_law_draw", "_law_draw", (top 50), []⟩,
  ⟨fun K => Hd.ga K "_law_pick", "_law_pick", "_law_pick", (top 51), []⟩,
  ⟨fun K => Hd.ga K "_law_words", "_law_words", "_law_words", (top 53), []⟩,
  ⟨fun K => Hd.ga K "_law_great", "_law_great", "_law_great", (top 52), []⟩,
  ⟨fun K => Hd.ga K "_law_spot", "_law_spot", "_law_spot", (top 54), []⟩,
  ⟨fun K => Hd.ga K "_law_span", "_law_span", "_law_span", (top 55), []⟩,
  ⟨fun K => Hd.ga K "_law_days", "_law_days", "_law_days", (top 56), []⟩,
  ⟨fun K => Hd.ga K "_law_chain", "_law_chain", "_law_chain", (top 57), []⟩,
  ⟨fun K => Hd.ga K "_law_naming", "_law_naming", "_law_naming", (top 58), []⟩,
  ⟨fun K => Hd.ga K "_law_subject", "_law_subject", "_law_subject", (top 59), []⟩,
  ⟨fun K => Hd.ga K "_law_leave", "_law_leave", "_law_leave", (top 60), []⟩,
  ⟨fun K => Hd.ga K "is_integer_in", "is_integer_in", "is_integer_in", (top 7), []⟩,
  ⟨fun K => Hd.ga K "is_word", "is_word", "is_word", (top 8), []⟩,
  ⟨fun K => Hd.ga K "is_chain", "is_chain", "is_chain", (top 9), []⟩,
  ⟨fun K => Hd.ga K "is_stretch", "is_stretch", "is_stretch", (top 10), []⟩,
  ⟨fun K => Hd.ga K "is_times", "is_times", "is_times", (top 12), []⟩,
  ⟨fun K => Hd.ga K "_are_unlike_chains", "_are_unlike_chains", "_are_unlike_chains", (top 14), []⟩,
  ⟨fun K => Hd.ga K "_is_share", "_is_share", "_is_share", (top 13), []⟩]
def dsTG0_ : List Hd.D := dsTG0_0
def dsTG1_0 : List Hd.D := [
  ⟨fun K => Hd.ga K "is_subject", "is_subject", "is_subject", (top 11), []⟩,
  ⟨fun K => Hd.ma K (Hd.ga K "InvalidWord") "__init__", "__init__", "InvalidWord.__init__", (inClass (top 16) 0), []⟩,
  ⟨fun K => Hd.ma K (Hd.ga K "InvalidChain") "__init__", "__init__", "InvalidChain.__init__", (inClass (top 17) 0), []⟩,
  ⟨fun K => Hd.ma K (Hd.ga K "InvalidStretch") "__init__", "__init__", "InvalidStretch.__init__", (inClass (top 18) 0), []⟩,
  ⟨fun K => Hd.ma K (Hd.ga K "InvalidSubject") "__init__", "__init__", "InvalidSubject.__init__", (inClass (top 19) 0), []⟩,
  ⟨fun K => Hd.ma K (Hd.ga K "InvalidTimes") "__init__", "__init__", "InvalidTimes.__init__", (inClass (top 20) 0), []⟩,
  ⟨fun K => Hd.ga K "_check_word", "_check_word", "_check_word", (top 35), []⟩,
  ⟨fun K => Hd.ga K "_check_stretch", "_check_stretch", "_check_stretch", (top 36), []⟩,
  ⟨fun K => Hd.ga K "_checked_days", "_checked_days", "_checked_days", (top 37), []⟩,
  ⟨fun K => Hd.ga K "is_share", "is_share", "is_share", (top 23), []⟩,
  ⟨fun K => Hd.ga K "_chain_text", "_chain_text", "_chain_text", (top 27), []⟩,
  ⟨fun K => Hd.ga K "_days_text", "_days_text", "_days_text", (top 29), []⟩,
  ⟨fun K => Hd.ga K "_times_text", "_times_text", "_times_text", (top 30), []⟩,
  ⟨fun K => Hd.ga K "_subject_text", "_subject_text", "_subject_text", (top 28), []⟩,
  ⟨fun K => Hd.ga K "naming_text", "naming_text", "naming_text", (top 25), []⟩,
  ⟨fun K => Hd.ga K "leave_text", "leave_text", "leave_text", (top 26), []⟩,
  ⟨fun K => Hd.ma K (Hd.ga K "Naming") "__init__", "__init__", "Naming.__init__", (inClass (top 33) 0), ["__class__"]⟩,
  ⟨fun K => Hd.ma K (Hd.ga K "Leave") "__init__", "__init__", "Leave.__init__", (inClass (top 34) 0), ["__class__"]⟩,
  ⟨fun K => Hd.ma K (Hd.ga K "Statement") "__init__", "__init__", "Statement.__init__", (inClass (top 32) 0), []⟩]
def dsTG1_ : List Hd.D := dsTG1_0
def dsTG2_0 : List Hd.D := [
  ⟨fun K => Hd.ga K "_law_made", "_law_made", "_law_made", (top 61), []⟩,
  ⟨fun K => Hd.pg K (Hd.ga K "Naming") "person", "person", "Statement.person", (inClass (top 32) 1), []⟩,
  ⟨fun K => Hd.pg K (Hd.ga K "Naming") "days", "days", "Statement.days", (inClass (top 32) 2), []⟩,
  ⟨fun K => Hd.pg K (Hd.ga K "Naming") "text", "text", "Statement.text", (inClass (top 32) 3), []⟩,
  ⟨fun K => Hd.pg K (Hd.ga K "Naming") "name", "name", "Naming.name", (inClass (top 33) 1), []⟩,
  ⟨fun K => Hd.pg K (Hd.ga K "Naming") "chain", "chain", "Naming.chain", (inClass (top 33) 2), []⟩,
  ⟨fun K => Hd.pg K (Hd.ga K "Leave") "person", "person", "Statement.person", (inClass (top 32) 1), []⟩,
  ⟨fun K => Hd.pg K (Hd.ga K "Leave") "days", "days", "Statement.days", (inClass (top 32) 2), []⟩,
  ⟨fun K => Hd.pg K (Hd.ga K "Leave") "text", "text", "Statement.text", (inClass (top 32) 3), []⟩,
  ⟨fun K => Hd.pg K (Hd.ga K "Leave") "subject", "subject", "Leave.subject", (inClass (top 34) 1), []⟩,
  ⟨fun K => Hd.pg K (Hd.ga K "Leave") "tags", "tags", "Leave.tags", (inClass (top 34) 2), []⟩,
  ⟨fun K => Hd.pg K (Hd.ga K "Leave") "times", "times", "Leave.times", (inClass (top 34) 3), []⟩,
  ⟨fun K => Hd.ma K (Hd.ga K "Naming") "__eq__", "__eq__", "Naming.__eq__", (inClass (top 33) 3), []⟩,
  ⟨fun K => Hd.ma K (Hd.ga K "Leave") "__eq__", "__eq__", "Leave.__eq__", (inClass (top 34) 4), []⟩,
  ⟨fun K => Hd.ma K (Hd.ga K "Reader") "is_next", "is_next", "Reader.is_next", (inClass (top 40) 1), []⟩,
  ⟨fun K => Hd.ma K (Hd.ga K "Reader") "is_word_next", "is_word_next", "Reader.is_word_next", (inClass (top 40) 2), []⟩,
  ⟨fun K => Hd.ma K (Hd.ga K "Reader") "is_at_end", "is_at_end", "Reader.is_at_end", (inClass (top 40) 3), []⟩,
  ⟨fun K => Hd.ma K (Hd.ga K "Reader") "_taken", "_taken", "Reader._taken", (inClass (top 40) 9), []⟩,
  ⟨fun K => Hd.ma K (Hd.ga K "Reader") "__init__", "__init__", "Reader.__init__", (inClass (top 40) 0), []⟩]
def dsTG2_ : List Hd.D := dsTG2_0
def dsTG3_0 : List Hd.D := [
  ⟨fun K => Hd.ma K (Hd.ga K "Reader") "take_sign", "take_sign", "Reader.take_sign", (inClass (top 40) 4), []⟩,
  ⟨fun K => Hd.ma K (Hd.ga K "Reader") "take_word", "take_word", "Reader.take_word", (inClass (top 40) 5), []⟩,
  ⟨fun K => Hd.ga K "is_number", "is_number", "is_number", (top 41), []⟩,
  ⟨fun K => Hd.ma K (Hd.ga K "Reader") "take_number", "take_number", "Reader.take_number", (inClass (top 40) 6), []⟩,
  ⟨fun K => Hd.ma K (Hd.ga K "Reader") "take_chain", "take_chain", "Reader.take_chain", (inClass (top 40) 7), []⟩,
  ⟨fun K => Hd.ma K (Hd.ga K "InvalidText") "__init__", "__init__", "InvalidText.__init__", (inClass (top 21) 0), []⟩,
  ⟨fun K => Hd.ma K (Hd.ga K "Reader") "finish", "finish", "Reader.finish", (inClass (top 40) 8), []⟩,
  ⟨fun K => Hd.ga K "_days", "_days", "_days", (top 47), []⟩,
  ⟨fun K => Hd.ga K "_unlike_chain", "_unlike_chain", "_unlike_chain", (top 46), []⟩,
  ⟨fun K => Hd.ga K "_share", "_share", "_share", (top 45), []⟩,
  ⟨fun K => Hd.ga K "_leave_behind", "_leave_behind", "_leave_behind", (top 44), []⟩,
  ⟨fun K => Hd.ga K "read_statement", "read_statement", "read_statement", (top 43), []⟩,
  ⟨fun K => Hd.ga K "_law_text", "_law_text", "_law_text", (top 62), []⟩,
  ⟨fun K => Hd.ga K "_law_statement_pool", "_law_statement_pool", "_law_statement_pool", (top 63), []⟩,
  ⟨fun K => Hd.ga K "_law_facts", "_law_facts", "_law_facts", (top 64), []⟩,
  ⟨fun K => Hd.ga K "_law_due_facts", "_law_due_facts", "_law_due_facts", (top 65), []⟩,
  ⟨fun K => Hd.ga K "_law_days_right", "_law_days_right", "_law_days_right", (top 66), []⟩,
  ⟨fun K => Hd.ga K "law", "law", "law", (top 67), []⟩]
def dsTG3_ : List Hd.D := dsTG3_0
def dsT : List Hd.D := dsTG0_ ++ dsTG1_ ++ dsTG2_ ++ dsTG3_
def csTG0_0 : List (Hd.Fr → Bool) := [
  fun K => Hd.freeB K "int",
  fun K => Hd.freeB K "len",
  fun K => Hd.freeB K "abs",
  fun K => Hd.freeB K "list",
  fun K => Hd.freeB K "range",
  fun K => Hd.freeB K "min",
  fun K => Hd.freeB K "max",
  fun K => Hd.freeB K "tuple",
  fun K => Hd.freeB K "isinstance",
  fun K => Hd.freeB K "str",
  fun K => Hd.freeB K "bool",
  fun K => Hd.freeB K "all",
  fun K => Hd.freeB K "repr",
  fun K => Hd.freeB K "set",
  fun K => Hd.freeB K "ValueError",
  fun K => Hd.freeB K "super",
  fun K => Hd.freeB K "enumerate",
  fun K => Hd.freeB K "sorted",
  fun K => Hd.gloB K "_law_pen",
  fun K => Hd.fnB K (Hd.ga K "_law_pen") "_law_pen",
  fun K => Hd.gloB K "_law_draw",
  fun K => Hd.fnB K (Hd.ga K "_law_draw") "_law_draw",
  fun K => Hd.gloB K "_law_pick",
  fun K => Hd.fnB K (Hd.ga K "_law_pick") "_law_pick",
  fun K => Hd.gloB K "_law_words",
  fun K => Hd.fnB K (Hd.ga K "_law_words") "_law_words",
  fun K => Hd.gloB K "_law_great",
  fun K => Hd.fnB K (Hd.ga K "_law_great") "_law_great",
  fun K => Hd.gloB K "_law_spot",
  fun K => Hd.fnB K (Hd.ga K "_law_spot") "_law_spot"]
def csTG0_1 : List (Hd.Fr → Bool) := [
  fun K => Hd.gloB K "_law_span",
  fun K => Hd.fnB K (Hd.ga K "_law_span") "_law_span",
  fun K => Hd.gloB K "_law_days",
  fun K => Hd.fnB K (Hd.ga K "_law_days") "_law_days",
  fun K => Hd.gloB K "_law_chain",
  fun K => Hd.fnB K (Hd.ga K "_law_chain") "_law_chain",
  fun K => Hd.gloB K "_law_naming",
  fun K => Hd.fnB K (Hd.ga K "_law_naming") "_law_naming",
  fun K => Hd.gloB K "_law_subject",
  fun K => Hd.fnB K (Hd.ga K "_law_subject") "_law_subject",
  fun K => Hd.gloB K "_law_leave",
  fun K => Hd.fnB K (Hd.ga K "_law_leave") "_law_leave",
  fun K => Hd.intB K "MAX_LETTERS" (8),
  fun K => Hd.intB K "MAX_NAMES" (4),
  fun K => Hd.intB K "MAX_CHAINS" (4),
  fun K => Hd.intB K "MAX_TIMES" (9),
  fun K => Hd.intB K "LIMIT" (10 ^ 30),
  fun K => Hd.gloB K "is_integer_in",
  fun K => Hd.fnB K (Hd.ga K "is_integer_in") "is_integer_in",
  fun K => Hd.gloB K "is_word",
  fun K => Hd.fnB K (Hd.ga K "is_word") "is_word"]
def csTG0_ : List (Hd.Fr → Bool) := csTG0_0 ++ csTG0_1
def csTG1_0 : List (Hd.Fr → Bool) := [
  fun K => Hd.gloB K "is_chain",
  fun K => Hd.fnB K (Hd.ga K "is_chain") "is_chain",
  fun K => Hd.gloB K "is_stretch",
  fun K => Hd.fnB K (Hd.ga K "is_stretch") "is_stretch",
  fun K => Hd.gloB K "is_times",
  fun K => Hd.fnB K (Hd.ga K "is_times") "is_times",
  fun K => Hd.gloB K "_are_unlike_chains",
  fun K => Hd.fnB K (Hd.ga K "_are_unlike_chains") "_are_unlike_chains",
  fun K => Hd.gloB K "_is_share",
  fun K => Hd.fnB K (Hd.ga K "_is_share") "_is_share",
  fun K => Hd.gloB K "is_subject",
  fun K => Hd.fnB K (Hd.ga K "is_subject") "is_subject",
  fun K => Hd.oexB K (Hd.ga K "InvalidWord") "value" [.type "ValueError", .type "Exception", .type "BaseException", .type "object"] "ValueError.__new__",
  fun K => Hd.gloB K "InvalidWord",
  fun K => Hd.fnB K (Hd.ma K (Hd.ga K "InvalidWord") "__init__") "InvalidWord.__init__",
  fun K => Hd.oexB K (Hd.ga K "InvalidChain") "value" [.type "ValueError", .type "Exception", .type "BaseException", .type "object"] "ValueError.__new__",
  fun K => Hd.gloB K "InvalidChain",
  fun K => Hd.fnB K (Hd.ma K (Hd.ga K "InvalidChain") "__init__") "InvalidChain.__init__",
  fun K => Hd.oexB K (Hd.ga K "InvalidStretch") "value" [.type "ValueError", .type "Exception", .type "BaseException", .type "object"] "ValueError.__new__",
  fun K => Hd.gloB K "InvalidStretch",
  fun K => Hd.fnB K (Hd.ma K (Hd.ga K "InvalidStretch") "__init__") "InvalidStretch.__init__",
  fun K => Hd.oexB K (Hd.ga K "InvalidSubject") "value" [.type "ValueError", .type "Exception", .type "BaseException", .type "object"] "ValueError.__new__",
  fun K => Hd.gloB K "InvalidSubject",
  fun K => Hd.fnB K (Hd.ma K (Hd.ga K "InvalidSubject") "__init__") "InvalidSubject.__init__",
  fun K => Hd.oexB K (Hd.ga K "InvalidTimes") "value" [.type "ValueError", .type "Exception", .type "BaseException", .type "object"] "ValueError.__new__",
  fun K => Hd.gloB K "InvalidTimes",
  fun K => Hd.fnB K (Hd.ma K (Hd.ga K "InvalidTimes") "__init__") "InvalidTimes.__init__",
  fun K => Hd.gloB K "_check_word",
  fun K => Hd.fnB K (Hd.ga K "_check_word") "_check_word",
  fun K => Hd.gloB K "_check_stretch"]
def csTG1_1 : List (Hd.Fr → Bool) := [
  fun K => Hd.fnB K (Hd.ga K "_check_stretch") "_check_stretch",
  fun K => Hd.gloB K "_checked_days",
  fun K => Hd.fnB K (Hd.ga K "_checked_days") "_checked_days",
  fun K => Hd.gloB K "is_share",
  fun K => Hd.fnB K (Hd.ga K "is_share") "is_share",
  fun K => Hd.gloB K "_chain_text",
  fun K => Hd.fnB K (Hd.ga K "_chain_text") "_chain_text",
  fun K => Hd.gloB K "_days_text",
  fun K => Hd.fnB K (Hd.ga K "_days_text") "_days_text",
  fun K => Hd.gloB K "_times_text",
  fun K => Hd.fnB K (Hd.ga K "_times_text") "_times_text",
  fun K => Hd.gloB K "_subject_text",
  fun K => Hd.fnB K (Hd.ga K "_subject_text") "_subject_text",
  fun K => Hd.gloB K "naming_text",
  fun K => Hd.fnB K (Hd.ga K "naming_text") "naming_text",
  fun K => Hd.gloB K "leave_text",
  fun K => Hd.fnB K (Hd.ga K "leave_text") "leave_text",
  fun K => Hd.clsB K (Hd.ga K "Naming") ["_person", "_days", "_text", "_name", "_chain"],
  fun K => Hd.gloB K "Naming",
  fun K => Hd.clsB K (Hd.ga K "Leave") ["_person", "_days", "_text", "_subject", "_tags", "_times"],
  fun K => Hd.gloB K "Leave"]
def csTG1_ : List (Hd.Fr → Bool) := csTG1_0 ++ csTG1_1
def csTG2_0 : List (Hd.Fr → Bool) := [
  fun K => Hd.insB K (Hd.ga K "Naming"),
  fun K => Hd.insB K (Hd.ga K "Leave"),
  fun K => Hd.kitB K (Hd.ga K "Naming") (Hd.ga K "Leave") false,
  fun K => Hd.kitB K (Hd.ga K "Leave") (Hd.ga K "Naming") false,
  fun K => Hd.fnSB K (Hd.ga K "Naming") (Hd.ma K (Hd.ga K "Naming") "__init__") "Naming.__init__" 1,
  fun K => Hd.fnSB K (Hd.ga K "Leave") (Hd.ma K (Hd.ga K "Leave") "__init__") "Leave.__init__" 2,
  fun K => Hd.gloB K "Statement",
  fun K => Hd.fnB K (Hd.ma K (Hd.ga K "Statement") "__init__") "Statement.__init__",
  fun K => supB K (Hd.ga K "Naming") (Hd.ga K "Naming") (Hd.ma K (Hd.ga K "Statement") "__init__"),
  fun K => supB K (Hd.ga K "Leave") (Hd.ga K "Leave") (Hd.ma K (Hd.ga K "Statement") "__init__"),
  fun K => Hd.gloB K "_law_made",
  fun K => Hd.fnB K (Hd.ga K "_law_made") "_law_made",
  fun K => Hd.propB K (Hd.ga K "Naming") "person",
  fun K => Hd.fnB K (Hd.pg K (Hd.ga K "Naming") "person") "Statement.person",
  fun K => Hd.propB K (Hd.ga K "Naming") "days",
  fun K => Hd.fnB K (Hd.pg K (Hd.ga K "Naming") "days") "Statement.days",
  fun K => Hd.propB K (Hd.ga K "Naming") "text",
  fun K => Hd.fnB K (Hd.pg K (Hd.ga K "Naming") "text") "Statement.text",
  fun K => Hd.propB K (Hd.ga K "Naming") "name",
  fun K => Hd.fnB K (Hd.pg K (Hd.ga K "Naming") "name") "Naming.name",
  fun K => Hd.propB K (Hd.ga K "Naming") "chain",
  fun K => Hd.fnB K (Hd.pg K (Hd.ga K "Naming") "chain") "Naming.chain",
  fun K => Hd.propB K (Hd.ga K "Leave") "person",
  fun K => Hd.fnB K (Hd.pg K (Hd.ga K "Leave") "person") "Statement.person",
  fun K => Hd.propB K (Hd.ga K "Leave") "days",
  fun K => Hd.fnB K (Hd.pg K (Hd.ga K "Leave") "days") "Statement.days",
  fun K => Hd.propB K (Hd.ga K "Leave") "text",
  fun K => Hd.fnB K (Hd.pg K (Hd.ga K "Leave") "text") "Statement.text",
  fun K => Hd.propB K (Hd.ga K "Leave") "subject",
  fun K => Hd.fnB K (Hd.pg K (Hd.ga K "Leave") "subject") "Leave.subject"]
def csTG2_1 : List (Hd.Fr → Bool) := [
  fun K => Hd.propB K (Hd.ga K "Leave") "tags",
  fun K => Hd.fnB K (Hd.pg K (Hd.ga K "Leave") "tags") "Leave.tags",
  fun K => Hd.propB K (Hd.ga K "Leave") "times",
  fun K => Hd.fnB K (Hd.pg K (Hd.ga K "Leave") "times") "Leave.times",
  fun K => Hd.fnB K (Hd.ma K (Hd.ga K "Naming") "__eq__") "Naming.__eq__",
  fun K => Hd.fnB K (Hd.ma K (Hd.ga K "Leave") "__eq__") "Leave.__eq__",
  fun K => eqCB K (Hd.ga K "Naming") (Hd.ma K (Hd.ga K "Naming") "__eq__"),
  fun K => eqCB K (Hd.ga K "Leave") (Hd.ma K (Hd.ga K "Leave") "__eq__"),
  fun K => PySem.W.notFirst K (Hd.ga K "Naming") (.ref (Hd.ga K "Leave")),
  fun K => PySem.W.notFirst K (Hd.ga K "Leave") (.ref (Hd.ga K "Naming")),
  fun K => Hd.kitB K (Hd.ga K "Naming") (Hd.ga K "Statement") true,
  fun K => Hd.kitB K (Hd.ga K "Leave") (Hd.ga K "Statement") true,
  fun K => Hd.intB K "MAX_DIGITS" (31),
  fun K => Hd.clsB K (Hd.ga K "Reader") ["pieces", "place"],
  fun K => Hd.gloB K "Reader",
  fun K => Hd.methB K (Hd.ga K "Reader") "is_next",
  fun K => Hd.fnB K (Hd.ma K (Hd.ga K "Reader") "is_next") "Reader.is_next",
  fun K => decide (PySem.W.specialIn K (.ref (Hd.ma K (Hd.ga K "Reader") "is_next")) "__get__" = some (some (.builtin "function.__get__"))),
  fun K => decide (PySem.W.takesIn K (.ref (Hd.ma K (Hd.ga K "Reader") "is_next")) = some false),
  fun K => PySem.W.fnIn K (Hd.ma K (Hd.ga K "Reader") "is_next"),
  fun K => Hd.methB K (Hd.ga K "Reader") "is_word_next"]
def csTG2_ : List (Hd.Fr → Bool) := csTG2_0 ++ csTG2_1
def csTG3_0 : List (Hd.Fr → Bool) := [
  fun K => Hd.fnB K (Hd.ma K (Hd.ga K "Reader") "is_word_next") "Reader.is_word_next",
  fun K => Hd.methB K (Hd.ga K "Reader") "is_at_end",
  fun K => Hd.fnB K (Hd.ma K (Hd.ga K "Reader") "is_at_end") "Reader.is_at_end",
  fun K => Hd.methB K (Hd.ga K "Reader") "_taken",
  fun K => Hd.fnB K (Hd.ma K (Hd.ga K "Reader") "_taken") "Reader._taken",
  fun K => Hd.fnB K (Hd.ma K (Hd.ga K "Reader") "__init__") "Reader.__init__",
  fun K => Hd.methB K (Hd.ga K "Reader") "take_sign",
  fun K => Hd.fnB K (Hd.ma K (Hd.ga K "Reader") "take_sign") "Reader.take_sign",
  fun K => Hd.methB K (Hd.ga K "Reader") "take_word",
  fun K => Hd.fnB K (Hd.ma K (Hd.ga K "Reader") "take_word") "Reader.take_word",
  fun K => Hd.gloB K "is_number",
  fun K => Hd.fnB K (Hd.ga K "is_number") "is_number",
  fun K => Hd.methB K (Hd.ga K "Reader") "take_number",
  fun K => Hd.fnB K (Hd.ma K (Hd.ga K "Reader") "take_number") "Reader.take_number",
  fun K => Hd.methB K (Hd.ga K "Reader") "take_chain",
  fun K => Hd.fnB K (Hd.ma K (Hd.ga K "Reader") "take_chain") "Reader.take_chain",
  fun K => Hd.gloB K "InvalidText",
  fun K => Hd.fnB K (Hd.ma K (Hd.ga K "InvalidText") "__init__") "InvalidText.__init__",
  fun K => exkB K (Hd.ga K "InvalidText") (Hd.ma K (Hd.ga K "InvalidText") "__init__") [.type "ValueError", .type "Exception", .type "BaseException", .type "object"] "ValueError.__new__",
  fun K => decide (PySem.W.takerIn K (Hd.ga K "InvalidText") "index" = some none),
  fun K => decide (PySem.W.findIn K (.ref (Hd.ga K "InvalidText")) "index" = some none),
  fun K => Hd.methB K (Hd.ga K "Reader") "finish",
  fun K => Hd.fnB K (Hd.ma K (Hd.ga K "Reader") "finish") "Reader.finish",
  fun K => Hd.gloB K "_days",
  fun K => Hd.fnB K (Hd.ga K "_days") "_days",
  fun K => Hd.gloB K "_unlike_chain",
  fun K => Hd.fnB K (Hd.ga K "_unlike_chain") "_unlike_chain",
  fun K => Hd.gloB K "_share",
  fun K => Hd.fnB K (Hd.ga K "_share") "_share",
  fun K => Hd.gloB K "_leave_behind"]
def csTG3_1 : List (Hd.Fr → Bool) := [
  fun K => Hd.fnB K (Hd.ga K "_leave_behind") "_leave_behind",
  fun K => Hd.gloB K "read_statement",
  fun K => Hd.fnB K (Hd.ga K "read_statement") "read_statement",
  fun K => Hd.gloB K "_law_text",
  fun K => Hd.fnB K (Hd.ga K "_law_text") "_law_text",
  fun K => Hd.gloB K "_law_statement_pool",
  fun K => Hd.fnB K (Hd.ga K "_law_statement_pool") "_law_statement_pool",
  fun K => Hd.gloB K "_law_facts",
  fun K => Hd.fnB K (Hd.ga K "_law_facts") "_law_facts",
  fun K => Hd.gloB K "_law_due_facts",
  fun K => Hd.fnB K (Hd.ga K "_law_due_facts") "_law_due_facts",
  fun K => Hd.gloB K "_law_days_right",
  fun K => Hd.fnB K (Hd.ga K "_law_days_right") "_law_days_right",
  fun K => xfB K (Hd.ga K "InvalidText"),
  fun K => Hd.insB K (Hd.ga K "InvalidText"),
  fun K => decide (PySem.W.kitOne K (.ref (Hd.ga K "InvalidText")) (.type "ValueError") = some true),
  fun K => decide (PySem.W.exmOne K (.ref (Hd.ga K "InvalidText")) (.ref (Hd.ga K "InvalidText")) = some true),
  fun K => Hd.gloB K "law",
  fun K => Hd.fnB K (Hd.ga K "law") "law",
  fun K => sysB K]
def csTG3_ : List (Hd.Fr → Bool) := csTG3_0 ++ csTG3_1
def csT : List (Hd.Fr → Bool) := csTG0_ ++ csTG1_ ++ csTG2_ ++ csTG3_
def nmT0 : List PySem.Str := [
  "_wall",
  "LIMIT",
  "MAX_LETTERS",
  "MAX_NAMES",
  "MAX_CHAINS",
  "MAX_TIMES",
  "is_integer_in",
  "is_word",
  "is_chain",
  "is_stretch",
  "is_subject",
  "is_times",
  "_is_share",
  "_are_unlike_chains",
  "InvalidWord",
  "InvalidChain",
  "InvalidStretch",
  "InvalidSubject",
  "InvalidTimes",
  "InvalidText",
  "is_share",
  "naming_text",
  "leave_text",
  "_chain_text",
  "_subject_text",
  "_days_text",
  "_times_text",
  "Statement",
  "Naming",
  "Leave"]
def nmT1 : List PySem.Str := [
  "_check_word",
  "_check_stretch",
  "_checked_days",
  "MAX_DIGITS",
  "Reader",
  "is_number",
  "read_statement",
  "_leave_behind",
  "_share",
  "_unlike_chain",
  "_days",
  "_law_pen",
  "_law_draw",
  "_law_pick",
  "_law_great",
  "_law_words",
  "_law_spot",
  "_law_span",
  "_law_days",
  "_law_chain",
  "_law_naming",
  "_law_subject",
  "_law_leave",
  "_law_made",
  "_law_text",
  "_law_statement_pool",
  "_law_facts",
  "_law_due_facts",
  "_law_days_right"]
def nmT : List PySem.Str := nmT0 ++ nmT1
end LW

namespace LW
open PySem PySem.W PySem.Calls PyProof.Rows
abbrev RwT : OpenRow := OpenLaw.row PySem.Challenge.rw_namechains_k79_statements_written_and_re
theorem runT0 (w : World) : HandSHeadRun.RunEq RwT (view RwT.prog [67]) (Hd.hook 1000 csTG0_ dsTG0_) (Hd.ob 1000 csTG0_ dsTG0_) 9000 nmT w := by
  intro os
  kernel_rfl
theorem runT1 (w : World) : HandSHeadRun.RunEq RwT (view RwT.prog [67]) (Hd.hook 1000 csTG1_ dsTG1_) (Hd.ob 1000 csTG1_ dsTG1_) 9000 nmT w := by
  intro os
  kernel_rfl
theorem runT2 (w : World) : HandSHeadRun.RunEq RwT (view RwT.prog [67]) (Hd.hook 1000 csTG2_ dsTG2_) (Hd.ob 1000 csTG2_ dsTG2_) 9000 nmT w := by
  intro os
  kernel_rfl
theorem runT3 (w : World) : HandSHeadRun.RunEq RwT (view RwT.prog [67]) (Hd.hook 1000 csTG3_ dsTG3_) (Hd.ob 1000 csTG3_ dsTG3_) 9000 nmT w := by
  intro os
  kernel_rfl
theorem runT (w : World) : HandSHeadRun.RunEq RwT (view RwT.prog [67]) (Hd.hook 1000 csT dsT) (Hd.ob 1000 csT dsT) 9000 nmT w :=
  Hd.run_join (Hd.run_join (Hd.run_join (runT0 w) (runT1 w)) (runT2 w)) (runT3 w)
end LW

/-! Readings that make data: what they leave is the datum told, and all that was tracked stays. -/
namespace G
open PySem PySem.Spec L2
open PySem.W (Frag)
def Dt (K : Frag) (te : TE) (d : PyData) : Prop := ∀ (σ : L2.St) (H : Hp) (Q : VK), (∀ v H', Same H H' → Da K H' v d → Q v H') → te σ H Q
def DtAll (K : Frag) (ta : TA) (ds : List PyData) : Prop := ∀ (σ : L2.St) (H : Hp) (Q : List V → Hp → Prop), (∀ xs H', Same H H' → DaAll K H' xs ds → Q xs H') → ta σ H Q
theorem same_new {H : Hp} {p : Addr} {o : HO} (h : H p = none) : Same H (upd H p o) := fun b u e => by
  rw [upd_ne (ne_of_none e h)]
  exact e
theorem DaAll.length {K : Frag} {H : Hp} : ∀ {xs : List V} {ds : List PyData}, DaAll K H xs ds → xs.length = ds.length
  | _, _, .nil => rfl
  | _, _, .cons _ t => congrArg Nat.succ (DaAll.length t)
theorem DaAll.append {K : Frag} {H : Hp} : ∀ {xs ys : List V} {ds es : List PyData}, DaAll K H xs ds → DaAll K H ys es → DaAll K H (xs ++ ys) (ds ++ es)
  | _, _, _, _, .nil, h => h
  | _, _, _, _, .cons a t, h => .cons a (DaAll.append t h)
theorem DaAll.mem {K : Frag} {H : Hp} : ∀ {xs : List V} {ds : List PyData} {x : V}, DaAll K H xs ds → x ∈ xs → ∃ d ∈ ds, Da K H x d
  | _, _, _, .nil, h => (List.not_mem_nil h).elim
  | _, _, _, .cons a t, h => by
    rcases List.mem_cons.mp h with rfl | h
    · exact ⟨_, List.mem_cons_self, a⟩
    · obtain ⟨d, h1, h2⟩ := DaAll.mem t h
      exact ⟨d, List.mem_cons_of_mem _ h1, h2⟩
section
variable {K : Frag} {te : TE} {ta : TA} {d : PyData} {ds : List PyData}
theorem dt_non : Dt K (tC .non) .none := fun σ H Q h => h _ H (Same.refl H) .non
theorem dt_bl {b : Bool} : Dt K (tC (.bl b)) (.bool b) := fun σ H Q h => h _ H (Same.refl H) (.bl b)
theorem dt_int {i : Int} : Dt K (tC (.int i)) (.int i) := fun σ H Q h => h _ H (Same.refl H) (.int i)
theorem dt_str {x : Str} : Dt K (tC (.str x)) (.str x) := fun σ H Q h => h _ H (Same.refl H) (.str x)
theorem dta_nil : DtAll K tNil [] := fun σ H Q h => h [] H (Same.refl H) .nil
theorem dta_cons (a : Dt K te d) (b : DtAll K ta ds) : DtAll K (tCons te ta) (d :: ds) := fun σ H Q h => by
  refine a σ H _ fun v H1 s1 h1 => ?_
  refine b σ H1 _ fun xs H2 s2 h2 => ?_
  exact h _ H2 (s1.trans s2) (.cons (h1.same s2) h2)
theorem dt_tup (a : DtAll K ta ds) (few : ds.length ≤ 1000 := by simp) : Dt K (tTup ta) (.tuple ds) := fun σ H Q h => by
  refine a σ H _ fun xs H1 s1 h1 => ⟨?_, fun p hp => ?_⟩
  · rw [h1.length, sizeLine_eq]
    omega
  · exact h _ _ (s1.trans (same_new hp)) (.tup (Or.inl (Or.inl upd_same)) (h1.same (same_new hp)))
theorem dt_lst (a : DtAll K ta ds) (few : ds.length ≤ 1000 := by simp) : Dt K (tLstS ta) (.list ds) := fun σ H Q h => by
  refine a σ H _ fun xs H1 s1 h1 => ⟨?_, fun p hp np => ?_⟩
  · rw [h1.length, sizeLine_eq]
    omega
  · exact h _ _ (s1.trans (same_new hp)) (.lst np (Or.inl (Or.inl upd_same)) (h1.same (same_new hp)))
end
end G

/-! Data stay when one dict of three entries is written. -/
namespace G
open PySem PySem.Spec L2
open PySem.W (Frag)
mutual
def nd3 : PyData → Bool
  | .none | .bool _ | .int _ | .str _ => true
  | .list xs | .tuple xs => nd3All xs
  | .dict kvs => !decide (kvs.length = 3) && nd3Kv kvs
def nd3All : List PyData → Bool
  | [] => true
  | x :: xs => nd3 x && nd3All xs
def nd3Kv : List (PyData × PyData) → Bool
  | [] => true
  | (k, v) :: r => nd3 k && nd3 v && nd3Kv r
end
theorem nd3Kv_split : ∀ {kvs : List (PyData × PyData)}, nd3Kv kvs = true → nd3All (kvs.map (·.1)) = true ∧ nd3All (kvs.map (·.2)) = true
  | [], _ => by simp [nd3All]
  | (k, v) :: r, h => by
    have h2 : (nd3 k = true ∧ nd3 v = true) ∧ nd3Kv r = true := by simpa [nd3Kv] using h
    obtain ⟨a, b⟩ := nd3Kv_split h2.2
    simp [nd3All, h2.1.1, h2.1.2, a, b]
section
variable {K : Frag} {H H' : Hp} {p : Addr} {kvp : List (Key × V)}
mutual
theorem Da.but (hp : H p = some (.dK kvp)) (n3 : kvp.length = 3) (e : ∀ b o, H b = some o → b ≠ p → H' b = some o) : ∀ {v : V} {d : PyData}, Da K H v d → nd3 d = true → Da K H' v d
  | _, _, .non, _ => .non
  | _, _, .bl b, _ => .bl b
  | _, _, .int i, _ => .int i
  | _, _, .str x, _ => .str x
  | _, _, .lst n s a, h => .lst n (by
      rcases s with (s | ⟨o, s⟩) | s
      · exact .inl (.inl (e _ _ s (ne_of s hp (by intro z; cases z))))
      · exact .inl (.inr ⟨o, e _ _ s (ne_of s hp (by intro z; cases z))⟩)
      · exact .inr s) (DaAll.but hp n3 e a (by simpa [nd3] using h))
  | _, _, .tup s a, h => .tup (by
      rcases s with (s | ⟨o, s⟩) | s
      · exact .inl (.inl (e _ _ s (ne_of s hp (by intro z; cases z))))
      · exact .inl (.inr ⟨o, e _ _ s (ne_of s hp (by intro z; cases z))⟩)
      · exact .inr s) (DaAll.but hp n3 e a (by simpa [nd3] using h))
  | _, _, .dct (kvs := kvs) (ds := ds) s a b, h => by
    have h2 : ¬ ds.length = 3 ∧ nd3Kv ds = true := by simpa [nd3] using h
    obtain ⟨h3, h4⟩ := nd3Kv_split h2.2
    refine .dct (e _ _ s fun z => h2.1 ?_) (DaAll.but hp n3 e a h3) (DaAll.but hp n3 e b h4)
    have l := b.length
    rw [z, hp] at s
    cases s
    rw [List.length_map, List.length_map] at l
    omega
theorem DaAll.but (hp : H p = some (.dK kvp)) (n3 : kvp.length = 3) (e : ∀ b o, H b = some o → b ≠ p → H' b = some o) : ∀ {vs : List V} {ds : List PyData}, DaAll K H vs ds → nd3All ds = true → DaAll K H' vs ds
  | _, _, .nil, _ => .nil
  | _, _, .cons (d := d) (ds := ds) h t, z => by
    have z2 : nd3 d = true ∧ nd3All ds = true := by simpa [nd3All] using z
    exact .cons (Da.but hp n3 e h z2.1) (DaAll.but hp n3 e t z2.2)
end
end
end G

/-! What the laws draw: a sign of a text, a great number, a day, a stretch, a chain. -/
namespace LW
open PySem L2 G
abbrev sGreat : Stmt := top 52
abbrev sSpot : Stmt := top 54
abbrev sSpan : Stmt := top 55
abbrev sChain : Stmt := top 57
/-- all but the pen stays as it was -/
def Old (p : Addr) (H H' : Hp) : Prop := ∀ b o, H b = some o → b ≠ p → H' b = some o
theorem Old.refl {p : Addr} {H : Hp} : Old p H H := fun _ _ e _ => e
theorem Old.trans {p : Addr} {H H1 H2 : Hp} (a : Old p H H1) (b : Old p H1 H2) : Old p H H2 := fun q o e n => b q o (a q o e n) n
theorem Same.old {p : Addr} {H H' : Hp} (s : Same H H') : Old p H H' := fun q o e _ => s q o e
def spPickS : Sp := fun vs H Q _ => ∃ (p c : Addr) (cells : List Int) (t l : Int) (z : Str), vs = [.ref p, .str z] ∧ PenAt H p c cells t l ∧ t ≤ 1000000 ∧ 1 ≤ z.length ∧ z.length ≤ 1000000 ∧
  ∀ (x : Nat) (t' l' : Int) (H' : Hp), x ∈ z.cps.toList → t' ≤ t + 1 → PenAt H' p c cells t' l' → Old p H H' → Q (.str ⟨#[x]⟩) H'
def spGreat : Sp := fun vs H Q _ => ∃ (p c : Addr) (cells : List Int) (t l d : Int), vs = [.ref p, .int d] ∧ PenAt H p c cells t l ∧ 0 ≤ d ∧ t + d ≤ 1000000 ∧
  ∀ (r t' l' : Int) (H' : Hp), 0 ≤ r → r < 10 ^ d.toNat → t' ≤ t + d → PenAt H' p c cells t' l' → Old p H H' → Q (.int r) H'
def spSpot : Sp := fun vs H Q _ => ∃ (p c : Addr) (cells : List Int) (t l : Int), vs = [.ref p] ∧ PenAt H p c cells t l ∧ t ≤ 900000 ∧
  ∀ (r t' l' : Int) (H' : Hp), 0 ≤ r → r ≤ 10 ^ 30 → t' ≤ t + 32 → PenAt H' p c cells t' l' → Old p H H' → Q (.int r) H'
def spSpan : Sp := fun vs H Q _ => ∃ (p c : Addr) (cells : List Int) (t l : Int), vs = [.ref p] ∧ PenAt H p c cells t l ∧ t ≤ 800000 ∧
  ∀ (q : Addr) (a b t' l' : Int) (H' : Hp), 0 ≤ a → a ≤ b → b ≤ 10 ^ 30 → H' q = some (.tup [.int a, .int b]) → q ≠ p → t' ≤ t + 64 → PenAt H' p c cells t' l' → Old p H H' → Q (.ref q) H'
section
variable {P : Program} {w : World} {K : PySem.W.Frag} {mg : Str → Option Value} {base : Heap}
variable {fD fK fG fS : Addr} {fdD fdK fdG fdS : FuncData}
theorem ok_pickS {f : Addr} {fd : FuncData} (F : Fun K "_law_pick" "_law_pick" sPick f fd) (T : Bt mg) (GD : FnOk P w K mg base CX0 1 fD fdD ["_law_pen_here", "_law_many"] spDraw) (mD : mg "_law_draw" = some (.ref fD)) (kD : PySem.W.keepIn K (.ref fD) = true) (bD : Binds K fdD ["_law_pen_here", "_law_many"] []) :
    FnOk P w K mg base CX0 2 f fd ["_law_pen_here", "_law_options"] spPickS := by
  refine F.ok scPick (fun vs H Q E h => ?_) (fun cdv A outer s H vs Q E hr h => ?_)
  · obtain ⟨p, c, cells, t, l, z, rfl, _⟩ := h
    rfl
  · obtain ⟨p, c, cells, t, l, z, rfl, N, ht, n1, n2, k⟩ := h
    have hz : z.length ≤ sizeLine := by rw [sizeLine_eq]; omega
    refine ⟨_, pss_one (ps_ret (pe_ix ix_str (pv 1) (pe_call GD hr (by rfl) mD kD bD .nil pass0 (pa_cons (pv 0) (pa_cons (pe_callB call_len (by rfl) T.len PySem.boot_len (pa_cons (pv 1) pa_nil)) pa_nil))) (fun _ _ => rfl))), ?_⟩
    refine ⟨_, rfl, _, rfl, _, rfl, .str z, z.length, rfl, ⟨hz, rfl⟩, ?_⟩
    refine ⟨p, c, cells, t, l, z.length, rfl, N, ht, by omega, by omega, fun r t' l' H' r0 r1 ht' N' old => ?_⟩
    have el : z.cps.toList.length = z.length := by simp [Str.length]
    have hl : r.toNat < z.cps.toList.length := by omega
    have ha : atI z.cps.toList ((r.toNat : Nat) : Int) = some z.cps.toList[r.toNat] := atI_nat (List.getElem?_eq_getElem hl)
    rw [show ((r.toNat : Nat) : Int) = r by omega] at ha
    refine ⟨z, r, _, rfl, rfl, hz, ha, ?_⟩
    exact k _ t' l' H' (List.getElem_mem hl) ht' N' old
theorem scGreat : FnScope ["_law_pen_here", "_law_digits", "_law_found", "_law_k"] ["_law_pen_here", "_law_digits"] (defScope sGreat) := ⟨rfl, rfl, rfl, by decide +kernel, rfl, by decide +kernel, by decide +kernel⟩
theorem ok_great {f : Addr} {fd : FuncData} (F : Fun K "_law_great" "_law_great" sGreat f fd) (R : mg "range" = none) (GD : FnOk P w K mg base CX0 1 fD fdD ["_law_pen_here", "_law_many"] spDraw) (mD : mg "_law_draw" = some (.ref fD)) (kD : PySem.W.keepIn K (.ref fD) = true) (bD : Binds K fdD ["_law_pen_here", "_law_many"] []) :
    FnOk P w K mg base CX0 2 f fd ["_law_pen_here", "_law_digits"] spGreat := by
  refine F.ok scGreat (fun vs H Q E h => ?_) (fun cdv A outer s H vs Q E hr h => ?_)
  · obtain ⟨p, c, cells, t, l, d, rfl, _⟩ := h
    rfl
  · obtain ⟨p, c, cells, t, l, d, rfl, N, d0, hd, k⟩ := h
    refine ⟨_, pss_cons (ps_set (i := 2) scGreat.nd rfl (Or.inl rfl) pe_int)
      (pss_cons (ps_for PassesOwn.never rfl (pi_range1 rfl R (pa_cons (pv 1) pa_nil)) (pg_name (i := 3) scGreat.nd rfl (Or.inl rfl))
        (pss_one (ps_set (i := 2) scGreat.nd rfl (Or.inl rfl) (pe_op op_add (pe_op op_mul pe_int (pv 2)) (pe_call GD hr (by rfl) mD kD bD .nil pass0 (pa_cons (pv 0) (pa_cons pe_int pa_nil)))))))
      (pss_one (ps_ret (pv 2)))), ?_⟩
    have t0 := N.t0
    refine ⟨_, rfl, d, rfl, by omega, by omega, ?_⟩
    refine for_range (n := d.toNat) (fun i σ G => ∃ (g : Int) (v3 : Option V), σ = [some (.ref p), some (.int d), some (.int g), v3] ∧ ∃ t1 l1 : Int, PenAt G p c cells t1 l1 ∧ t1 ≤ t + i ∧ 0 ≤ g ∧ g < 10 ^ i ∧ Old p H G)
      ⟨0, _, rfl, t, l, N, by omega, by omega, by decide, Old.refl⟩ (fun i σ G hi h => ?_) (fun σ G h => ?_)
    · obtain ⟨g, v3, rfl, t1, l1, N1, ht1, g0, g1, old⟩ := h
      refine ⟨_, rfl, _, _, rfl, rfl, .inl ⟨by decide, by decide⟩, _, rfl, ?_⟩
      refine ⟨p, c, cells, t1, l1, 10, rfl, N1, by omega, by omega, by omega, fun r t2 l2 G2 r0 r1 ht2 N2 old2 => ?_⟩
      refine ⟨_, _, rfl, rfl, ?_⟩
      have e := Int.pow_succ (10 : Int) i
      exact ⟨10 * g + r, _, rfl, t2, l2, N2, by omega, by omega, by omega, Old.trans old old2⟩
    · obtain ⟨g, v3, rfl, t1, l1, N1, ht1, g0, g1, old⟩ := h
      exact ⟨_, rfl, k g t1 l1 G g0 g1 (by omega) N1 old⟩
theorem scSpot : FnScope ["_law_pen_here", "_law_small"] ["_law_pen_here"] (defScope sSpot) := ⟨rfl, rfl, rfl, by decide +kernel, rfl, by decide +kernel, by decide +kernel⟩
theorem ok_spot {f : Addr} {fd : FuncData} (F : Fun K "_law_spot" "_law_spot" sSpot f fd) (GD : FnOk P w K mg base CX0 1 fD fdD ["_law_pen_here", "_law_many"] spDraw) (mD : mg "_law_draw" = some (.ref fD)) (kD : PySem.W.keepIn K (.ref fD) = true) (bD : Binds K fdD ["_law_pen_here", "_law_many"] [])
    (GK : FnOk P w K mg base CX0 2 fK fdK ["_law_pen_here", "_law_options"] (spPick K)) (mK : mg "_law_pick" = some (.ref fK)) (kK : PySem.W.keepIn K (.ref fK) = true) (bK : Binds K fdK ["_law_pen_here", "_law_options"] [])
    (GG : FnOk P w K mg base CX0 2 fG fdG ["_law_pen_here", "_law_digits"] spGreat) (mG : mg "_law_great" = some (.ref fG)) (kG : PySem.W.keepIn K (.ref fG) = true) (bG : Binds K fdG ["_law_pen_here", "_law_digits"] []) :
    FnOk P w K mg base CX0 3 f fd ["_law_pen_here"] spSpot := by
  refine F.ok scSpot (fun vs H Q E h => ?_) (fun cdv A outer s H vs Q E hr h => ?_)
  · obtain ⟨p, c, cells, t, l, rfl, _⟩ := h
    rfl
  · obtain ⟨p, c, cells, t, l, rfl, N, ht, k⟩ := h
    refine ⟨_, pss_cons (ps_set (i := 1) scSpot.nd rfl (Or.inl rfl) (pe_call GD (hr.mono (by decide)) (by rfl) mD kD bD .nil pass0 (pa_cons (pv 0) (pa_cons pe_int pa_nil))))
      (pss_one (ps_ret (pe_call GK hr (by rfl) mK kK bK .nil pass0 (pa_cons (pv 0) (pa_cons (pe_lst (pa_cons (pv 1) (pa_cons (pv 1) (pa_cons (pv 1) (pa_cons (pv 1) (pa_cons pe_int (pa_cons (pe_op op_pow pe_int pe_int) (pa_cons (pe_op op_sub (pe_op op_pow pe_int pe_int) pe_int)
        (pa_cons (pe_call GG hr (by rfl) mG kG bG .nil pass0 (pa_cons (pv 0) (pa_cons pe_int pa_nil))) pa_nil))))))))) pa_nil))))), ?_⟩
    have pw : (0 : Int) ≤ 30 ∧ (30 : Int) ≤ 1000000 ∧ (10 : Int).natAbs < 2 ^ 64 := ⟨by decide, by decide, by decide⟩
    refine ⟨_, rfl, p, c, cells, t, l, 12, rfl, N, by omega, by omega, by omega, fun r t1 l1 H1 r0 r1 ht1 N1 old1 => ?_⟩
    refine ⟨_, rfl, _, rfl, _, rfl, _, rfl, _, rfl, _, _, rfl, rfl, pw, _, _, rfl, rfl, pw, _, _, rfl, rfl, _, rfl, ?_⟩
    refine ⟨p, c, cells, t1, l1, 30, rfl, N1, by omega, by omega, fun g t2 l2 H2 g0 g1 ht2 N2 old2 => ?_⟩
    refine ⟨(by show 8 ≤ sizeLine; decide), fun q hq => ?_⟩
    have s3 := same_new (o := .lst [V.int r, .int r, .int r, .int r, .int 0, .int (10 ^ 30), .int (10 ^ 30 - 1), .int g]) hq
    refine ⟨p, c, q, cells, t2, l2, _, rfl, N2.same s3, by omega, upd_same, by simp, by simp, fun x t' l' H' hx ht' N' old => ?_⟩
    have hb : ∃ y : Int, x = .int y ∧ 0 ≤ y ∧ y ≤ 10 ^ 30 := by
      have e30 : (10 : Int) ^ (30 : Int).toNat = 10 ^ 30 := rfl
      rw [e30] at g1
      have big : (12 : Int) ≤ 10 ^ 30 := by decide +kernel
      have bg1 : (0 : Int) ≤ 10 ^ 30 - 1 := by decide +kernel
      simp only [List.mem_cons, List.not_mem_nil, or_false] at hx
      rcases hx with rfl | rfl | rfl | rfl | rfl | rfl | rfl | rfl
      · exact ⟨r, rfl, r0, by omega⟩
      · exact ⟨r, rfl, r0, by omega⟩
      · exact ⟨r, rfl, r0, by omega⟩
      · exact ⟨r, rfl, r0, by omega⟩
      · exact ⟨0, rfl, by omega, by omega⟩
      · exact ⟨_, rfl, by omega, by omega⟩
      · exact ⟨_, rfl, by omega, by omega⟩
      · exact ⟨g, rfl, g0, by omega⟩
    obtain ⟨y, rfl, y0, y1⟩ := hb
    exact k y t' l' H' y0 y1 (by omega) N' (Old.trans old1 (Old.trans old2 (Old.trans (Same.old s3) old)))
theorem scSpan : FnScope ["_law_pen_here", "_law_first", "_law_last"] ["_law_pen_here"] (defScope sSpan) := ⟨rfl, rfl, rfl, by decide +kernel, rfl, by decide +kernel, by decide +kernel⟩
theorem ok_span {f : Addr} {fd : FuncData} (F : Fun K "_law_span" "_law_span" sSpan f fd) (Mi : mg "min" = none) (Ma : mg "max" = none)
    (GS : FnOk P w K mg base CX0 3 fS fdS ["_law_pen_here"] spSpot) (mS : mg "_law_spot" = some (.ref fS)) (kS : PySem.W.keepIn K (.ref fS) = true) (bS : Binds K fdS ["_law_pen_here"] []) :
    FnOk P w K mg base CX0 4 f fd ["_law_pen_here"] spSpan := by
  refine F.ok scSpan (fun vs H Q E h => ?_) (fun cdv A outer s H vs Q E hr h => ?_)
  · obtain ⟨p, c, cells, t, l, rfl, _⟩ := h
    rfl
  · obtain ⟨p, c, cells, t, l, rfl, N, ht, k⟩ := h
    refine ⟨_, pss_cons (ps_par (i := 1) (j := 2) (by rfl) scSpan.nd rfl rfl (by decide) rfl rfl (pa_cons (pe_call GS hr (by rfl) mS kS bS .nil pass0 (pa_cons (pv 0) pa_nil)) (pa_cons (pe_call GS hr (by rfl) mS kS bS .nil pass0 (pa_cons (pv 0) pa_nil)) pa_nil)) (by rfl))
      (pss_one (ps_ret (pe_tup (pa_cons (pe_callB (call_min2 rfl) (by rfl) Mi (by decide +kernel) (pa_cons (pv 1) (pa_cons (pv 2) pa_nil))) (pa_cons (pe_callB (call_max2 rfl) (by rfl) Ma (by decide +kernel) (pa_cons (pv 1) (pa_cons (pv 2) pa_nil))) pa_nil))))), ?_⟩
    refine ⟨_, rfl, p, c, cells, t, l, rfl, N, by omega, fun x t1 l1 H1 x0 x1 ht1 N1 old1 => ?_⟩
    refine ⟨_, rfl, p, c, cells, t1, l1, rfl, N1, by omega, fun y t2 l2 H2 y0 y1 ht2 N2 old2 => ?_⟩
    refine ⟨_, _, rfl, ?_⟩
    refine ⟨_, rfl, _, rfl, _, _, rfl, _, rfl, _, rfl, _, _, rfl, (by show 2 ≤ sizeLine; decide), fun q hq => ?_⟩
    have s3 := same_new (o := .tup [V.int (if y < x then y else x), .int (if y > x then y else x)]) hq
    refine k q _ _ t2 l2 _ ?_ ?_ ?_ upd_same (fun z => ?_) (by omega) (N2.same s3) (Old.trans old1 (Old.trans old2 (Same.old s3)))
    · split <;> omega
    · split <;> split <;> omega
    · split <;> omega
    · rw [z, N2.pen] at hq
      cases hq
end
end LW

/-! A drawn chain: a tuple of a person and of at most so many names. -/
namespace LW
open PySem L2 G
def spChain : Sp := fun vs H Q _ => ∃ (p c o1 o2 : Addr) (cells : List Int) (t l top : Int) (people words : List Str), vs = [.ref p, .ref o1, .ref o2, .int top] ∧ PenAt H p c cells t l ∧ t ≤ 800000 ∧ 0 ≤ top ∧ top ≤ 1000 ∧
  H o1 = some (.lst (people.map V.str)) ∧ H o2 = some (.lst (words.map V.str)) ∧ 1 ≤ people.length ∧ people.length ≤ 1000 ∧ 1 ≤ words.length ∧ words.length ≤ 1000 ∧
  ∀ (q : Addr) (x : Str) (ws : List Str) (t' l' : Int) (H' : Hp), x ∈ people → (∀ y ∈ ws, y ∈ words) → (ws.length : Int) ≤ top → H' q = some (.tup ((x :: ws).map V.str)) → H q = none → t' ≤ t + 2 + top → PenAt H' p c cells t' l' → Old p H H' → Q (.ref q) H'
section
variable {P : Program} {w : World} {K : PySem.W.Frag} {mg : Str → Option Value} {base : Heap}
variable {fD fK : Addr} {fdD fdK : FuncData}
theorem scChain : FnScope ["_law_pen_here", "_law_people", "_law_words_here", "_law_top", "_law_many", "_law_k"] ["_law_pen_here", "_law_people", "_law_words_here", "_law_top"] (defScope sChain) := ⟨rfl, rfl, rfl, by decide +kernel, rfl, by decide +kernel, by decide +kernel⟩
theorem Old.free {p q : Addr} {H H' : Hp} (a : Old p H H') (hp : H' p ≠ none) (h : H' q = none) : H q = none := by
  by_cases e : q = p
  · rw [e] at h
    exact absurd h hp
  · cases z : H q with
    | none => rfl
    | some o => rw [a q o z e] at h; cases h
theorem PenAt.some {H : Hp} {p c : Addr} {cells : List Int} {t l : Int} (N : PenAt H p c cells t l) : H p ≠ none := by rw [N.pen]; intro z; cases z
theorem PenAt.ne {H : Hp} {p c q : Addr} {cells : List Int} {t l : Int} (N : PenAt H p c cells t l) (h : H q = none) : q ≠ p := fun z => by
  rw [z, N.pen] at h
  cases h
theorem mem_map_str {l : List Str} {v : V} (h : v ∈ l.map V.str) : ∃ z, v = .str z ∧ z ∈ l := by
  obtain ⟨z, hz, e⟩ := List.mem_map.mp h
  exact ⟨z, e.symm, hz⟩
theorem ok_chain {f : Addr} {fd : FuncData} (F : Fun K "_law_chain" "_law_chain" sChain f fd) (R : mg "range" = none) (Tu : mg "tuple" = none)
    (GD : FnOk P w K mg base CX0 1 fD fdD ["_law_pen_here", "_law_many"] spDraw) (mD : mg "_law_draw" = some (.ref fD)) (kD : PySem.W.keepIn K (.ref fD) = true) (bD : Binds K fdD ["_law_pen_here", "_law_many"] [])
    (GK : FnOk P w K mg base CX0 2 fK fdK ["_law_pen_here", "_law_options"] (spPick K)) (mK : mg "_law_pick" = some (.ref fK)) (kK : PySem.W.keepIn K (.ref fK) = true) (bK : Binds K fdK ["_law_pen_here", "_law_options"] []) :
    FnOk P w K mg base CX0 3 f fd ["_law_pen_here", "_law_people", "_law_words_here", "_law_top"] spChain := by
  refine F.ok scChain (fun vs H Q E h => ?_) (fun cdv A outer s H vs Q E hr h => ?_)
  · obtain ⟨p, c, o1, o2, cells, t, l, top, people, words, rfl, _⟩ := h
    rfl
  · obtain ⟨p, c, o1, o2, cells, t, l, top, people, words, rfl, N, ht, tp0, tp1, ho1, ho2, pl1, pl2, wl1, wl2, k⟩ := h
    refine ⟨_, pss_cons (ps_set (i := 4) scChain.nd rfl (Or.inl rfl) (pe_call GD (hr.mono (by decide)) (by rfl) mD kD bD .nil pass0 (pa_cons (pv 0) (pa_cons (pe_op op_add (pv 3) pe_int) pa_nil))))
      (pss_one (ps_ret (pe_op op_catT (pe_tup (pa_cons (pe_call GK hr (by rfl) mK kK bK .nil pass0 (pa_cons (pv 0) (pa_cons (pv 1) pa_nil))) pa_nil))
        (pe_callTy call_tuple_of (by rfl) Tu (by decide +kernel) (pa_cons (pe_lc (own := [("_law_k", 5)]) (g := gName 5) (tt := tYes) rfl scChain.nd (pi_range1 rfl R (pa_cons (pv 4) pa_nil))
          (blkOk_by (own := [("_law_k", 5)]) (N := ["_law_pen_here", "_law_people", "_law_words_here", "_law_top", "_law_many", "_law_k"]) (sc := defScope sChain) (by decide +kernel))
          (fun _ _ _ _ _ => pg_name (i := 5) scChain.nd rfl (Or.inl rfl)) (fun _ _ _ _ _ => pts_nil) (fun _ _ _ _ _ => pe_call GK hr (by rfl) mK kK bK .nil pass0 (pa_cons (pv 0) (pa_cons (pv 2) pa_nil)))) pa_nil))))), ?_⟩
    have n1 : o1 ≠ p := ne_of ho1 N.pen (by intro z; cases z)
    have n2 : o2 ≠ p := ne_of ho2 N.pen (by intro z; cases z)
    have t0 := N.t0
    refine ⟨_, rfl, _, rfl, _, _, rfl, rfl, p, c, cells, t, l, top + 1, rfl, N, by omega, by omega, by omega, fun r t1 l1 H1 r0 r1 ht1 N1 old1 => ?_⟩
    refine ⟨_, rfl, _, rfl, p, c, o1, cells, t1, l1, _, rfl, N1, by omega, old1 _ _ ho1 n1, by simpa using pl1, by rw [List.length_map]; omega, fun x t2 l2 H2 hx ht2 N2 old2 => ?_⟩
    obtain ⟨px, rfl, hpx⟩ := mem_map_str hx
    refine ⟨(by show 1 ≤ sizeLine; decide), fun q1 hq1 => ?_⟩
    have s3 := same_new (o := .tup [V.str px]) hq1
    have N3 := N2.same s3
    have O3 : Old p H _ := Old.trans old1 (Old.trans old2 (Same.old s3))
    have g1 : (upd H2 q1 (.tup [V.str px])) q1 = some (.tup [V.str px]) := upd_same
    have np1 : q1 ≠ p := N2.ne hq1
    revert N3 O3 g1
    generalize (upd H2 q1 (.tup [V.str px])) = H3
    intro N3 O3 g1
    refine ⟨_, rfl, r, rfl, by omega, by omega, fun D hD => ?_⟩
    have s4 := same_new (o := .lst []) hD
    have npD := N3.ne hD
    refine lc_range (n := r.toNat) (fun i G => ∃ ws : List Str, ws.length = i ∧ (∀ y ∈ ws, y ∈ words) ∧ G D = some (.lst (ws.map V.str)) ∧ ∃ t5 l5 : Int, PenAt G p c cells t5 l5 ∧ t5 ≤ t2 + i ∧ Old p H3 G)
      ⟨[], rfl, by simp, upd_same, t2, l2, N3.same s4, by omega, Same.old s4⟩ (fun i G hi h => ?_) (fun G h => ?_)
    · obtain ⟨ws, wl, wm, gD, t5, l5, N5, ht5, O5⟩ := h
      refine ⟨rfl, _, rfl, _, rfl, p, c, o2, cells, t5, l5, _, rfl, N5, by omega, O5 _ _ (O3 _ _ ho2 n2) n2, by simpa using wl1, by rw [List.length_map]; omega, fun x t6 l6 G6 hx ht6 N6 old6 => ?_⟩
      obtain ⟨y, rfl, hy⟩ := mem_map_str hx
      refine ⟨_, old6 _ _ gD npD, by rw [List.length_map, sizeLine_eq]; omega, ?_⟩
      refine ⟨ws ++ [y], by simp [wl], fun z hz => ?_, by rw [upd_same, List.map_append]; rfl, t6, l6, ?_, by omega, ?_⟩
      · rcases List.mem_append.mp hz with hz | hz
        · exact wm z hz
        · rw [List.mem_singleton.mp hz]
          exact hy
      · exact ⟨by rw [upd_ne npD.symm]; exact N6.pen, by rw [upd_ne (ne_of_none N3.lst hD)]; exact N6.lst, N6.few, N6.t0⟩
      · exact fun b o e nb => by rw [upd_ne (ne_of_none e hD)]; exact old6 _ _ (O5 _ _ e nb) nb
    · obtain ⟨ws, wl, wm, gD, t5, l5, N5, ht5, O5⟩ := h
      refine ⟨D, ws.map V.str, rfl, .inl ⟨SqL.of gD, fun q2 hq2 => ?_⟩⟩
      have s6 := same_new (o := .tup (ws.map V.str)) hq2
      have O6 : Old p H _ := Old.trans O3 (Old.trans O5 (Same.old s6))
      have fr : ∀ q, H3 q = none → H q = none := fun q hq => O3.free N3.some hq
      refine ⟨q1, q2, _, _, rfl, rfl, SqT.of (s6 _ _ (O5 _ _ g1 np1)), SqT.of upd_same, by simp, by rw [List.length_map, sizeLine_eq]; simp; omega, fun e => ?_, fun e q3 hq3 => ?_⟩
      · have e0 : ws = [] := List.map_eq_nil_iff.mp e
        refine k q1 px [] t5 l5 _ hpx (by simp) (by simpa using tp0) (s6 _ _ (O5 _ _ g1 np1)) ?_ (by omega) (N5.same s6) O6
        exact Old.free (Old.trans old1 old2) N2.some hq1
      · have s7 := same_new (o := .tup ([V.str px] ++ ws.map V.str)) hq3
        refine k q3 px ws t5 l5 _ hpx wm (by omega) upd_same ?_ (by omega) ((N5.same s6).same s7) (Old.trans O6 (Same.old s7))
        exact Old.free O6 (N5.same s6).some hq3
end
end LW

/-! Drawn words: alike but for one letter, all unlike. -/
namespace LW
open PySem L2 G
abbrev sWords : Stmt := top 53
def letters : Str := Str.ofString "abcdefghijklmnopqrstuvwxyz"
theorem letters_list : letters.cps.toList = List.range' 97 26 := by decide +kernel
theorem letters_len : letters.length = 26 := by decide +kernel
def LetterQ (c : Nat) : Prop := 97 ≤ c ∧ c ≤ 122
theorem letter_mem {c : Nat} (h : c ∈ letters.cps.toList) : LetterQ c := by
  rw [letters_list, List.mem_range'_1] at h
  exact ⟨h.1, by omega⟩
theorem letter_at {i : Int} (h0 : 0 ≤ i) (h1 : i < 26) : atI letters.cps.toList i = some (97 + i.toNat) := by
  have e : atI letters.cps.toList ((i.toNat : Nat) : Int) = some (97 + i.toNat) := by
    refine atI_nat ?_
    rw [letters_list, List.getElem?_range' (by omega)]
    simp
  rw [show ((i.toNat : Nat) : Int) = i by omega] at e
  exact e
theorem join_list : ∀ l : List Str, (Str.join (Str.ofString "") l).cps.toList = (l.map (·.cps.toList)).flatten
  | [] => rfl
  | [a] => by simp [Str.join]
  | a :: b :: r => by
    have e : (Str.ofString "").cps.toList = [] := by decide +kernel
    have h := join_list (b :: r)
    simp only [List.map_cons, List.flatten_cons] at h ⊢
    rw [← h]
    show (a ++ Str.ofString "" ++ Str.join (Str.ofString "") (b :: r)).cps.toList = _
    rw [PyProof.Rows.cps_toList_append, PyProof.Rows.cps_toList_append, e, List.append_nil]
def WordQ (y : Str) : Prop := 1 ≤ y.length ∧ y.length ≤ 6 ∧ ∀ c ∈ y.cps.toList, LetterQ c
/-- the word with this letter put into the stem -/
def wordAt (stem : Str) (at' f st : Int) (k : Nat) : Str := cutS stem none (some at') ++ ⟨#[97 + ((f + st * k).fmod 26).toNat]⟩ ++ cutS stem (some at') none
theorem sIx_at {n : Nat} {i : Int} (h0 : 0 ≤ i) (h1 : i ≤ n) (d : Nat) : HT.sIx n d (some i) = i.toNat := by
  have e := HT.sIx_nat n d i.toNat
  rw [show ((i.toNat : Nat) : Int) = i by omega] at e
  rw [e]
  omega
theorem len_list (y : Str) : y.cps.toList.length = y.length := by simp [Str.length]
theorem front_list {z : Str} {i : Int} (h0 : 0 ≤ i) (h1 : i ≤ z.length) : (cutS z none (some i)).cps.toList = z.cps.toList.take i.toNat := by
  have e0 : HT.sIx z.length 0 none = 0 := rfl
  show ((z.cps.toList.drop (HT.sIx z.length 0 none)).take (HT.sIx z.length z.length (some i) - HT.sIx z.length 0 none)).toArray.toList = _
  rw [e0, sIx_at h0 h1, List.drop_zero, Nat.sub_zero]
theorem back_list {z : Str} {i : Int} (h0 : 0 ≤ i) (h1 : i ≤ z.length) : (cutS z (some i) none).cps.toList = z.cps.toList.drop i.toNat := by
  have e0 : HT.sIx z.length z.length none = z.length := rfl
  show ((z.cps.toList.drop (HT.sIx z.length 0 (some i))).take (HT.sIx z.length z.length none - HT.sIx z.length 0 (some i))).toArray.toList = _
  rw [e0, sIx_at h0 h1]
  show (z.cps.toList.drop i.toNat).take (z.length - i.toNat) = _
  refine List.take_of_length_le ?_
  rw [List.length_drop, len_list]
  exact Nat.le_refl _
theorem wordAt_list {z : Str} {i f st : Int} {k : Nat} (h0 : 0 ≤ i) (h1 : i ≤ z.length) : (wordAt z i f st k).cps.toList = z.cps.toList.take i.toNat ++ [97 + ((f + st * k).fmod 26).toNat] ++ z.cps.toList.drop i.toNat := by
  unfold wordAt
  rw [PyProof.Rows.cps_toList_append, PyProof.Rows.cps_toList_append, front_list h0 h1, back_list h0 h1]
theorem wordAt_len {z : Str} {i f st : Int} {k : Nat} (h0 : 0 ≤ i) (h1 : i ≤ z.length) : (wordAt z i f st k).length = z.length + 1 := by
  rw [← len_list, wordAt_list h0 h1, List.length_append, List.length_append, List.length_take, List.length_drop, len_list, List.length_singleton]
  omega
theorem wordAt_q {z : Str} {i f st : Int} {k : Nat} (h0 : 0 ≤ i) (h1 : i ≤ z.length) (h5 : z.length ≤ 5) (hz : ∀ c ∈ z.cps.toList, LetterQ c) : WordQ (wordAt z i f st k) := by
  have e := wordAt_len (f := f) (st := st) (k := k) h0 h1
  refine ⟨by omega, by omega, fun c hc => ?_⟩
  rw [wordAt_list h0 h1] at hc
  simp only [List.mem_append, List.mem_singleton] at hc
  have b := fm (i := f + st * k) (j := 26) (by decide)
  rcases hc with (hc | rfl) | hc
  · exact hz c (List.mem_of_mem_take hc)
  · exact ⟨by omega, by omega⟩
  · exact hz c (List.mem_of_mem_drop hc)
theorem wordAt_inj {z : Str} {i f st : Int} {k j : Nat} (h0 : 0 ≤ i) (h1 : i ≤ z.length) (hs : st = 1 ∨ st = 3 ∨ st = 5 ∨ st = 7 ∨ st = 9 ∨ st = 11) (hk : k < 26) (hj : j < 26) (e : wordAt z i f st k = wordAt z i f st j) : k = j := by
  have e2 : (wordAt z i f st k).cps.toList = (wordAt z i f st j).cps.toList := by rw [e]
  rw [wordAt_list h0 h1, wordAt_list h0 h1, List.append_cancel_right_eq, List.append_cancel_left_eq] at e2
  have e3 : ((f + st * k).fmod 26).toNat = ((f + st * j).fmod 26).toNat := by
    have := List.head_eq_of_cons_eq e2
    omega
  have b1 := fm (i := f + st * k) (j := 26) (by decide)
  have b2 := fm (i := f + st * j) (j := 26) (by decide)
  have e4 : (f + st * k).fmod 26 = (f + st * j).fmod 26 := by omega
  rw [Int.fmod_eq_emod_of_nonneg _ (by decide), Int.fmod_eq_emod_of_nonneg _ (by decide)] at e4
  rcases hs with rfl | rfl | rfl | rfl | rfl | rfl <;> omega
theorem words_nodup {z : Str} {i f st : Int} (h0 : 0 ≤ i) (h1 : i ≤ z.length) (hs : st = 1 ∨ st = 3 ∨ st = 5 ∨ st = 7 ∨ st = 9 ∨ st = 11) (n : Nat) (hn : n ≤ 26) : ((List.range n).map (wordAt z i f st)).Nodup := by
  rw [List.nodup_iff_pairwise_ne, List.pairwise_map]
  refine List.Pairwise.imp_of_mem ?_ List.pairwise_lt_range
  intro a b ha hb hab e
  have a1 := List.mem_range.mp ha
  have b1 := List.mem_range.mp hb
  have := wordAt_inj h0 h1 hs (by omega) (by omega) e
  omega
end LW

/-! isinstance(x, T) for data of any kind and T a built-in class. -/
namespace G
open PySem PySem.Spec L2
open PySem.W (Frag)
/-- the class of a datum, by its name -/
def cD : PyData → String
  | .none => "NoneType"
  | .bool _ => "bool"
  | .int _ => "int"
  | .str _ => "str"
  | .list _ => "list"
  | .tuple _ => "tuple"
  | .dict _ => "dict"
theorem Da.ty {K : Frag} {H : Hp} {v : V} {d : PyData} (h : Da K H v d) : TyX K H v (.type (cD d)) := by
  cases h with
  | non => exact .base .non
  | bl b => exact .base (.bl b)
  | int i => exact .base (.int i)
  | str x => exact .base (.str x)
  | lst n s a =>
    rcases s with (s | ⟨o, s⟩) | ⟨o, its, m, e, c, _⟩
    · exact .base (.lst s)
    · exact .base (.frz s)
    · exact .kList e c
  | tup s a =>
    rcases s with (s | ⟨o, s⟩) | ⟨o, its, m, e, c, _⟩
    · exact .base (.tup s)
    · exact .fTuple s
    · exact .kTuple e c
  | dct e a b => exact .base (.dK e)
def isStr : PyData → Bool
  | .str _ => true
  | _ => false
def isInt : PyData → Bool
  | .int _ => true
  | .bool _ => true
  | _ => false
def isBool : PyData → Bool
  | .bool _ => true
  | _ => false
def isTup : PyData → Bool
  | .tuple _ => true
  | _ => false
theorem kit_str {K : Frag} : ∀ d : PyData, PySem.W.kitOne K (.type (cD d)) (.type "str") = some (isStr d)
  | .none => kit_ty (show kitB "NoneType" "str" = some false by decide +kernel)
  | .bool _ => kit_ty (show kitB "bool" "str" = some false by decide +kernel)
  | .int _ => kit_ty (show kitB "int" "str" = some false by decide +kernel)
  | .str _ => kit_ty (show kitB "str" "str" = some true by decide +kernel)
  | .list _ => kit_ty (show kitB "list" "str" = some false by decide +kernel)
  | .tuple _ => kit_ty (show kitB "tuple" "str" = some false by decide +kernel)
  | .dict _ => kit_ty (show kitB "dict" "str" = some false by decide +kernel)
theorem kit_int {K : Frag} : ∀ d : PyData, PySem.W.kitOne K (.type (cD d)) (.type "int") = some (isInt d)
  | .none => kit_ty (show kitB "NoneType" "int" = some false by decide +kernel)
  | .bool _ => kit_ty (show kitB "bool" "int" = some true by decide +kernel)
  | .int _ => kit_ty (show kitB "int" "int" = some true by decide +kernel)
  | .str _ => kit_ty (show kitB "str" "int" = some false by decide +kernel)
  | .list _ => kit_ty (show kitB "list" "int" = some false by decide +kernel)
  | .tuple _ => kit_ty (show kitB "tuple" "int" = some false by decide +kernel)
  | .dict _ => kit_ty (show kitB "dict" "int" = some false by decide +kernel)
theorem kit_bool {K : Frag} : ∀ d : PyData, PySem.W.kitOne K (.type (cD d)) (.type "bool") = some (isBool d)
  | .none => kit_ty (show kitB "NoneType" "bool" = some false by decide +kernel)
  | .bool _ => kit_ty (show kitB "bool" "bool" = some true by decide +kernel)
  | .int _ => kit_ty (show kitB "int" "bool" = some false by decide +kernel)
  | .str _ => kit_ty (show kitB "str" "bool" = some false by decide +kernel)
  | .list _ => kit_ty (show kitB "list" "bool" = some false by decide +kernel)
  | .tuple _ => kit_ty (show kitB "tuple" "bool" = some false by decide +kernel)
  | .dict _ => kit_ty (show kitB "dict" "bool" = some false by decide +kernel)
theorem kit_tup {K : Frag} : ∀ d : PyData, PySem.W.kitOne K (.type (cD d)) (.type "tuple") = some (isTup d)
  | .none => kit_ty (show kitB "NoneType" "tuple" = some false by decide +kernel)
  | .bool _ => kit_ty (show kitB "bool" "tuple" = some false by decide +kernel)
  | .int _ => kit_ty (show kitB "int" "tuple" = some false by decide +kernel)
  | .str _ => kit_ty (show kitB "str" "tuple" = some false by decide +kernel)
  | .list _ => kit_ty (show kitB "list" "tuple" = some false by decide +kernel)
  | .tuple _ => kit_ty (show kitB "tuple" "tuple" = some true by decide +kernel)
  | .dict _ => kit_ty (show kitB "dict" "tuple" = some false by decide +kernel)
def rIsD (c : String) (is : PyData → Bool) (K : Frag) : List V → Hp → VK → Prop := fun xs H Q => ∃ v d, xs = [v, .ty c] ∧ Da K H v d ∧ Q (.bl (is d)) H
theorem call_isD {X : Cx} {c : String} {is : PyData → Bool} (h : ∀ d, PySem.W.kitOne X.K (.type (cD d)) (.type c) = some (is d)) : CallR X (.builtin "isinstance") (rIsD c is X.K) := by
  intro pins s σ H xs us Q I r h'
  obtain ⟨v, d, rfl, hd, q⟩ := h'
  exact call_isi pins s σ H _ us Q I r ⟨v, .ty c, _, _, is d, rfl, .ty c, hd.ty, h d, q⟩
end G

/-! The laws' own looks: whether any value is a word. -/
namespace LW
open PySem L2 G
/-- no sign but the letters -/
def lettersB (l : List Nat) : Bool := l.all fun c => decide (c ∈ letters.cps.toList)
def isWordD : PyData → Bool
  | .str z => decide (1 ≤ z.length) && decide (z.length ≤ 8) && lettersB z.cps.toList
  | _ => false
def spIsWord (K : PySem.W.Frag) : Sp := fun vs H Q _ => ∃ (v : V) (d : PyData), vs = [v] ∧ Da K H v d ∧ (∀ z, d = .str z → z.length ≤ sizeLine ∧ PyData.strOk z = true) ∧ ∀ H', Same H H' → Q (.bl (isWordD d)) H'
theorem dpStrs (K : PySem.W.Frag) (H : Hp) : ∀ l : List Str, DpAll K H (l.map V.str) (l.map PyData.str)
  | [] => .nil
  | i :: l => .cons (.str i) (dpStrs K H l)
theorem layStrs : ∀ l : List Str, (∀ y ∈ l, PyData.strOk y = true) → PyData.canLayAll0 (l.map PyData.str) = true
  | [], _ => by simp only [List.map_nil, PyData.canLayAll0]
  | i :: l, h => by simp only [List.map_cons, PyData.canLayAll0, PyData.canLay0, layStrs l fun y hy => h y (List.mem_cons_of_mem _ hy), h i List.mem_cons_self, Bool.and_self]
theorem depStrs : ∀ l : List Str, PyData.depthAll (l.map PyData.str) = 0
  | [] => by simp only [List.map_nil, PyData.depthAll]
  | i :: l => by simp only [List.map_cons, PyData.depthAll, PyData.depth, depStrs l, Nat.max_self]
theorem shapedStrs (l : List Str) (h : ∀ y ∈ l, PyData.strOk y = true) : SeqAt.shaped (.list (l.map PyData.str)) = true := by
  have h1 : (PyData.list (l.map PyData.str)).canLay0 = true := by simp only [PyData.canLay0, layStrs l h]
  have h2 : (PyData.list (l.map PyData.str)).depth ≤ 64 := by simp only [PyData.depth, depStrs]; omega
  simp only [SeqAt.shaped, h1, h2, decide_true, Bool.and_self]
theorem eqvNilS : ∀ l : List Str, PyData.eqv (.list (l.map PyData.str)) (.list []) = decide (l = [])
  | [] => by simp [PyData.eqv, PyData.eqvAll]
  | i :: l => by simp [PyData.eqv, PyData.eqvAll]
section
variable {P : Program} {w : World} {K : PySem.W.Frag} {mg : Str → Option Value} {base : Heap}
end
end LW

/-! The laws' own looks: whether any value is a day, a stretch. -/
namespace LW
open PySem L2 G
def isNumD : PyData → Bool
  | .int i => decide (0 ≤ i) && decide (i ≤ 10 ^ 30)
  | _ => false
def isStretchD : PyData → Bool
  | .tuple [a, b] => isNumD a && isNumD b && (match a, b with
    | .int i, .int j => decide (i ≤ j)
    | _, _ => false)
  | _ => false
def spIsNumber (K : PySem.W.Frag) : Sp := fun vs H Q _ => ∃ (v : V) (d : PyData), vs = [v] ∧ Da K H v d ∧ Q (.bl (isNumD d)) H
def spIsStretch (K : PySem.W.Frag) : Sp := fun vs H Q _ => ∃ (v : V) (d : PyData), vs = [v] ∧ Da K H v d ∧ Q (.bl (isStretchD d)) H
section
variable {P : Program} {w : World} {K : PySem.W.Frag} {mg : Str → Option Value} {base : Heap}
variable {fN : Addr} {fdN : FuncData}
end
end LW

/-! A list of anything beside the empty list: equal only if it is empty. -/
namespace G
open PySem PySem.Spec PyProof.Rows L2
def rEqNil (K : PySem.W.Frag) : R2 := fun x y H Q => ∃ a b xs, x = .ref a ∧ y = .ref b ∧ SqL K H a xs ∧ SqL K H b [] ∧ Q (.bl (decide (xs = []))) H
def rNeNil (K : PySem.W.Frag) : R2 := fun x y H Q => ∃ a b xs, x = .ref a ∧ y = .ref b ∧ SqL K H a xs ∧ SqL K H b [] ∧ Q (.bl (!decide (xs = []))) H
theorem vals_len {xs : List V} {us : List Value} (r : Vals xs us) : us.length = xs.length := by
  induction r with
  | nil => rfl
  | cons _ _ ih => rw [List.length_cons, List.length_cons, ih]
theorem op_eqNil {X : Cx} (hu : X.A.units < cLine) : OpR X (compareOp .Eq) (rEqNil X.K) := by
  intro pins s σ H x y v u Q I rx ry h
  obtain ⟨a, b, xs, rfl, rfl, ha, hb, q⟩ := h
  cases rx
  cases ry
  obtain ⟨its, rv, l1, _⟩ := I.list ha
  obtain ⟨its2, rv2, l2, _⟩ := I.list hb
  have e1 := vals_len rv
  have e2 := vals_len rv2
  cases xs with
  | nil =>
    have z1 : its = [] := List.eq_nil_of_length_eq_zero e1
    have z2 : its2 = [] := List.eq_nil_of_length_eq_zero e2
    subst z1 z2
    refine SeqAt.eq_listAt (e := fun _ => true) l1.isList l2.isList rfl hu (fun j h1 => absurd h1 (Nat.not_lt_zero _)) ⟨.bl true, H, I, rfl, q⟩
  | cons z zs =>
    refine SeqAt.eq_list_lengthsAt l1.isList l2.isList ?_ hu ⟨.bl false, H, I, rfl, by simpa using q⟩
    have : its.toArray.size = zs.length + 1 := by simpa using e1
    have t2 : its2.toArray.size = 0 := by simpa using e2
    rw [this, t2]
    rfl
end G

/-! The laws' own looks: whether any value is a chain with at most so many names. -/
namespace LW
open PySem L2 G
def strsOk (ds : List PyData) : Prop := ∀ e ∈ ds, ∀ z, e = .str z → z.length ≤ sizeLine ∧ PyData.strOk z = true
def isChainD (d : PyData) (tp : Int) : Bool :=
  match d with
  | .tuple ds => decide (1 ≤ ds.length) && decide ((ds.length : Int) ≤ tp + 1) && ds.all isWordD
  | _ => false
def spIsChain (K : PySem.W.Frag) : Sp := fun vs H Q _ => ∃ (v : V) (d : PyData) (tp : Int), vs = [v, .int tp] ∧ Da K H v d ∧ (∀ ds, d = .tuple ds → strsOk ds ∧ ds.length ≤ 100000) ∧ ∀ H', Same H H' → Q (.bl (isChainD d tp)) H'
section
variable {P : Program} {w : World} {K : PySem.W.Frag} {mg : Str → Option Value} {base : Heap}
variable {fW : Addr} {fdW : FuncData}
theorem da_at {K : PySem.W.Frag} {H : Hp} : ∀ {xs : List V} {ds : List PyData}, DaAll K H xs ds → ∀ {i : Nat} {x : V}, xs[i]? = some x → ∃ e, ds[i]? = some e ∧ Da K H x e
  | _, _, .nil, _, _, h => by cases h
  | _, _, .cons a b, 0, _, h => ⟨_, rfl, by cases h; exact a⟩
  | _, _, .cons a b, i + 1, _, h => da_at b (i := i) h
end
end LW

/-! The program's looks: whether any value is a word, an integer between two, a chain, a stretch. -/
namespace LW
open PySem L2 G
abbrev pInt : Stmt := top 7
abbrev pWord : Stmt := top 8
abbrev pChain : Stmt := top 9
abbrev pStretch : Stmt := top 10
/-- the program's constants and built-ins as they stand -/
structure Pb (mg : Str → Option Value) : Prop where
  isin : mg "isinstance" = none
  str : mg "str" = none
  int : mg "int" = none
  bool : mg "bool" = none
  tup : mg "tuple" = none
  len : mg "len" = none
  all : mg "all" = none
  letters : ∃ t, mg "MAX_LETTERS" = some (.int 8 t)
  names : ∃ t, mg "MAX_NAMES" = some (.int 4 t)
  limit : ∃ t, mg "LIMIT" = some (.int (10 ^ 30) t)
theorem letter_iff {c : Nat} : decide (c ∈ letters.cps.toList) = (!decide (([c] : List Nat) < [97]) && !decide (([122] : List Nat) < [c])) := by
  rw [letters_list]
  have h1 : (([c] : List Nat) < [97]) ↔ c < 97 := by
    rw [List.cons_lt_cons_iff]
    simp
  have h2 : (([122] : List Nat) < [c]) ↔ 122 < c := by
    rw [List.cons_lt_cons_iff]
    simp
  rw [show decide (([c] : List Nat) < [97]) = decide (c < 97) from decide_eq_decide.mpr h1, show decide (([122] : List Nat) < [c]) = decide (122 < c) from decide_eq_decide.mpr h2]
  by_cases a : c < 97
  · have : ¬ c ∈ List.range' 97 26 := fun z => by
      rw [List.mem_range'_1] at z
      omega
    simp [a, this]
  · by_cases b : 122 < c
    · have : ¬ c ∈ List.range' 97 26 := fun z => by
        rw [List.mem_range'_1] at z
        omega
      simp [b, this]
    · have : c ∈ List.range' 97 26 := by
        rw [List.mem_range'_1]
        omega
      simp [a, b, this]
def intInD (d : PyData) (lo hi : Int) : Bool :=
  match d with
  | .int i => decide (lo ≤ i) && decide (i ≤ hi)
  | _ => false
def spInt (K : PySem.W.Frag) : Sp := fun vs H Q _ => ∃ (v : V) (d : PyData) (lo hi : Int), vs = [v, .int lo, .int hi] ∧ Da K H v d ∧ Q (.bl (intInD d lo hi)) H
section
variable {P : Program} {w : World} {K : PySem.W.Frag} {mg : Str → Option Value} {base : Heap}
theorem scInt : FnScope ["value", "low", "high"] ["value", "low", "high"] (defScope pInt) := ⟨rfl, rfl, rfl, by decide +kernel, rfl, by decide +kernel, by decide +kernel⟩
theorem ok_int {f : Addr} {fd : FuncData} (F : Fun K "is_integer_in" "is_integer_in" pInt f fd) (B : Pb mg) : FnOk P w K mg base CX0 1 f fd ["value", "low", "high"] (spInt K) := by
  refine F.ok scInt (fun vs H Q E h => ?_) (fun cdv A outer s H vs Q E hr h => ?_)
  · obtain ⟨v, d, lo, hi, rfl, _⟩ := h
    rfl
  · obtain ⟨v, d, lo, hi, rfl, hd, k⟩ := h
    refine ⟨_, pss_one (ps_ret (pe_and (pe_callB (call_isD kit_int) (by rfl) B.isin (by decide +kernel) (pa_cons (pv 0) (pa_cons (pe_bltn (v := .ty "int") (by rfl) B.int (by decide +kernel) rfl) pa_nil)))
      (pe_and (pe_not (pe_callB (call_isD kit_bool) (by rfl) B.isin (by decide +kernel) (pa_cons (pv 0) (pa_cons (pe_bltn (v := .ty "bool") (by rfl) B.bool (by decide +kernel) rfl) pa_nil))))
      (pe_one (pe_chain op_le op_le (pv 1) (pv 0) (pv 2)))))), ?_⟩
    refine ⟨_, rfl, v, d, rfl, hd, _, rfl, ?_⟩
    cases d with
    | int i =>
      cases hd
      refine iteT ⟨_, rfl, _, _, rfl, .int i, _, rfl, _, rfl, iteT ?_⟩
      refine ⟨_, rfl, _, rfl, _, _, rfl, rfl, _, rfl, ?_⟩
      refine ite2 (fun h0 => ?_) (fun h0 => ?_)
      · refine ⟨_, rfl, _, _, rfl, rfl, ?_⟩
        have e : intInD (.int i) lo hi = decide (i ≤ hi) := by
          show (decide (lo ≤ i) && decide (i ≤ hi)) = _
          rw [h0, Bool.true_and]
        rw [e] at k
        exact k
      · have e : intInD (.int i) lo hi = false := by
          show (decide (lo ≤ i) && decide (i ≤ hi)) = _
          rw [Bool.eq_false_iff.mpr h0, Bool.false_and]
        rw [e] at k
        exact k
    | bool b => exact iteT ⟨_, rfl, _, _, rfl, hd, _, rfl, _, rfl, iteF k⟩
    | none => exact iteF k
    | str z => exact iteF k
    | list z => exact iteF k
    | tuple z => exact iteF k
    | dict z => exact iteF k
theorem scWord : FnScope ["value", "letter"] ["value"] (defScope pWord) := ⟨rfl, rfl, rfl, by decide +kernel, rfl, by decide +kernel, by decide +kernel⟩
theorem ok_word {f : Addr} {fd : FuncData} (F : Fun K "is_word" "is_word" pWord f fd) (B : Pb mg) : FnOk P w K mg base CX0 1 f fd ["value"] (spIsWord K) := by
  refine F.ok scWord (fun vs H Q E h => ?_) (fun cdv A outer s H vs Q E hr h => ?_)
  · obtain ⟨v, d, rfl, _⟩ := h
    rfl
  · obtain ⟨v, d, rfl, hd, hz, k⟩ := h
    obtain ⟨t8, m8⟩ := B.letters
    refine ⟨_, pss_cons (ps_if (PW.pt (pw_or (pt_not (pt_val (pe_callB (call_isD kit_str) (by rfl) B.isin (by decide +kernel) (pa_cons (pv 0) (pa_cons (pe_bltn (v := .ty "str") (by rfl) B.str (by decide +kernel) rfl) pa_nil)))))
        (pw_or1 (pt_not (pt_chain op_le op_le pe_int (pe_callB call_len (by rfl) B.len PySem.boot_len (pa_cons (pv 0) pa_nil)) (pe_glob (v := .int 8) (by rfl) m8 ⟨_, rfl⟩)))))) (pss_one (ps_ret pe_bl)) pss_nil)
      (pss_one (ps_ret (pe_callB (cr_all rfl) (by rfl) B.all (by decide +kernel) (pa_cons (pe_lc (own := [("letter", 1)]) (g := gName 1) (tt := tYes) rfl scWord.nd (pi_str (pv 0))
        (blkOk_by (own := [("letter", 1)]) (N := ["value", "letter"]) (sc := defScope pWord) (by decide +kernel))
        (fun _ _ _ _ _ => pg_name (i := 1) scWord.nd rfl (Or.inl rfl)) (fun _ _ _ _ _ => pts_nil) (fun _ _ _ _ _ => pe_chain op_le_str op_le_str pe_str (pv 1) pe_str)) pa_nil)))), ?_⟩
    refine ⟨_, rfl, v, d, rfl, hd, _, rfl, ?_⟩
    by_cases hs : isStr d = true
    · obtain ⟨z, rfl⟩ : ∃ z, d = .str z := by cases d <;> first | exact ⟨_, rfl⟩ | cases hs
      cases hd
      obtain ⟨lz, oz⟩ := hz z rfl
      refine iteF ?_
      refine ⟨_, rfl, _, _, rfl, ⟨lz, rfl⟩, _, _, rfl, rfl, _, rfl, ?_⟩
      refine ite2 (fun h1 => ?_) (fun h1 => ?_)
      rotate_left
      · refine ⟨_, rfl, iteT ?_⟩
        have n1 : ¬ 1 ≤ z.length := by
          have := of_decide_eq_false (Bool.eq_false_iff.mpr h1)
          omega
        have kk := k H (Same.refl H)
        rw [show isWordD (.str z) = false by simp [isWordD, n1]] at kk
        exact kk
      have p1 : 1 ≤ z.length := by
        have := of_decide_eq_true h1
        omega
      refine ⟨_, _, rfl, rfl, _, rfl, ?_⟩
      by_cases h8 : (z.length : Int) ≤ 8
      rotate_left
      · rw [decide_eq_false h8]
        refine iteT ?_
        have n8 : ¬ z.length ≤ 8 := by omega
        have kk := k H (Same.refl H)
        rw [show isWordD (.str z) = false by simp [isWordD, n8]] at kk
        exact kk
      rw [decide_eq_true h8]
      refine iteF ?_
      have p8 : z.length ≤ 8 := by omega
      have we : isWordD (.str z) = lettersB z.cps.toList := by simp [isWordD, p1, p8]
      rw [we] at k
      refine ⟨_, rfl, z, rfl, fun D hD => ?_⟩
      refine lc_it walk_str (fun i G => G D = some (.lst ((z.cps.toList.take i).map fun c => V.bl (decide (c ∈ letters.cps.toList)))) ∧ Same H G)
        ⟨by rw [upd_same]; rfl, same_new hD⟩ (fun _ _ _ _ => True.intro) (fun i x G G' hi pv y => ?_) (fun G pv => ?_)
      · obtain ⟨rfl, c, hc, rfl⟩ := y
        obtain ⟨gD, S⟩ := pv
        have hc2 : z.cps.toList[i]? = some c := by rw [Array.getElem?_toList]; exact hc
        have tk : z.cps.toList.take (i + 1) = z.cps.toList.take i ++ [c] := by rw [List.take_add_one, hc2]; rfl
        have few : (z.cps.toList.take i).length ≤ 8 := by
          rw [List.length_take, len_list]
          omega
        have ea : (Str.ofString "a").cps.toList = [97] := by decide +kernel
        have ez : (Str.ofString "z").cps.toList = [122] := by decide +kernel
        have fin : ∀ b : Bool, b = decide (c ∈ letters.cps.toList) → ∃ acc, G' D = some (.lst acc) ∧ acc.length < sizeLine ∧ (upd G' D (.lst (acc ++ [V.bl b]))) D = some (.lst ((z.cps.toList.take (i + 1)).map fun c => V.bl (decide (c ∈ letters.cps.toList)))) ∧ Same H (upd G' D (.lst (acc ++ [V.bl b]))) := by
          intro b hb
          refine ⟨_, gD, by rw [List.length_map, sizeLine_eq]; omega, by rw [upd_same, tk, List.map_append, hb]; rfl, fun b o e => by rw [upd_ne (ne_of_none e hD)]; exact S _ _ e⟩
        refine ⟨rfl, _, rfl, _, _, rfl, rfl, _, rfl, ?_⟩
        have hl := letter_iff (c := c)
        have cl : (⟨#[c]⟩ : Str).cps.toList = [c] := rfl
        rw [ea, cl]
        by_cases q : ([c] : List Nat) < [97]
        · rw [decide_eq_true q] at hl ⊢
          refine iteF ?_
          obtain ⟨acc, a1, a2, a3, a4⟩ := fin false (by rw [hl]; rfl)
          exact ⟨acc, a1, a2, a3, a4⟩
        · rw [decide_eq_false q] at hl ⊢
          refine iteT ?_
          refine ⟨_, _, rfl, rfl, ?_⟩
          obtain ⟨acc, a1, a2, a3, a4⟩ := fin (!decide ((Str.ofString "z").cps.toList < (⟨#[c]⟩ : Str).cps.toList)) (by rw [hl, ez, cl]; rfl)
          exact ⟨acc, a1, a2, a3, a4⟩
      · obtain ⟨gD, S⟩ := pv
        have ft : z.cps.toList.take z.cps.size = z.cps.toList := List.take_of_length_le (by rw [len_list]; exact Nat.le_refl _)
        rw [ft] at gD
        refine ⟨D, z.cps.toList.map fun c => decide (c ∈ letters.cps.toList), rfl, SqL.of (by rw [gD, List.map_map]; rfl), ?_⟩
        have kk := k _ S
        have e : (z.cps.toList.map fun c => decide (c ∈ letters.cps.toList)).all id = lettersB z.cps.toList := by
          unfold lettersB
          rw [List.all_map]
          rfl
        rw [e]
        exact kk
    · have e : isStr d = false := by simpa using hs
      rw [e]
      refine iteT ?_
      have e2 : isWordD d = false := by cases d <;> first | rfl | cases e
      have kk := k H (Same.refl H)
      rw [e2] at kk
      exact kk
end
end LW

namespace LW
open PySem L2 G
section
variable {P : Program} {w : World} {K : PySem.W.Frag} {mg : Str → Option Value} {base : Heap}
variable {fW fI : Addr} {fdW fdI : FuncData}
theorem scChainP : FnScope ["value", "most", "word"] ["value", "most"] (defScope pChain) := ⟨rfl, rfl, rfl, by decide +kernel, rfl, by decide +kernel, by decide +kernel⟩
theorem ok_chainP {f : Addr} {fd : FuncData} (F : Fun K "is_chain" "is_chain" pChain f fd) (B : Pb mg)
    (GW : FnOk P w K mg base CX0 1 fW fdW ["value"] (spIsWord K)) (mW : mg "is_word" = some (.ref fW)) (kW : PySem.W.keepIn K (.ref fW) = true) (bW : Binds K fdW ["value"] []) :
    FnOk P w K mg base CX0 2 f fd ["value", "most"] (spIsChain K) := by
  refine F.ok scChainP (fun vs H Q E h => ?_) (fun cdv A outer s H vs Q E hr h => ?_)
  · obtain ⟨v, d, tp, rfl, _⟩ := h
    rfl
  · obtain ⟨v, d, tp, rfl, hd, hz, k⟩ := h
    refine ⟨_, pss_cons (ps_if (PW.pt (pw_or (pt_not (pt_val (pe_callB (call_isD kit_tup) (by rfl) B.isin (by decide +kernel) (pa_cons (pv 0) (pa_cons (pe_bltn (v := .ty "tuple") (by rfl) B.tup (by decide +kernel) rfl) pa_nil)))))
        (pw_or1 (pt_not (pt_chain op_le op_le pe_int (pe_callB call_len (by rfl) B.len PySem.boot_len (pa_cons (pv 0) pa_nil)) (pe_op op_add pe_int (pv 1))))))) (pss_one (ps_ret pe_bl)) pss_nil)
      (pss_one (ps_ret (pe_callB (cr_all rfl) (by rfl) B.all (by decide +kernel) (pa_cons (pe_lc (own := [("word", 2)]) (g := gName 2) (tt := tYes) rfl scChainP.nd (pi_tup (pv 0))
        (blkOk_by (own := [("word", 2)]) (N := ["value", "most", "word"]) (sc := defScope pChain) (by decide +kernel))
        (fun _ _ _ _ _ => pg_name (i := 2) scChainP.nd rfl (Or.inl rfl)) (fun _ _ _ _ _ => pts_nil) (fun _ _ _ _ _ => pe_call GW hr (by rfl) mW kW bW .nil pass0 (pa_cons (pv 2) pa_nil))) pa_nil)))), ?_⟩
    refine ⟨_, rfl, v, d, rfl, hd, _, rfl, ?_⟩
    by_cases hs : isTup d = true
    rotate_left
    · have e : isTup d = false := by simpa using hs
      rw [e]
      refine iteT ?_
      have e2 : isChainD d tp = false := by cases d <;> first | rfl | cases e
      have kk := k H (Same.refl H)
      rw [e2] at kk
      exact kk
    rw [hs]
    refine iteF ?_
    obtain ⟨ds, rfl⟩ : ∃ ds, d = .tuple ds := by cases d <;> first | exact ⟨_, rfl⟩ | cases hs
    obtain ⟨a, xs, rfl, hS, hA⟩ : ∃ a xs, v = .ref a ∧ SqT K H a xs ∧ DaAll K H xs ds := by
      cases hd with
      | tup s a => exact ⟨_, _, rfl, s, a⟩
    obtain ⟨ok, few⟩ := hz ds rfl
    have L := hA.length
    refine ⟨_, rfl, _, xs.length, rfl, .inr ⟨_, hS, rfl⟩, _, _, rfl, rfl, _, rfl, ?_⟩
    refine ite2 (fun h1 => ?_) (fun h1 => ?_)
    rotate_left
    · refine ⟨_, rfl, iteT ?_⟩
      have n1 : ¬ 1 ≤ ds.length := by
        have := of_decide_eq_false (Bool.eq_false_iff.mpr h1)
        omega
      have kk := k H (Same.refl H)
      rw [show isChainD (.tuple ds) tp = false by simp only [isChainD, decide_eq_false n1, Bool.false_and]] at kk
      exact kk
    have p1 : 1 ≤ ds.length := by
      have := of_decide_eq_true h1
      omega
    refine ⟨_, rfl, _, _, rfl, rfl, _, _, rfl, rfl, _, rfl, ?_⟩
    by_cases h8 : (xs.length : Int) ≤ 1 + tp
    rotate_left
    · rw [decide_eq_false h8]
      refine iteT ?_
      have n8 : ¬ (ds.length : Int) ≤ tp + 1 := by omega
      have kk := k H (Same.refl H)
      rw [show isChainD (.tuple ds) tp = false by simp only [isChainD, decide_eq_false n8, Bool.false_and, Bool.and_false]] at kk
      exact kk
    rw [decide_eq_true h8]
    refine iteF ?_
    have p8 : (ds.length : Int) ≤ tp + 1 := by omega
    have we : isChainD (.tuple ds) tp = ds.all isWordD := by simp only [isChainD, decide_eq_true p1, decide_eq_true p8, Bool.true_and]
    rw [we] at k
    refine ⟨_, rfl, a, rfl, ⟨_, hS⟩, fun D hD => ?_⟩
    refine lc_it (walk_tup (xs := xs)) (fun i G => G D = some (.lst ((ds.take i).map fun e => V.bl (isWordD e))) ∧ Same H G)
      ⟨by rw [upd_same]; rfl, same_new hD⟩ (fun i G _ pv => ?_) (fun i x G G' hi pv y => ?_) (fun G pv => ?_)
    · obtain ⟨gD, S⟩ := pv
      rcases hS with (q | ⟨o, q⟩) | q
      · exact .inl (.inl (S _ _ q))
      · exact .inl (.inr ⟨o, S _ _ q⟩)
      · exact .inr q
    · obtain ⟨rfl, hx⟩ := y
      obtain ⟨gD, S⟩ := pv
      obtain ⟨e, he, hde⟩ := da_at hA hx
      have me : e ∈ ds := List.mem_of_getElem? he
      have tk : ds.take (i + 1) = ds.take i ++ [e] := by rw [List.take_add_one, he]; rfl
      refine ⟨rfl, _, rfl, x, e, rfl, hde.same S, ok e me, fun G2 S2 => ?_⟩
      refine ⟨_, S2 _ _ gD, by rw [List.length_map, List.length_take, sizeLine_eq]; omega, by rw [upd_same, tk, List.map_append]; rfl, fun b o e' => by rw [upd_ne (ne_of_none e' hD)]; exact S2 _ _ (S _ _ e')⟩
    · obtain ⟨gD, S⟩ := pv
      have ft : ds.take xs.length = ds := List.take_of_length_le (by omega)
      rw [ft] at gD
      refine ⟨D, ds.map isWordD, rfl, SqL.of (by rw [gD, List.map_map]; rfl), ?_⟩
      have kk := k _ S
      rw [List.all_map]
      exact kk
theorem scStretchP : FnScope ["value", "first", "last"] ["value"] (defScope pStretch) := ⟨rfl, rfl, rfl, by decide +kernel, rfl, by decide +kernel, by decide +kernel⟩
theorem ok_stretchP {f : Addr} {fd : FuncData} (F : Fun K "is_stretch" "is_stretch" pStretch f fd) (B : Pb mg)
    (GI : FnOk P w K mg base CX0 1 fI fdI ["value", "low", "high"] (spInt K)) (mI : mg "is_integer_in" = some (.ref fI)) (kI : PySem.W.keepIn K (.ref fI) = true) (bI : Binds K fdI ["value", "low", "high"] []) :
    FnOk P w K mg base CX0 2 f fd ["value"] (spIsStretch K) := by
  refine F.ok scStretchP (fun vs H Q E h => ?_) (fun cdv A outer s H vs Q E hr h => ?_)
  · obtain ⟨v, d, rfl, _⟩ := h
    rfl
  · obtain ⟨v, d, rfl, hd, k⟩ := h
    obtain ⟨tL, mL⟩ := B.limit
    refine ⟨_, pss_cons (ps_if (PW.pt (pw_or (pt_not (pt_val (pe_callB (call_isD kit_tup) (by rfl) B.isin (by decide +kernel) (pa_cons (pv 0) (pa_cons (pe_bltn (v := .ty "tuple") (by rfl) B.tup (by decide +kernel) rfl) pa_nil)))))
        (pw_or1 (pt_cmpR op_ne (pe_callB call_len (by rfl) B.len PySem.boot_len (pa_cons (pv 0) pa_nil)) pe_int (nomark _))))) (pss_one (ps_ret pe_bl)) pss_nil)
      (pss_cons (ps_asg (pv 0) (pg_tup (n := 2) rfl (pgs_cons (pg_name (i := 1) scStretchP.nd rfl (Or.inl rfl)) (pgs_cons (pg_name (i := 2) scStretchP.nd rfl (Or.inl rfl)) pgs_nil))))
      (pss_one (ps_ret (pe_and (pe_call GI hr (by rfl) mI kI bI .nil pass0 (pa_cons (pv 1) (pa_cons pe_int (pa_cons (pe_glob (v := .int (10 ^ 30)) (by rfl) mL ⟨_, rfl⟩) pa_nil))))
        (pe_one (pe_call GI hr (by rfl) mI kI bI .nil pass0 (pa_cons (pv 2) (pa_cons (pv 1) (pa_cons (pe_glob (v := .int (10 ^ 30)) (by rfl) mL ⟨_, rfl⟩) pa_nil))))))))), ?_⟩
    refine ⟨_, rfl, v, d, rfl, hd, _, rfl, ?_⟩
    by_cases hs : isTup d = true
    rotate_left
    · have e : isTup d = false := by simpa using hs
      rw [e]
      refine iteT ?_
      have e2 : isStretchD d = false := by cases d <;> first | rfl | cases e
      rw [e2] at k
      exact k
    rw [hs]
    refine iteF ?_
    obtain ⟨ds, rfl⟩ : ∃ ds, d = .tuple ds := by cases d <;> first | exact ⟨_, rfl⟩ | cases hs
    obtain ⟨a, xs, rfl, hS, hA⟩ : ∃ a xs, v = .ref a ∧ SqT K H a xs ∧ DaAll K H xs ds := by
      cases hd with
      | tup s a => exact ⟨_, _, rfl, s, a⟩
    refine ⟨_, rfl, _, xs.length, rfl, .inr ⟨_, hS, rfl⟩, ?_⟩
    have L := hA.length
    refine ⟨rfl, _, rfl, ?_⟩
    refine ite2 (fun hc => ?_) (fun hc => ?_)
    · have n2 : xs.length ≠ 2 := fun z => by
        rw [z] at hc
        revert hc
        decide
      have e2 : isStretchD (.tuple ds) = false := by
        match ds, L with
        | [], _ => rfl
        | [_], _ => rfl
        | [_, _], L => exact absurd L n2
        | _ :: _ :: _ :: _, _ => rfl
      rw [e2] at k
      exact k
    have l2 : xs.length = 2 := by
      have h := Bool.not_eq_true _ ▸ hc
      have h' : decide (V.int (xs.length : Int) = V.int 2) = true := by simpa using h
      have := V.int.inj (of_decide_eq_true h')
      omega
    obtain ⟨x, y, rfl⟩ : ∃ x y, xs = [x, y] := by
      match xs, l2 with
      | [x, y], _ => exact ⟨x, y, rfl⟩
    obtain ⟨d1, d2, rfl, h1, h2⟩ : ∃ d1 d2, ds = [d1, d2] ∧ Da K H x d1 ∧ Da K H y d2 := by
      cases hA with
      | cons p q =>
        cases q with
        | cons p' q' =>
          cases q'
          exact ⟨_, _, rfl, p, p'⟩
    have ez : ∀ d, intInD d 0 (10 ^ 30) = isNumD d := fun d => by cases d <;> rfl
    refine ⟨_, rfl, a, _, rfl, hS, rfl, ?_⟩
    refine ⟨_, _, rfl, _, _, rfl, rfl, ?_⟩
    refine ⟨_, rfl, x, d1, 0, 10 ^ 30, rfl, h1, _, rfl, ?_⟩
    rw [ez]
    by_cases n1 : isNumD d1 = true
    rotate_left
    · have e : isNumD d1 = false := by simpa using n1
      rw [e]
      refine iteF ?_
      rw [show isStretchD (.tuple [d1, d2]) = false by simp only [isStretchD, e, Bool.false_and]] at k
      exact k
    rw [n1]
    refine iteT ?_
    obtain ⟨i, rfl⟩ : ∃ i, d1 = .int i := by
      cases d1 with
      | int i => exact ⟨i, rfl⟩
      | _ => cases n1
    cases h1
    refine ⟨_, rfl, _, rfl, y, d2, i, 10 ^ 30, rfl, h2, ?_⟩
    have e : intInD d2 i (10 ^ 30) = isStretchD (.tuple [.int i, d2]) := by
      have i0 : 0 ≤ i := by
        have q : (decide (0 ≤ i) && decide (i ≤ 10 ^ 30)) = true := n1
        rw [Bool.and_eq_true] at q
        exact of_decide_eq_true q.1
      cases d2 with
      | int j =>
        show (decide (i ≤ j) && decide (j ≤ 10 ^ 30)) = (isNumD (.int i) && isNumD (.int j) && decide (i ≤ j))
        rw [n1, Bool.true_and]
        show _ = (decide (0 ≤ j) && decide (j ≤ 10 ^ 30) && decide (i ≤ j))
        by_cases q : i ≤ j
        · have j0 : 0 ≤ j := by omega
          simp [q, j0]
        · simp [q]
      | none => simp [intInD, isStretchD, isNumD]
      | bool b => simp [intInD, isStretchD, isNumD]
      | str z => simp [intInD, isStretchD, isNumD]
      | list z => simp [intInD, isStretchD, isNumD]
      | tuple z => simp [intInD, isStretchD, isNumD]
      | dict z => simp [intInD, isStretchD, isNumD]
    rw [e]
    exact k
end
end LW

/-! isinstance of an exception that has its dict. -/
namespace G
open PySem PySem.Spec PySem.Calls PyProof.Rows L2
open PySem.W (Frag)
section
variable {prog : Program} {w : World} {A : Around} {E : Value → Shared → Prop} {s : Shared} {K : Frag} {a C fI : Addr} {T : List Value} {ox : Obj} {od : Option Obj}
theorem find_class (R : ExK K C fI T) (D : ExD K) : PySem.W.findObj K C od "__class__" = some (.bind (.builtin "getset_descriptor.__get__") (.builtin "object.__class__")) := by
  obtain ⟨cd, hc, _⟩ := PySem.W.any_some R.hd
  simp only [PySem.W.findObj, hc, Option.bind_some, R.cl, D.hn, D.ht]
theorem ask_class (R : ExK K C fI T) (D : ExD K) (kin : K.In s.heap) (I : PySem.W.InstAt s.heap a ox C od) {Q : Option Value → Shared → Prop} (h : Q (some (.ref C)) { s with toks := s.toks + 1 }) :
    wpAny (model prog w) A (getAttr? (.ref a) "__class__") Q E s := by
  obtain ⟨hp, g, d, t, os⟩ := s
  have ty := I.type (M := model prog w)
  have l1 := PySem.W.looks_findIn (M := model prog w) kin R.ga
  have l2 := PySem.W.looks_findIn (M := model prog w) kin R.gg
  have l3 := PySem.W.looks_find (M := model prog w) kin I (find_class (od := od) R D)
  have isB : PySem.W.Looks (model prog w) hp (isInstance (.ref a) (.type "BaseException")) true := ty.andThen (PySem.W.looks_subIn kin R.exC)
  have other : (Value.builtin "BaseException.__getattribute__" == Value.builtin "object.__getattribute__") = false := by decide +kernel
  have c1 : (onTheHeap (Value.ref C) && Value.builtin "BaseException.__getattribute__" == Value.builtin "object.__getattribute__") = false := by rw [other, Bool.and_false]
  unfold getAttr? getAttrBy? getAttrBy
  refine wpAny_bind (wpAny_mkText (wpAny_bind (wpAny_attempt (wpAny_holding (wpAny_bind (ty.at (wpAny_bind (l1.at ?_))))))))
  show wpAny _ _ (if (onTheHeap (Value.ref C) && Value.builtin "BaseException.__getattribute__" == Value.builtin "object.__getattribute__") = true then _ else _) _ _ _
  rw [if_neg (by rw [c1]; exact Bool.false_ne_true)]
  unfold getAttrByItsOwn hookBefore
  refine wpAny_bind ?_
  rw [if_pos (show onTheHeap (Value.ref C) = true from rfl)]
  refine l2.at (wpAny_bind (wpAny_attempt (wpAny_holding ?_)))
  unfold callGetattribute
  rw [if_neg (show ¬ (false && onTheHeap (Value.builtin "BaseException.__getattribute__")) = true from Bool.false_ne_true)]
  unfold boundAndCalled
  rw [PySem.F.excAttr_ValueError.ga.bind (.ref a)]
  refine wpAny_bind (wpAny_pure ?_)
  show wpAny _ _ (call (.builtin "BaseException.__getattribute__") [.ref a, .str "__class__" t]) _ _ _
  refine wpAny_call (codeAny_call_builtin PySem.F.excAttr_ValueError.ga.plain PySem.F.entry_bexc_ga (@PySem.W.check_slot (model prog w) _ _ ⟨hp, g, d, t + 1, os⟩ "BaseException.__getattribute__" "BaseException" "__getattribute__" (.ref a) [.str "__class__" t] [] _
    (by decide +kernel) (by decide +kernel) isB (PySem.F.args_bexc_ga (.ref a) (.str "__class__" t)) ?_))
  unfold Builtin.«object.__getattribute__»
  refine wpAny_bind (wpAny_of_eq (a := ((Value.ref a : Value), [Value.str "__class__" t])) (by first | rfl | (simp only [slotArgs]; rfl)) ?_)
  refine wpAny_bind (wpAny_pure (wpAny_bind (ty.at (wpAny_bind (l3.at ?_)))))
  show wpAny _ _ (holding [Value.builtin "object.__class__"] (call (.builtin "getset_descriptor.__get__") [.builtin "object.__class__", .ref a, .ref C]) >>= ret) _ _ _
  refine wpAny_bind (wpAny_holding (wpAny_call (PySem.W.class_get (s := ⟨hp, g, d, t + 1, os⟩) (ox := ox) (od := od) kin I R.ob (wpAny_pure ?_))))
  show wpAny _ _ (handedOut (.ref C)) _ _ _
  rw [PySem.W.handedOut_of (v := .ref C) rfl]
  first
    | exact wpAny_pure (wpAny_pure h)
    | exact wpAny_pure h
    | exact wpAny_pure (wpAny_bind (wpAny_pure (wpAny_pure h)))
theorem kit_ex (R : ExK K C fI T) (D : ExD K) : PySem.W.KitX K (.ref a) (.ref C) (fun h => PySem.W.InstAt h a ox C od) := by
  obtain ⟨cd, hc, _⟩ := PySem.W.any_some R.hd
  obtain ⟨c', d', sl', ho⟩ : ∃ c' d' sl', K.lookup C = some ⟨c', d', .cls cd, sl'⟩ := by
    unfold PySem.W.clsIn at hc
    split at hc
    · rename_i c' d' cd' sl' ho
      cases hc
      exact ⟨_, _, _, ho⟩
    · cases hc
  refine ⟨fun _ _ _ I => I.type, fun M h kin _ => ?_, fun h tp dd its n sl kin here => ?_, fun kin I q => ask_class R D kin I q⟩
  · intro A' Q' E' s' k q
    unfold isType loadHead
    exact wpAny_bind (wpAny_loadPart (k _ _ (kin _ _ ho)) (wpAny_pure q))
  · refine Bool.eq_false_iff.mpr fun q => ?_
    have e : C = tp := Value.ref.inj (beq_iff_eq.mp q)
    rw [← e, kin _ _ ho] at here
    cases here
end
/-- at a: an exception of the class at C, with or without a dict -/
def ExAt (H : Hp) (a C : Addr) : Prop := H a = some (exo a C none) ∨ ∃ (d : Addr) (fs : List (Str × V)), H a = some (exo a C (some d)) ∧ H d = some (exd d fs)
section
variable {X : Cx}
/-- isinstance(e, c), e an exception with its dict; c one class, or a tuple of classes just laid -/
def rIsx (K : Frag) : List V → Hp → VK → Prop := fun xs H Q => ∃ (a C fI : Addr) (T : List Value) (c : V) (u : Value) (b : Bool), xs = [.ref a, c] ∧ ExK K C fI T ∧ ExD K ∧ ExAt H a C ∧ ClsV c u ∧ PySem.W.kitOne K (.ref C) u = some b ∧ Q (.bl b) H
def rIsxT (K : Frag) : List V → Hp → VK → Prop := fun xs H Q => ∃ (a C fI tp : Addr) (T : List Value) (cs : List V) (us : List Value) (b : Bool), xs = [.ref a, .ref tp] ∧ ExK K C fI T ∧ ExD K ∧ ExAt H a C ∧
  H tp = some (.tup cs) ∧ Paired ClsV cs us ∧ PySem.W.kitAny K (.ref C) us = some b ∧ Q (.bl b) H
theorem inst_of {pins : List (Addr × Obj)} {σ : L2.St} {H : Hp} {s : Shared} {a C : Addr} (I : Inv X pins σ H s) (e : ExAt H a C) : ∃ ox od, PySem.W.InstAt s.heap a ox C od := by
  rcases e with e1 | ⟨d, fs, e1, e2⟩
  · obtain ⟨t1, ho⟩ := exo_at I.hok e1
    exact ⟨_, none, ho, rfl, rfl, trivial⟩
  obtain ⟨t1, ho⟩ := exo_at I.hok e1
  obtain ⟨mA, hns, _⟩ := exd_at I.hok e2
  obtain ⟨od, hod, _⟩ := lookIn_ns hns
  exact ⟨_, some od, ho, rfl, rfl, hod⟩
theorem call_isx : CallR X (.builtin "isinstance") (rIsx X.K) := by
  rintro pins s σ H xs us Q I r ⟨a, C, fI, T, c, u, b, rfl, R, D, e1, k, kit, q⟩
  obtain ⟨u1, u2, rfl, r1, r2⟩ := vals2 r
  cases r1
  obtain rfl := k.eq r2
  obtain ⟨ox, od, J⟩ := inst_of I e1
  exact PySem.W.kia_one (kit_ex R D) I.kIn J kit (fun z => nomatch z) fun tk => ⟨.bl b, H, I.tok tk, rfl, q⟩
theorem call_isxT : CallR X (.builtin "isinstance") (rIsxT X.K) := by
  rintro pins s σ H xs us Q I r ⟨a, C, fI, tp, T, cs, ws, b, rfl, R, D, e1, et, k, kit, q⟩
  obtain ⟨u1, u2, rfl, r1, r2⟩ := vals2 r
  cases r1
  cases r2
  obtain ⟨ox, od, J⟩ := inst_of I e1
  obtain ⟨_, its, rv, o, h1, h2, n, h3⟩ := (show ObjOk X.prog X.w H s.heap tp (.tup cs) from I.hok tp _ et)
  obtain rfl := ClsV.all k rv
  obtain ⟨oc, od', dt, sl⟩ := o
  dsimp only at h2 h3
  subst h2 h3
  exact PySem.W.kia_tup (kit_ex R D) I.kIn J h1 kit (fun z => nomatch z) fun tk => ⟨.bl b, H, I.tok tk, rfl, q⟩
end
end G

/-! Rows of exceptions: what is made, what is read off it, put into a list. -/
namespace G
open PySem PySem.Spec L2
open PySem.W (Frag)
/-- te comes to a value and a heap of which R holds -/
def Ev1 (te : TE) (σ : L2.St) (H : Hp) (R : V → Hp → Prop) : Prop := ∀ Q : VK, (∀ x G, R x G → Q x G) → te σ H Q
/-- the arguments come to vs, nothing changes -/
def EvA (ta : TA) (σ : L2.St) (vs : List V) : Prop := ∀ (H : Hp) (Q : List V → Hp → Prop), Q vs H → ta σ H Q
theorem eva_nil {σ : L2.St} : EvA tNil σ [] := fun H Q q => q
theorem eva_var {i : Nat} {ta : TA} {σ : L2.St} {v : V} {vs : List V} (h : σ[i]? = some (some v)) (t : EvA ta σ vs) : EvA (tCons (tVar i) ta) σ (v :: vs) := fun H Q q => ⟨v, h, t H _ q⟩
theorem eva_c {ta : TA} {σ : L2.St} {v : V} {vs : List V} (t : EvA ta σ vs) : EvA (tCons (tC v) ta) σ (v :: vs) := fun H Q q => t H _ q
/-- a new exception of the class at C, its fields -/
def IsEx (C : Addr) (fs : List (Str × V)) (H : Hp) : V → Hp → Prop := fun x G => Same H G ∧ ∃ a d, x = .ref a ∧ G a = some (exo a C (some d)) ∧ G d = some (exd d fs)
def IsV (v : V) (H : Hp) : V → Hp → Prop := fun x G => Same H G ∧ x = v
def IsE (C : Addr) (H : Hp) : V → Hp → Prop := fun x G => Same H G ∧ ∃ a, x = .ref a ∧ ExAt G a C
def spF1 (C : Addr) (f : Str) : Sp := fun vs H Q _ => ∃ a v, vs = [.ref a, v] ∧ H a = some (exo a C none) ∧ ∀ d, H d = none → d ≠ a → Q .non (upd (upd H d (exd d [(f, v)])) a (exo a C (some d)))
def spF2 (C : Addr) (f g : Str) : Sp := fun vs H Q _ => ∃ a v w, vs = [.ref a, v, w] ∧ H a = some (exo a C none) ∧ ∀ d H', H d = none → d ≠ a → (∀ b o, H b = some o → b ≠ a → H' b = some o) → H' a = some (exo a C (some d)) → H' d = some (exd d [(g, w), (f, v)]) → Q .non H'
section
variable {K : Frag} {C fI : Addr} {T : List Value} {f g s : Str} {ta tk : TA} {te te1 te2 te3 : TE} {σ : L2.St} {H : Hp} {v w : V} {fs : List (Str × V)}
theorem made1 {a d : Addr} (n : H a = none) (nd : (upd H a (exo a C none)) d = none) (ne : d ≠ a) : IsEx C [(f, v)] H (.ref a) (upd (upd (upd H a (exo a C none)) d (exd d [(f, v)])) a (exo a C (some d))) := by
  have nd0 : H d = none := by rw [upd_ne ne] at nd; exact nd
  refine ⟨fun b o e => ?_, a, d, rfl, upd_same, ?_⟩
  · rw [upd_ne (ne_of_none e n), upd_ne (ne_of_none e nd0), upd_ne (ne_of_none e n)]
    exact e
  · rw [upd_ne ne, upd_same]
theorem ev_mk1 (A : EvA ta σ [v]) : Ev1 (tMk C (spF1 C f) ta) σ H (IsEx C [(f, v)] H) := fun Q q =>
  A H _ ⟨(show 1 ≤ 1000 by decide), fun a n => ⟨a, v, rfl, upd_same, fun d nd ne => ⟨rfl, q _ _ (made1 n nd ne)⟩⟩⟩
theorem ev_mkK1 {perm : {α : Type} → List α → List α} {zs : List V} {m : Nat} (hp : perm zs = [v]) (hm : zs.length = m) (A : EvA tk σ zs) : Ev1 (tMkK C m perm (spF1 C f) tk) σ H (IsEx C [(f, v)] H) := fun Q q =>
  A H _ ⟨hm, fun a n => ⟨a, v, congrArg (V.ref a :: ·) hp, upd_same, fun d nd ne => ⟨rfl, q _ _ (made1 n nd ne)⟩⟩⟩
theorem made2 {a d : Addr} {H' : Hp} (n : H a = none) (old : ∀ b o, (upd H a (exo a C none)) b = some o → b ≠ a → H' b = some o) (e1 : H' a = some (exo a C (some d))) (e2 : H' d = some (exd d fs)) : IsEx C fs H (.ref a) H' := by
  refine ⟨fun b o e => old b o ?_ (ne_of_none e n), a, d, rfl, e1, e2⟩
  rw [upd_ne (ne_of_none e n)]
  exact e
theorem ev_mk2 (A : EvA ta σ [v, w]) : Ev1 (tMk C (spF2 C f g) ta) σ H (IsEx C [(g, w), (f, v)] H) := fun Q q =>
  A H _ ⟨(show 2 ≤ 1000 by decide), fun a n => ⟨a, v, w, rfl, upd_same, fun d H' nd ne old e1 e2 => ⟨rfl, q _ _ (made2 n old e1 e2)⟩⟩⟩
theorem ev_mkK2 {perm : {α : Type} → List α → List α} {zs : List V} {m : Nat} (hp : perm zs = [v, w]) (hm : zs.length = m) (A : EvA tk σ zs) : Ev1 (tMkK C m perm (spF2 C f g) tk) σ H (IsEx C [(g, w), (f, v)] H) := fun Q q =>
  A H _ ⟨hm, fun a n => ⟨a, v, w, congrArg (V.ref a :: ·) hp, upd_same, fun d H' nd ne old e1 e2 => ⟨rfl, q _ _ (made2 n old e1 e2)⟩⟩⟩
theorem ev_mk0 {perm : {α : Type} → List α → List α} (hp : perm ([] : List V) = []) (sp : Sp) (hs : ∀ a H Q, H a = some (exo a C none) → Q V.non H → sp [.ref a] H Q (fun _ _ _ => False)) : Ev1 (tMkK C 0 perm sp tNil) σ H (IsE C H) := fun Q q =>
  ⟨rfl, fun a n => by
    show sp (V.ref a :: perm ([] : List V)) _ _ _
    rw [hp]
    exact hs a _ _ upd_same ⟨rfl, q _ _ ⟨same_new n, a, rfl, .inl upd_same⟩⟩⟩
theorem ev_get (R : ExK K C fI T) (nf : PySem.W.findIn K (.ref C) f = some none) (l : fs.lookup f = some v) (E : Ev1 te σ H (IsEx C fs H)) : Ev1 (tGet K f te) σ H (IsV v H) := fun Q q =>
  E _ fun x G ⟨s, a, d, e, e1, e2⟩ => ⟨a, C, fI, d, T, fs, v, none, e, R, e1, e2, nf, rfl, l, q _ _ ⟨s, rfl⟩⟩
theorem ev_getv {i : Nat} {a d : Addr} (R : ExK K C fI T) (nf : PySem.W.findIn K (.ref C) f = some none) (l : fs.lookup f = some v) (h : σ[i]? = some (some (.ref a))) (e1 : H a = some (exo a C (some d))) (e2 : H d = some (exd d fs)) : Ev1 (tGet K f (tVar i)) σ H (IsV v H) := fun Q q =>
  ⟨_, h, a, C, fI, d, T, fs, v, none, rfl, R, e1, e2, nf, rfl, l, q _ _ ⟨Same.refl H, rfl⟩⟩
theorem ev_v {i : Nat} (h : σ[i]? = some (some v)) : Ev1 (tVar i) σ H (IsV v H) := fun Q q => ⟨v, h, q _ _ ⟨Same.refl H, rfl⟩⟩
theorem ev_e (E : Ev1 te σ H (IsEx C fs H)) : Ev1 te σ H (IsE C H) := fun Q q => E Q fun x G ⟨s, a, d, e, e1, e2⟩ => q x G ⟨s, a, e, .inr ⟨d, fs, e1, e2⟩⟩
theorem ExAt.same {G : Hp} {a : Addr} (e : Same H G) : ExAt H a C → ExAt G a C
  | .inl h => .inl (e _ _ h)
  | .inr ⟨d, fs, h1, h2⟩ => .inr ⟨d, fs, e _ _ h1, e _ _ h2⟩
/-- a row: a tuple of an exception of the class at C, twice the thing, a word -/
def RowAt (H : Hp) (C : Addr) (s : Str) (v r : V) : Prop := ∃ t e, r = .ref t ∧ H t = some (.tup [.ref e, v, v, .str s]) ∧ ExAt H e C
theorem RowAt.same {G : Hp} {r : V} (e : Same H G) : RowAt H C s v r → RowAt G C s v r
  | ⟨t, a, h1, h2, h3⟩ => ⟨t, a, h1, e _ _ h2, h3.same e⟩
theorem exo_lst {e C : Addr} {d : Option Addr} {xs : List V} : exo e C d ≠ .lst xs := fun z => by
  have z' : HO.ext _ = HO.lst xs := z
  cases z'
theorem exd_lst {e : Addr} {fs : List (Str × V)} {xs : List V} : exd e fs ≠ .lst xs := fun z => by
  have z' : HO.ext _ = HO.lst xs := z
  cases z'
/-- rows stay where a list alone is written -/
theorem RowAt.but {G : Hp} {r : V} {l : Addr} {xs : List V} (hl : H l = some (.lst xs)) (e : ∀ b o, H b = some o → b ≠ l → G b = some o) : RowAt H C s v r → RowAt G C s v r
  | ⟨t, a, h1, h2, h3⟩ => ⟨t, a, h1, e _ _ h2 (ne_of h2 hl (by intro z; cases z)), by
      rcases h3 with h | ⟨d, fs, h, k⟩
      · exact .inl (e _ _ h (ne_of h hl exo_lst))
      · exact .inr ⟨d, fs, e _ _ h (ne_of h hl exo_lst), e _ _ k (ne_of k hl exd_lst)⟩⟩
/-- found.append((te1, te2, te3, s)) -/
theorem rd_row {D : Ends} {l : Addr} {rs : List V} (h1 : σ[1]? = some (some (.ref l))) (hl : H l = some (.lst rs)) (few : rs.length ≤ 1000)
    (E1 : ∀ G, Same H G → Ev1 te1 σ G (IsE C G)) (E2 : ∀ G, Same H G → Ev1 te2 σ G (IsV v G)) (E3 : ∀ G, Same H G → Ev1 te3 σ G (IsV v G))
    (k : ∀ r G, (∀ b o, H b = some o → b ≠ l → G b = some o) → G l = some (.lst (rs ++ [r])) → RowAt G C s v r → D.nx σ G) :
    tDrop (tBM K "list" rAppend (tVar 1) (tCons (tTup (tCons te1 (tCons te2 (tCons te3 (tCons (tC (.str s)) tNil))))) tNil)) D σ H := by
  refine ⟨_, h1, .inl ⟨rfl, _, Or.inl (Or.inl hl)⟩, ?_⟩
  refine E1 H (Same.refl H) _ fun x1 G1 ⟨s1, a, e1, x⟩ => ?_
  subst e1
  refine E2 G1 s1 _ fun x2 G2 ⟨s2, e2⟩ => ?_
  subst e2
  refine E3 G2 (s1.trans s2) _ fun x3 G3 ⟨s3, e3⟩ => ?_
  subst e3
  refine ⟨by show 4 ≤ sizeLine; decide, fun t ht => ?_⟩
  have t1 := same_new (o := .tup [.ref a, x3, x3, .str s]) ht
  have S := ((s1.trans s2).trans s3).trans t1
  refine ⟨l, rs, .ref t, rfl, rfl, S _ _ hl, by rw [sizeLine_eq]; omega, ?_⟩
  refine k _ _ (fun b o e hb => by rw [upd_ne hb]; exact S _ _ e) upd_same (RowAt.but (S _ _ hl) (fun b o e hb => by rw [upd_ne hb]; exact e) ⟨t, a, rfl, upd_same, (x.same (s2.trans s3)).same t1⟩)
end
end G

/-! The program's checks that raise an error of its own with the wrong value. -/
namespace LW
open PySem L2 G
abbrev eWord : Stmt := inClass (top 16) 0
abbrev eChain : Stmt := inClass (top 17) 0
abbrev eStretch : Stmt := inClass (top 18) 0
abbrev pCheckW : Stmt := top 35
abbrev pCheckS : Stmt := top 36
abbrev pDays : Stmt := top 37
/-- an error class with the field value -/
structure Er (P : Program) (w : World) (K : PySem.W.Frag) (mg : Str → Option Value) (base : Heap) (x : Str) (C fI : Addr) (fd : FuncData) : Prop where
  g : mg x = some (.ref C)
  T : OexC K C
  iC : PySem.W.findIn K (.ref C) "__init__" = some (some (.ref fI))
  tI : PySem.W.typeIn K (.ref fI) = some (.type "function")
  I : FnOk P w K mg base CX0 1 fI fd ["self", "value"] (spF1 C "value")
  b : Binds K fd ["self", "value"] []
section
variable {P : Program} {w : World} {K : PySem.W.Frag} {mg : Str → Option Value} {base : Heap} {C fI : Addr} {fd : FuncData}
theorem scE1 : FnScope ["self", "value"] ["self", "value"] (defScope eWord) := ⟨rfl, rfl, rfl, by decide +kernel, rfl, by decide +kernel, by decide +kernel⟩
theorem scE2 : FnScope ["self", "value"] ["self", "value"] (defScope eChain) := ⟨rfl, rfl, rfl, by decide +kernel, rfl, by decide +kernel, by decide +kernel⟩
theorem scE3 : FnScope ["self", "value"] ["self", "value"] (defScope eStretch) := ⟨rfl, rfl, rfl, by decide +kernel, rfl, by decide +kernel, by decide +kernel⟩
theorem er_word (g : mg "InvalidWord" = some (.ref C)) (T : OexC K C) (nf : PySem.W.findIn K (.ref C) "value" = some none) (iC : PySem.W.findIn K (.ref C) "__init__" = some (some (.ref fI))) (tI : PySem.W.typeIn K (.ref fI) = some (.type "function"))
    (F : Fun K "__init__" "InvalidWord.__init__" eWord fI fd) : Er P w K mg base "InvalidWord" C fI fd := by
  refine ⟨g, T, iC, tI, F.ok scE1 (fun vs H Q E h => ?_) (fun cdv A outer s H vs Q E hr h => ?_), F.binds fun _ _ _ _ _ _ us hl => match us, hl with | [_, _], _ => rfl⟩
  · obtain ⟨a, v, rfl, _⟩ := h
    rfl
  · obtain ⟨a, v, rfl, ea, q⟩ := h
    exact ⟨_, pss_one (ps_ost (pv 0) (pv 1)), ⟨_, rfl, _, rfl, a, C, rfl, T, nf, .inl ⟨ea, fun d n ne => q d n ne⟩⟩⟩
theorem er_chain (g : mg "InvalidChain" = some (.ref C)) (T : OexC K C) (nf : PySem.W.findIn K (.ref C) "value" = some none) (iC : PySem.W.findIn K (.ref C) "__init__" = some (some (.ref fI))) (tI : PySem.W.typeIn K (.ref fI) = some (.type "function"))
    (F : Fun K "__init__" "InvalidChain.__init__" eChain fI fd) : Er P w K mg base "InvalidChain" C fI fd := by
  refine ⟨g, T, iC, tI, F.ok scE2 (fun vs H Q E h => ?_) (fun cdv A outer s H vs Q E hr h => ?_), F.binds fun _ _ _ _ _ _ us hl => match us, hl with | [_, _], _ => rfl⟩
  · obtain ⟨a, v, rfl, _⟩ := h
    rfl
  · obtain ⟨a, v, rfl, ea, q⟩ := h
    exact ⟨_, pss_one (ps_ost (pv 0) (pv 1)), ⟨_, rfl, _, rfl, a, C, rfl, T, nf, .inl ⟨ea, fun d n ne => q d n ne⟩⟩⟩
theorem er_stretch (g : mg "InvalidStretch" = some (.ref C)) (T : OexC K C) (nf : PySem.W.findIn K (.ref C) "value" = some none) (iC : PySem.W.findIn K (.ref C) "__init__" = some (some (.ref fI))) (tI : PySem.W.typeIn K (.ref fI) = some (.type "function"))
    (F : Fun K "__init__" "InvalidStretch.__init__" eStretch fI fd) : Er P w K mg base "InvalidStretch" C fI fd := by
  refine ⟨g, T, iC, tI, F.ok scE3 (fun vs H Q E h => ?_) (fun cdv A outer s H vs Q E hr h => ?_), F.binds fun _ _ _ _ _ _ us hl => match us, hl with | [_, _], _ => rfl⟩
  · obtain ⟨a, v, rfl, _⟩ := h
    rfl
  · obtain ⟨a, v, rfl, ea, q⟩ := h
    exact ⟨_, pss_one (ps_ost (pv 0) (pv 1)), ⟨_, rfl, _, rfl, a, C, rfl, T, nf, .inl ⟨ea, fun d n ne => q d n ne⟩⟩⟩
/-- what is wished of such an error of the value v, raised from H on -/
def Wants (E : XK) (C : Addr) (v : V) (H : Hp) : Prop := ∀ (d : Addr) (H' : Hp), Same H H' → H d = none → H' d = some (.xd [("value", v)]) → E (.ref C) (some d) H'
theorem Wants.same {E : XK} {C : Addr} {v : V} {H H' : Hp} (h : Wants E C v H) (s : Same H H') : Wants E C v H' := fun d G t n e => h d G (s.trans t) (s.free n) e
/-- the reading of «raise X(v)» -/
theorem mk_er {σ : L2.St} {H : Hp} {Q : XK} {ta : TA} {v : V} (ht : ∀ R : List V → Hp → Prop, R [v] H → ta σ H R) (h : Wants Q C v H) : tMkO C (spF1 C "value") [] ta σ H Q := by
  refine ht _ ⟨by show 1 ≤ 1000; decide, fun a na => ?_⟩
  refine ⟨a, v, rfl, upd_same, fun d nd ne => ⟨rfl, d, [("value", v)], upd_same, by rw [upd_ne ne, upd_same], ?_, ?_⟩⟩
  · rw [upd_ne ne] at nd
    exact nd
  · have nd' : H d = none := by
      rw [upd_ne ne] at nd
      exact nd
    refine h d _ (fun b o e => ?_) nd' upd_same
    have b1 : b ≠ a := ne_of_none e na
    have b2 : b ≠ d := ne_of_none e nd'
    rw [upd_ne b2, del_ne b1, upd_ne b1, upd_ne b2, upd_ne b1]
    exact e
end
end LW

namespace LW
open PySem L2 G
def okStr (d : PyData) : Prop := ∀ z, d = .str z → z.length ≤ sizeLine ∧ PyData.strOk z = true
def okTup (d : PyData) : Prop := ∀ ds, d = .tuple ds → strsOk ds ∧ ds.length ≤ 100000
def spCheckW (K : PySem.W.Frag) (C : Addr) : Sp := fun vs H Q E => ∃ (v : V) (d : PyData), vs = [v] ∧ Da K H v d ∧ okStr d ∧ (isWordD d = true → ∀ H', Same H H' → Q .non H') ∧ (isWordD d = false → Wants E C v H)
def spCheckS (K : PySem.W.Frag) (C : Addr) : Sp := fun vs H Q E => ∃ (v : V) (d : PyData), vs = [v] ∧ Da K H v d ∧ (isStretchD d = true → Q .non H) ∧ (isStretchD d = false → Wants E C v H)
/-- the stretch that days stand for -/
def spDays (K : PySem.W.Frag) (C : Addr) : Sp := fun vs H Q E => ∃ (v : V) (d : PyData), vs = [v] ∧ Da K H v d ∧ (d = .none → ∀ q, H q = none → Q (.ref q) (upd H q (.tup [.int 0, .int (10 ^ 30)]))) ∧ (isStretchD d = true → Q v H) ∧ (d ≠ .none → isStretchD d = false → Wants E C v H)
section
variable {P : Program} {w : World} {K : PySem.W.Frag} {mg : Str → Option Value} {base : Heap}
variable {fW fS fI C : Addr} {fdW fdS fdI : FuncData}
theorem scCheckW : FnScope ["value"] ["value"] (defScope pCheckW) := ⟨rfl, rfl, rfl, by decide +kernel, rfl, by decide +kernel, by decide +kernel⟩
theorem scCheckS : FnScope ["value"] ["value"] (defScope pCheckS) := ⟨rfl, rfl, rfl, by decide +kernel, rfl, by decide +kernel, by decide +kernel⟩
theorem scDays : FnScope ["value"] ["value"] (defScope pDays) := ⟨rfl, rfl, rfl, by decide +kernel, rfl, by decide +kernel, by decide +kernel⟩
theorem ok_checkW {f : Addr} {fd : FuncData} (F : Fun K "_check_word" "_check_word" pCheckW f fd) (R : Er P w K mg base "InvalidWord" C fI fdI)
    (GW : FnOk P w K mg base CX0 1 fW fdW ["value"] (spIsWord K)) (mW : mg "is_word" = some (.ref fW)) (kW : PySem.W.keepIn K (.ref fW) = true) (bW : Binds K fdW ["value"] []) :
    FnOk P w K mg base (L2.CX P w) 3 f fd ["value"] (spCheckW K C) := by
  refine F.okX scCheckW (fun vs H Q E h => ?_) (fun cdv A outer s H vs Q E hr h => ?_)
  · obtain ⟨v, d, rfl, _⟩ := h
    rfl
  · obtain ⟨v, d, rfl, hd, hz, k1, k2⟩ := h
    refine ⟨_, pss_one (ps_if (pt_not (pt_val (pe_call GW (hr.mono (by decide)) (by rfl) mW kW bW .nil pass0 (pa_cons (pv 0) pa_nil))))
      (pss_one (ps_raise rfl (takes_of rfl rfl rfl rfl) (pmk_oex (C := C) (fI := fI) R.T R.iC R.tI R.I hr R.b .nil pass0 (by rfl) R.g (pa_cons (pv 0) pa_nil)))) pss_nil), ?_⟩
    refine ⟨_, rfl, v, d, rfl, hd, hz, fun H' S => ⟨_, rfl, ?_⟩⟩
    cases hw : isWordD d with
    | true => exact iteF (k1 hw H' S)
    | false => exact iteT (mk_er (fun R h => ⟨_, rfl, h⟩) ((k2 hw).same S))
theorem ok_checkS {f : Addr} {fd : FuncData} (F : Fun K "_check_stretch" "_check_stretch" pCheckS f fd) (R : Er P w K mg base "InvalidStretch" C fI fdI)
    (GS : FnOk P w K mg base CX0 2 fS fdS ["value"] (spIsStretch K)) (mS : mg "is_stretch" = some (.ref fS)) (kS : PySem.W.keepIn K (.ref fS) = true) (bS : Binds K fdS ["value"] []) :
    FnOk P w K mg base (L2.CX P w) 3 f fd ["value"] (spCheckS K C) := by
  refine F.okX scCheckS (fun vs H Q E h => ?_) (fun cdv A outer s H vs Q E hr h => ?_)
  · obtain ⟨v, d, rfl, _⟩ := h
    rfl
  · obtain ⟨v, d, rfl, hd, k1, k2⟩ := h
    refine ⟨_, pss_one (ps_if (pt_not (pt_val (pe_call GS (hr.mono (by decide)) (by rfl) mS kS bS .nil pass0 (pa_cons (pv 0) pa_nil))))
      (pss_one (ps_raise rfl (takes_of rfl rfl rfl rfl) (pmk_oex (C := C) (fI := fI) R.T R.iC R.tI R.I hr R.b .nil pass0 (by rfl) R.g (pa_cons (pv 0) pa_nil)))) pss_nil), ?_⟩
    refine ⟨_, rfl, v, d, rfl, hd, _, rfl, ?_⟩
    cases hw : isStretchD d with
    | true => exact iteF (k1 hw)
    | false => exact iteT (mk_er (fun R h => ⟨_, rfl, h⟩) (k2 hw))
theorem ok_days {f : Addr} {fd : FuncData} (F : Fun K "_checked_days" "_checked_days" pDays f fd) (B : Pb mg)
    (GC : FnOk P w K mg base (L2.CX P w) 3 fS fdS ["value"] (spCheckS K C)) (mC : mg "_check_stretch" = some (.ref fS)) (kC : PySem.W.keepIn K (.ref fS) = true) (bC : Binds K fdS ["value"] []) :
    FnOk P w K mg base (L2.CX P w) 4 f fd ["value"] (spDays K C) := by
  refine F.okX scDays (fun vs H Q E h => ?_) (fun cdv A outer s H vs Q E hr h => ?_)
  · obtain ⟨v, d, rfl, _⟩ := h
    rfl
  · obtain ⟨v, d, rfl, hd, k1, k2, k3⟩ := h
    obtain ⟨tL, mL⟩ := B.limit
    refine ⟨_, pss_cons (ps_if (pt_cmpR op_isN (pv 0) pe_non (nomark _)) (pss_one (ps_ret (pe_tup (pa_cons pe_int (pa_cons (pe_glob (v := .int (10 ^ 30)) (by rfl) mL ⟨_, rfl⟩) pa_nil))))) pss_nil)
      (pss_cons (ps_expr (pe_call GC hr (by rfl) mC kC bC .nil (passes_call (takes_of rfl rfl rfl rfl) (fun _ _ _ _ h => h)) (pa_cons (pv 0) pa_nil)))
      (pss_one (ps_ret (pv 0)))), ?_⟩
    refine ⟨_, rfl, rfl, ?_⟩
    by_cases hn : d = .none
    · subst hn
      cases hd
      refine ⟨_, rfl, iteT ⟨by show 2 ≤ sizeLine; decide, fun q hq => ?_⟩⟩
      exact k1 rfl q hq
    · have nv : v ≠ V.non := fun z => by
        subst z
        cases hd
        exact hn rfl
      refine ⟨_, rfl, ?_⟩
      rw [decide_eq_false nv]
      refine iteF ⟨_, rfl, v, d, rfl, hd, fun hw => ⟨_, rfl, k2 hw⟩, fun hw => k3 hn hw⟩
end
end LW

/-! The texts of statements. -/
namespace LW
open PySem L2 G
abbrev pNText : Stmt := top 25
abbrev pCText : Stmt := top 27
abbrev pDText : Stmt := top 29
def chainT (ws : List Str) : Str := Txt.join " " ws
def daysT (i j : Int) : Str := if i = 0 ∧ j = 10 ^ 30 then "" else Str.empty ++ " @ " ++ Str.ofString (toString i) ++ " " ++ Str.ofString (toString j)
def namT (p n : Str) (ws : List Str) (i j : Int) : Str := Str.empty ++ p ++ " " ++ n ++ " = " ++ chainT ws ++ daysT i j
theorem sl (a b : Str) : (a ++ b).length = a.length + b.length := by
  rw [← len_list, ← len_list, ← len_list, PyProof.Rows.cps_toList_append, List.length_append]
theorem join_len (sep : Str) : ∀ l : List Str, (Str.join sep l).length ≤ (l.map (·.length)).sum + l.length * sep.length
  | [] => Nat.zero_le _
  | [a] => by
    show a.length ≤ _
    simp only [List.map_cons, List.map_nil, List.sum_cons, List.sum_nil, List.length_cons, List.length_nil]
    omega
  | a :: b :: r => by
    have h := join_len sep (b :: r)
    show (a ++ sep ++ Str.join sep (b :: r)).length ≤ _
    rw [sl, sl]
    simp only [List.map_cons, List.sum_cons, List.length_cons] at h ⊢
    have e : (r.length + 1 + 1) * sep.length = (r.length + 1) * sep.length + sep.length := Nat.succ_mul _ _
    omega
theorem blank : (Str.ofString " ").length = 1 := by decide +kernel
theorem chainT_len {ws : List Str} : (chainT ws).length ≤ (ws.map (·.length)).sum + ws.length := by
  unfold chainT
  rw [show Txt.join (Str.ofString " ") ws = Str.join (Str.ofString " ") ws from StrLaws.glued_eq_join _ _]
  have h := join_len (Str.ofString " ") ws
  rw [blank, Nat.mul_one] at h
  exact h
theorem num_len {i : Int} (h0 : 0 ≤ i) (h1 : i ≤ 10 ^ 30) : (Str.ofString (toString i)).length ≤ 31 := PyProof.Rows.toString_length_le h0 (by decide) (Int.lt_of_le_of_lt h1 (by decide +kernel))
theorem num_log {i : Int} (h0 : 0 ≤ i) (h1 : i ≤ 10 ^ 30) : i.natAbs.log2 < 1920 := by
  by_cases z : i.natAbs = 0
  · rw [z]
    decide +kernel
  · refine (Nat.log2_lt z).mpr ?_
    have a : (i.natAbs : Int) ≤ 10 ^ 30 := by omega
    have b : i.natAbs ≤ 10 ^ 30 := by exact_mod_cast a
    exact Nat.lt_of_le_of_lt b (by decide +kernel)
theorem daysT_len {i j : Int} (i0 : 0 ≤ i) (i1 : i ≤ 10 ^ 30) (j0 : 0 ≤ j) (j1 : j ≤ 10 ^ 30) : (daysT i j).length ≤ 66 := by
  unfold daysT
  split
  · decide +kernel
  · have a := num_len i0 i1
    have b := num_len j0 j1
    have c : (Str.ofString " @ ").length = 3 := by decide +kernel
    have d : (Str.empty).length = 0 := rfl
    rw [sl, sl, sl, sl, blank, c, d]
    omega
def spCText (K : PySem.W.Frag) : Sp := fun vs H Q _ => ∃ (a : Addr) (ws : List Str), vs = [.ref a] ∧ SqT K H a (ws.map V.str) ∧ (ws.map (·.length)).sum + ws.length ≤ 100000 ∧ Q (.str (chainT ws)) H
def spDText (K : PySem.W.Frag) : Sp := fun vs H Q _ => ∃ (a : Addr) (i j : Int), vs = [.ref a] ∧ SqT K H a [.int i, .int j] ∧ 0 ≤ i ∧ i ≤ 10 ^ 30 ∧ 0 ≤ j ∧ j ≤ 10 ^ 30 ∧ Q (.str (daysT i j)) H
def spNText (K : PySem.W.Frag) : Sp := fun vs H Q _ => ∃ (p n : Str) (c d : Addr) (ws : List Str) (i j : Int), vs = [.str p, .str n, .ref c, .ref d] ∧ p.length ≤ 1000 ∧ n.length ≤ 1000 ∧ SqT K H c (ws.map V.str) ∧ (ws.map (·.length)).sum + ws.length ≤ 100000 ∧
  SqT K H d [.int i, .int j] ∧ 0 ≤ i ∧ i ≤ 10 ^ 30 ∧ 0 ≤ j ∧ j ≤ 10 ^ 30 ∧ Q (.str (namT p n ws i j)) H
section
variable {P : Program} {w : World} {K : PySem.W.Frag} {mg : Str → Option Value} {base : Heap}
variable {fC fD : Addr} {fdC fdD : FuncData}
theorem scCText : FnScope ["chain"] ["chain"] (defScope pCText) := ⟨rfl, rfl, rfl, by decide +kernel, rfl, by decide +kernel, by decide +kernel⟩
theorem scDText : FnScope ["days", "first", "last"] ["days"] (defScope pDText) := ⟨rfl, rfl, rfl, by decide +kernel, rfl, by decide +kernel, by decide +kernel⟩
theorem scNText : FnScope ["person", "name", "chain", "days"] ["person", "name", "chain", "days"] (defScope pNText) := ⟨rfl, rfl, rfl, by decide +kernel, rfl, by decide +kernel, by decide +kernel⟩
theorem ok_ctext {f : Addr} {fd : FuncData} (F : Fun K "_chain_text" "_chain_text" pCText f fd) : FnOk P w K mg base CX0 1 f fd ["chain"] (spCText K) := by
  refine F.ok scCText (fun vs H Q E h => ?_) (fun cdv A outer s H vs Q E hr h => ?_)
  · obtain ⟨a, ws, rfl, _⟩ := h
    rfl
  · obtain ⟨a, ws, rfl, hS, few, k⟩ := h
    refine ⟨_, pss_one (ps_ret (pe_join pe_str (pv 0))), ?_⟩
    refine ⟨⟨_, rfl⟩, _, rfl, _, a, ws, rfl, rfl, .inr hS, ?_, k⟩
    rw [blank]
    omega
theorem ok_dtext {f : Addr} {fd : FuncData} (F : Fun K "_days_text" "_days_text" pDText f fd) (B : Pb mg) : FnOk P w K mg base CX0 1 f fd ["days"] (spDText K) := by
  refine F.ok scDText (fun vs H Q E h => ?_) (fun cdv A outer s H vs Q E hr h => ?_)
  · obtain ⟨a, i, j, rfl, _⟩ := h
    rfl
  · obtain ⟨a, i, j, rfl, hS, i0, i1, j0, j1, k⟩ := h
    obtain ⟨tL, mL⟩ := B.limit
    refine ⟨_, pss_cons (ps_asg (pv 0) (pg_tup (n := 2) rfl (pgs_cons (pg_name (i := 1) scDText.nd rfl (Or.inl rfl)) (pgs_cons (pg_name (i := 2) scDText.nd rfl (Or.inl rfl)) pgs_nil))))
      (pss_cons (ps_if (PW.pt (pw_and (pt_cmpR op_eq (pv 1) pe_int (nomark _)) (pw_and1 (pt_cmpR op_eq (pv 2) (pe_glob (v := .int (10 ^ 30)) (by rfl) mL ⟨_, rfl⟩) (nomark _))))) (pss_one (ps_ret pe_str)) pss_nil)
      (pss_one (ps_ret (pe_joined (.cons pe_str (.cons (pe_fmt (pv 1)) (.cons pe_str (.cons (pe_fmt (pv 2)) .nil)))))))), ?_⟩
    refine ⟨_, rfl, a, _, rfl, hS, rfl, _, _, rfl, _, _, rfl, rfl, ?_⟩
    have rest : ¬ (i = 0 ∧ j = 10 ^ 30) → Q (.str (Str.empty ++ " @ " ++ Str.ofString (toString i) ++ " " ++ Str.ofString (toString j))) H := fun n => by
      unfold daysT at k
      rw [if_neg n] at k
      exact k
    have a1 := num_len i0 i1
    have a2 := num_len j0 j1
    have a3 : (Str.ofString " @ ").length = 3 := by decide +kernel
    have a4 : (Str.empty).length = 0 := rfl
    have tail : ∀ (n : ¬ (i = 0 ∧ j = 10 ^ 30)), tJs [tC (.str " @ "), tFmt (tVar 1), tC (.str " "), tFmt (tVar 2)] Str.empty [some (.ref a), some (.int i), some (.int j)] H fun out H1 => Q (.str out) H1 := fun n => by
      refine ⟨_, rfl, ?_, _, rfl, .inr ⟨i, rfl, num_log i0 i1, _, rfl, ?_, _, rfl, ?_, _, rfl, .inr ⟨j, rfl, num_log j0 j1, _, rfl, ?_, rest n⟩⟩⟩
      · rw [sl, a3, a4, sizeLine_eq]; omega
      · rw [sl, sl, a3, a4, sizeLine_eq]; omega
      · rw [sl, sl, sl, a3, a4, blank, sizeLine_eq]; omega
      · rw [sl, sl, sl, sl, a3, a4, blank, sizeLine_eq]; omega
    refine ⟨_, rfl, rfl, _, rfl, ?_⟩
    by_cases hi : i = 0
    · rw [decide_eq_true (show V.int i = V.int 0 by rw [hi])]
      refine iteT ⟨_, rfl, rfl, _, rfl, ?_⟩
      by_cases hj : j = 10 ^ 30
      · rw [decide_eq_true (show V.int j = V.int (10 ^ 30) by rw [hj])]
        refine iteT ?_
        unfold daysT at k
        rw [if_pos ⟨hi, hj⟩] at k
        exact k
      · rw [decide_eq_false (show ¬ V.int j = V.int (10 ^ 30) from fun z => hj (V.int.inj z))]
        exact iteF (tail fun z => hj z.2)
    · rw [decide_eq_false (show ¬ V.int i = V.int 0 from fun z => hi (V.int.inj z))]
      exact iteF (tail fun z => hi z.1)
theorem ok_ntext {f : Addr} {fd : FuncData} (F : Fun K "naming_text" "naming_text" pNText f fd) (GC : FnOk P w K mg base CX0 1 fC fdC ["chain"] (spCText K)) (mC : mg "_chain_text" = some (.ref fC)) (kC : PySem.W.keepIn K (.ref fC) = true) (bC : Binds K fdC ["chain"] [])
    (GD : FnOk P w K mg base CX0 1 fD fdD ["days"] (spDText K)) (mD : mg "_days_text" = some (.ref fD)) (kD : PySem.W.keepIn K (.ref fD) = true) (bD : Binds K fdD ["days"] []) : FnOk P w K mg base CX0 2 f fd ["person", "name", "chain", "days"] (spNText K) := by
  refine F.ok scNText (fun vs H Q E h => ?_) (fun cdv A outer s H vs Q E hr h => ?_)
  · obtain ⟨p, n, c, d, ws, i, j, rfl, _⟩ := h
    rfl
  · obtain ⟨p, n, c, d, ws, i, j, rfl, lp, ln, hS, few, hD, i0, i1, j0, j1, k⟩ := h
    refine ⟨_, pss_one (ps_ret (pe_joined (.cons (pe_fmt (pv 0)) (.cons pe_str (.cons (pe_fmt (pv 1)) (.cons pe_str (.cons (pe_fmt (pe_call GC hr (by rfl) mC kC bC .nil pass0 (pa_cons (pv 2) pa_nil)))
      (.cons (pe_fmt (pe_call GD hr (by rfl) mD kD bD .nil pass0 (pa_cons (pv 3) pa_nil))) .nil)))))))), ?_⟩
    have a1 := chainT_len (ws := ws)
    have a2 := daysT_len i0 i1 j0 j1
    have a3 : (Str.ofString " = ").length = 3 := by decide +kernel
    have a4 : (Str.empty).length = 0 := rfl
    refine ⟨_, rfl, .inl ⟨p, rfl, by rw [sizeLine_eq]; omega, _, rfl, ?_, _, rfl, ?_, _, rfl, .inl ⟨n, rfl, by rw [sizeLine_eq]; omega, _, rfl, ?_, _, rfl, ?_,
      _, rfl, c, ws, rfl, hS, few, .inl ⟨_, rfl, by rw [sizeLine_eq]; omega, _, rfl, ?_, _, rfl, d, i, j, rfl, hD, i0, i1, j0, j1, .inl ⟨_, rfl, by rw [sizeLine_eq]; omega, _, rfl, ?_, k⟩⟩⟩⟩⟩
    · rw [sl, a4, sizeLine_eq]; omega
    · rw [sl, sl, a4, blank, sizeLine_eq]; omega
    · rw [sl, sl, sl, a4, blank, sizeLine_eq]; omega
    · rw [sl, sl, sl, sl, a3, a4, blank, sizeLine_eq]; omega
    · rw [sl, sl, sl, sl, sl, a3, a4, blank, sizeLine_eq]; omega
    · rw [sl, sl, sl, sl, sl, sl, a3, a4, blank, sizeLine_eq]; omega
end
end LW

/-! Statement and Naming: their __init__. -/
namespace LW
open PySem L2 G
abbrev sStI : Stmt := inClass (top 32) 0
abbrev sNmI : Stmt := inClass (top 33) 0
/-- the attributes of a Naming -/
def fsN (p n c d : V) (t : Str) : List (Str × V) := [("_person", p), ("_days", d), ("_text", .str t), ("_name", n), ("_chain", c)]
/-- what the class of Namings says -/
structure NamC (K : PySem.W.Frag) (C : Addr) : Prop where
  cl : Cls K C
  n1 : NoAttr K C "_person"
  n2 : NoAttr K C "_days"
  n3 : NoAttr K C "_text"
  n4 : NoAttr K C "_name"
  n5 : NoAttr K C "_chain"
theorem word_inv {d : PyData} (h : isWordD d = true) : ∃ z, d = .str z ∧ 1 ≤ z.length ∧ z.length ≤ 8 := by
  cases d with
  | str z =>
    have h2 : (decide (1 ≤ z.length) && decide (z.length ≤ 8) && lettersB z.cps.toList) = true := h
    simp only [Bool.and_eq_true, decide_eq_true_eq] at h2
    exact ⟨z, rfl, h2.1.1, h2.1.2⟩
  | _ => cases h
theorem words_inv : ∀ {ds : List PyData}, ds.all isWordD = true → ∃ ws : List Str, ds = ws.map PyData.str ∧ ∀ z ∈ ws, z.length ≤ 8
  | [], _ => ⟨[], rfl, by simp⟩
  | d :: ds, h => by
    rw [List.all_cons, Bool.and_eq_true] at h
    obtain ⟨z, rfl, _, h8⟩ := word_inv h.1
    obtain ⟨ws, rfl, hw⟩ := words_inv h.2
    exact ⟨z :: ws, rfl, fun y hy => by
      rcases List.mem_cons.mp hy with rfl | hy
      · exact h8
      · exact hw y hy⟩
theorem chain_inv {d : PyData} {tp : Int} (h : isChainD d tp = true) : ∃ ws : List Str, d = .tuple (ws.map PyData.str) ∧ 1 ≤ ws.length ∧ (ws.length : Int) ≤ tp + 1 ∧ ∀ z ∈ ws, z.length ≤ 8 := by
  cases d with
  | tuple ds =>
    have h2 : (decide (1 ≤ ds.length) && decide ((ds.length : Int) ≤ tp + 1) && ds.all isWordD) = true := h
    simp only [Bool.and_eq_true, decide_eq_true_eq] at h2
    obtain ⟨ws, rfl, hw⟩ := words_inv h2.2
    refine ⟨ws, rfl, ?_, ?_, hw⟩
    · simpa using h2.1.1
    · simpa using h2.1.2
  | _ => cases h
theorem stretch_inv {d : PyData} (h : isStretchD d = true) : ∃ i j : Int, d = .tuple [.int i, .int j] ∧ 0 ≤ i ∧ i ≤ j ∧ j ≤ 10 ^ 30 := by
  unfold isStretchD at h
  split at h
  · rename_i a b
    rw [Bool.and_eq_true, Bool.and_eq_true] at h
    obtain ⟨⟨ha, hb⟩, hc⟩ := h
    obtain ⟨i, rfl⟩ : ∃ i, a = .int i := by
      cases a with
      | int i => exact ⟨i, rfl⟩
      | _ => cases ha
    obtain ⟨j, rfl⟩ : ∃ j, b = .int j := by
      cases b with
      | int j => exact ⟨j, rfl⟩
      | _ => cases hb
    have h1 : (decide (0 ≤ i) && decide (i ≤ 10 ^ 30)) = true := ha
    have h2 : (decide (0 ≤ j) && decide (j ≤ 10 ^ 30)) = true := hb
    rw [Bool.and_eq_true] at h1 h2
    exact ⟨i, j, rfl, of_decide_eq_true h1.1, of_decide_eq_true hc, of_decide_eq_true h2.2⟩
  · cases h
theorem da_strs {K : PySem.W.Frag} {H : Hp} : ∀ {xs : List V} {ws : List Str}, DaAll K H xs (ws.map PyData.str) → xs = ws.map V.str
  | [], [], _ => rfl
  | x :: xs, w :: ws, .cons a b => by
    cases a
    rw [da_strs b]
    rfl
theorem da_chain {K : PySem.W.Frag} {H : Hp} {v : V} {ws : List Str} (h : Da K H v (.tuple (ws.map PyData.str))) : ∃ a, v = .ref a ∧ SqT K H a (ws.map V.str) := by
  cases h with
  | tup s a =>
    have e := da_strs a
    subst e
    exact ⟨_, rfl, s⟩
theorem da_pair {K : PySem.W.Frag} {H : Hp} {v : V} {i j : Int} (h : Da K H v (.tuple [.int i, .int j])) : ∃ a, v = .ref a ∧ SqT K H a [.int i, .int j] := by
  cases h with
  | tup s a =>
    cases a with
    | cons p q =>
      cases q with
      | cons p' q' =>
        cases q'
        cases p
        cases p'
        exact ⟨_, rfl, s⟩
theorem sum_le8 : ∀ {ws : List Str}, (∀ z ∈ ws, z.length ≤ 8) → (ws.map (·.length)).sum ≤ 8 * ws.length
  | [], _ => by simp
  | w :: ws, h => by
    have a := h w List.mem_cons_self
    have b := sum_le8 fun z hz => h z (List.mem_cons_of_mem _ hz)
    simp only [List.map_cons, List.sum_cons, List.length_cons]
    omega
section
variable {P : Program} {w : World} {K : PySem.W.Frag} {mg : Str → Option Value} {base : Heap}
theorem scStI : FnScope ["self", "person", "days", "text"] ["self", "person", "days", "text"] (defScope sStI) := ⟨rfl, rfl, rfl, by decide +kernel, rfl, by decide +kernel, by decide +kernel⟩
abbrev f1 (p : V) : List (Str × V) := [("_person", p)]
abbrev f2 (p d : V) : List (Str × V) := [("_person", p), ("_days", d)]
abbrev f3 (p d t : V) : List (Str × V) := [("_person", p), ("_days", d), ("_text", t)]
abbrev f4 (p d t n : V) : List (Str × V) := [("_person", p), ("_days", d), ("_text", t), ("_name", n)]
abbrev f5 (p d t n c : V) : List (Str × V) := [("_person", p), ("_days", d), ("_text", t), ("_name", n), ("_chain", c)]
theorem put1 {p : V} : putF "_person" p [] = f1 p := rfl
theorem put2 {p d : V} : putF "_days" d (f1 p) = f2 p d := by
  have h : ¬ (Str.ofString "_person" = Str.ofString "_days") := by decide +kernel
  simp [putF, h]
theorem put3 {p d t : V} : putF "_text" t (f2 p d) = f3 p d t := by
  have h1 : ¬ (Str.ofString "_person" = Str.ofString "_text") := by decide +kernel
  have h2 : ¬ (Str.ofString "_days" = Str.ofString "_text") := by decide +kernel
  simp [putF, h1, h2]
theorem put4 {p d t n : V} : putF "_name" n (f3 p d t) = f4 p d t n := by
  have h1 : ¬ (Str.ofString "_person" = Str.ofString "_name") := by decide +kernel
  have h2 : ¬ (Str.ofString "_days" = Str.ofString "_name") := by decide +kernel
  have h3 : ¬ (Str.ofString "_text" = Str.ofString "_name") := by decide +kernel
  simp [putF, h1, h2, h3]
theorem put5 {p d t n c : V} : putF "_chain" c (f4 p d t n) = f5 p d t n c := by
  have h1 : ¬ (Str.ofString "_person" = Str.ofString "_chain") := by decide +kernel
  have h2 : ¬ (Str.ofString "_days" = Str.ofString "_chain") := by decide +kernel
  have h3 : ¬ (Str.ofString "_text" = Str.ofString "_chain") := by decide +kernel
  have h4 : ¬ (Str.ofString "_name" = Str.ofString "_chain") := by decide +kernel
  simp [putF, h1, h2, h3, h4]
def spStatC (K : PySem.W.Frag) (C : Addr) : Sp := fun vs H Q _ => ∃ (a dx : Addr) (p d t : V), vs = [.ref a, p, d, t] ∧ H a = some (.ins C dx []) ∧ Q .non (upd H a (.ins C dx [("_person", p), ("_days", d), ("_text", t)]))
theorem ok_statI {C : Addr} {f : Addr} {fd : FuncData} (F : Fun K "__init__" "Statement.__init__" sStI f fd) (c : Cls K C) (n1 : NoAttr K C "_person") (n2 : NoAttr K C "_days") (n3 : NoAttr K C "_text") : FnOk P w K mg base CX0 1 f fd ["self", "person", "days", "text"] (spStatC K C) := by
  refine F.ok scStI (fun vs H Q E h => ?_) (fun cdv A outer s H vs Q E hr h => ?_)
  · obtain ⟨a, dx, p, d, t, rfl, _⟩ := h
    rfl
  · obtain ⟨a, dx, p, d, t, rfl, ea, k⟩ := h
    refine ⟨_, pss_cons (ps_fld (pv 0) (pv 1) rfl) (pss_cons (ps_fld (pv 0) (pv 2) rfl) (pss_one (ps_fld (pv 0) (pv 3) rfl))), ?_⟩
    refine ⟨_, rfl, _, rfl, a, C, dx, [], rfl, ea, c, n1, by decide, ?_⟩
    refine ⟨_, rfl, _, rfl, a, C, dx, _, rfl, upd_same, c, n2, by rw [put1]; show 1 < 1000; decide, ?_⟩
    refine ⟨_, rfl, _, rfl, a, C, dx, _, rfl, upd_same, c, n3, by rw [put1, put2]; show 2 < 1000; decide, ?_⟩
    rw [upd_upd, upd_upd, put1, put2, put3]
    exact k
end
end LW

/-! Data stay when an instance is written. -/
namespace G
open PySem PySem.Spec L2
open PySem.W (Frag)
section
variable {K : Frag} {H H' : Hp} {p C dx : Addr} {fs : List (Str × V)}
theorem sqT_but (hp : H p = some (.ins C dx fs)) (e : ∀ b o, H b = some o → b ≠ p → H' b = some o) {a : Addr} {xs : List V} (s : SqT K H a xs) : SqT K H' a xs := by
  rcases s with (s | ⟨o, s⟩) | s
  · exact .inl (.inl (e _ _ s (ne_of s hp (by intro z; cases z))))
  · exact .inl (.inr ⟨o, e _ _ s (ne_of s hp (by intro z; cases z))⟩)
  · exact .inr s
theorem sqL_but (hp : H p = some (.ins C dx fs)) (e : ∀ b o, H b = some o → b ≠ p → H' b = some o) {a : Addr} {xs : List V} (s : SqL K H a xs) : SqL K H' a xs := by
  rcases s with (s | ⟨o, s⟩) | s
  · exact .inl (.inl (e _ _ s (ne_of s hp (by intro z; cases z))))
  · exact .inl (.inr ⟨o, e _ _ s (ne_of s hp (by intro z; cases z))⟩)
  · exact .inr s
mutual
theorem Da.ins (hp : H p = some (.ins C dx fs)) (e : ∀ b o, H b = some o → b ≠ p → H' b = some o) : ∀ {v : V} {d : PyData}, Da K H v d → Da K H' v d
  | _, _, .non => .non
  | _, _, .bl b => .bl b
  | _, _, .int i => .int i
  | _, _, .str x => .str x
  | _, _, .lst n s a => .lst n (sqL_but hp e s) (DaAll.ins hp e a)
  | _, _, .tup s a => .tup (sqT_but hp e s) (DaAll.ins hp e a)
  | _, _, .dct s a b => .dct (e _ _ s (ne_of s hp (by intro z; cases z))) (DaAll.ins hp e a) (DaAll.ins hp e b)
theorem DaAll.ins (hp : H p = some (.ins C dx fs)) (e : ∀ b o, H b = some o → b ≠ p → H' b = some o) : ∀ {vs : List V} {ds : List PyData}, DaAll K H vs ds → DaAll K H' vs ds
  | _, _, .nil => .nil
  | _, _, .cons h t => .cons (Da.ins hp e h) (DaAll.ins hp e t)
end
end
end G

namespace LW
open PySem L2 G
/-- the stretch at st stands for the days vd -/
def StAt (K : PySem.W.Frag) (H : Hp) (vd st : V) (dd : PyData) : Prop := (dd ≠ .none ∧ st = vd) ∨ (dd = .none ∧ Da K H st (.tuple [.int 0, .int (10 ^ 30)]))
def strD : PyData → Str
  | .str z => z
  | _ => Str.empty
/-- the words of a chain -/
def wordsD : PyData → List Str
  | .tuple ds => ds.map strD
  | _ => []
/-- the two numbers of a stretch; None stands for all days -/
def intsD : PyData → Int × Int
  | .tuple [.int i, .int j] => (i, j)
  | _ => (0, 10 ^ 30)
def namTD (dp dn dc dd : PyData) : Str := namT (strD dp) (strD dn) (wordsD dc) (intsD dd).1 (intsD dd).2
theorem wordsD_chain (ws : List Str) : wordsD (.tuple (ws.map PyData.str)) = ws := by
  show (ws.map PyData.str).map _ = ws
  rw [List.map_map]
  exact List.map_id' _
/-- Naming's __init__: C the class of the new one, CW, CC, CS the errors' classes -/
def spNam (K : PySem.W.Frag) (C CW CC CS : Addr) : Sp := fun vs H Q E => ∃ (a dx : Addr) (vp vn vc vd : V) (dp dn dc dd : PyData), vs = [.ref a, vp, vn, vc, vd] ∧ H a = some (.ins C dx []) ∧ Da K H vp dp ∧ Da K H vn dn ∧ Da K H vc dc ∧ Da K H vd dd ∧
  okStr dp ∧ okStr dn ∧ okTup dc ∧
  (isWordD dp = false → Wants E CW vp H) ∧ (isWordD dp = true → isWordD dn = false → Wants E CW vn H) ∧ (isWordD dp = true → isWordD dn = true → isChainD dc 4 = false → Wants E CC vc H) ∧
  (isWordD dp = true → isWordD dn = true → isChainD dc 4 = true → dd ≠ .none → isStretchD dd = false → Wants E CS vd H) ∧
  (isWordD dp = true → isWordD dn = true → isChainD dc 4 = true → dd = .none ∨ isStretchD dd = true → ∀ (st : V) (H' : Hp), (∀ b o, H b = some o → b ≠ a → H' b = some o) → H' a = some (.ins C dx (f5 vp st (.str (namTD dp dn dc dd)) vn vc)) → StAt K H' vd st dd → Q .non H')
section
variable {P : Program} {w : World} {K : PySem.W.Frag} {mg : Str → Option Value} {base : Heap}
variable {C CW CC CS fW fC fD fS fT fI fE : Addr} {fdW fdC fdD fdS fdT fdI fdE : FuncData}
theorem scNmI : ScopeS ["self", "person", "name", "chain", "days", "stretch"] ["self", "person", "name", "chain", "days"] (defScope sNmI) := ⟨rfl, rfl, rfl, by decide +kernel, rfl, by decide +kernel, by decide +kernel, by decide +kernel, by decide +kernel, by decide +kernel, by decide +kernel⟩
theorem ok_namI {f : Addr} {fd : FuncData} (F : FunS K "__init__" "Naming.__init__" sNmI 1 C f fd) (B : Pb mg) (c : NamC K C)
    (GW : FnOk PySem.Challenge.pw_namechains_k79_statements_written_and_re w K mg base (L2.CX PySem.Challenge.pw_namechains_k79_statements_written_and_re w) 3 fW fdW ["value"] (spCheckW K CW)) (mW : mg "_check_word" = some (.ref fW)) (kW : PySem.W.keepIn K (.ref fW) = true) (bW : Binds K fdW ["value"] [])
    (GC : FnOk PySem.Challenge.pw_namechains_k79_statements_written_and_re w K mg base CX0 2 fC fdC ["value", "most"] (spIsChain K)) (mC : mg "is_chain" = some (.ref fC)) (kC : PySem.W.keepIn K (.ref fC) = true) (bC : Binds K fdC ["value", "most"] [])
    (R : Er PySem.Challenge.pw_namechains_k79_statements_written_and_re w K mg base "InvalidChain" CC fE fdE)
    (GD : FnOk PySem.Challenge.pw_namechains_k79_statements_written_and_re w K mg base (L2.CX PySem.Challenge.pw_namechains_k79_statements_written_and_re w) 4 fD fdD ["value"] (spDays K CS)) (mD : mg "_checked_days" = some (.ref fD)) (kD : PySem.W.keepIn K (.ref fD) = true) (bD : Binds K fdD ["value"] [])
    (GT : FnOk PySem.Challenge.pw_namechains_k79_statements_written_and_re w K mg base CX0 2 fT fdT ["person", "name", "chain", "days"] (spNText K)) (mT : mg "naming_text" = some (.ref fT)) (kT : PySem.W.keepIn K (.ref fT) = true) (bT : Binds K fdT ["person", "name", "chain", "days"] [])
    (Y : SupOk K mg C C fS) (GS : FnOk PySem.Challenge.pw_namechains_k79_statements_written_and_re w K mg base CX0 1 fS fdS ["self", "person", "days", "text"] (spStatC K C)) (bS : Binds K fdS ["self", "person", "days", "text"] []) :
    FnOk PySem.Challenge.pw_namechains_k79_statements_written_and_re w K mg base (L2.CX PySem.Challenge.pw_namechains_k79_statements_written_and_re w) 5 f fd ["self", "person", "name", "chain", "days"] (spNam K C CW CC CS) := by
  refine fun_okS (pre := (defBody sNmI).take 4) (sup := (defBody sNmI).getD 4 (.Pass ⟨0, 0, 0, 0⟩)) (post := (defBody sNmI).drop 5) F scNmI (fun vs H Q E h => ?_) rfl
    (fun oc od dV kV doc pm an cda cc ct osl cl cld csl ccl cdd vs0 ccs tf lk hcc hcd hv2 A outer s H vs Q E hr h => ?_)
  · obtain ⟨a, dx, vp, vn, vc, vd, dp, dn, dc, dd, rfl, _⟩ := h
    rfl
  · obtain ⟨a, dx, vp, vn, vc, vd, dp, dn, dc, dd, rfl, ea, hp, hn, hc, hd, op, on, oc', e1, e2, e3, e4, k⟩ := h
    obtain ⟨t4, m4⟩ := B.names
    have pass : Passes (L2.CX PySem.Challenge.pw_namechains_k79_statements_written_and_re w) (cxS (L2.CX PySem.Challenge.pw_namechains_k79_statements_written_and_re w) PySem.Challenge.pw_namechains_k79_statements_written_and_re w K mg base ["self", "person", "name", "chain", "days", "stretch"] "Naming.__init__" (defScope sNmI) f cda cc A outer s H E) E :=
      passes_call (takes_of rfl rfl rfl rfl) fun _ _ _ _ h => h
    refine ⟨_, _, _, pss_cons (ps_expr (pe_call GW (hr.mono (by decide)) (by rfl) mW kW bW .nil pass (pa_cons (pv 1) pa_nil)))
        (pss_cons (ps_expr (pe_call GW (hr.mono (by decide)) (by rfl) mW kW bW .nil pass (pa_cons (pv 2) pa_nil)))
        (pss_cons (ps_if (pt_not (pt_val (pe_call GC (hr.mono (by decide)) (by rfl) mC kC bC .nil pass0 (pa_cons (pv 3) (pa_cons (pe_glob (v := .int 4) (by rfl) m4 ⟨_, rfl⟩) pa_nil)))))
          (pss_one (ps_raise rfl (takes_of rfl rfl rfl rfl) (pmk_oex (C := CC) (fI := fE) R.T R.iC R.tI R.I (hr.mono (by decide)) R.b .nil pass0 (by rfl) R.g (pa_cons (pv 3) pa_nil)))) pss_nil)
        (pss_one (ps_set (i := 5) scNmI.nd rfl (Or.inl rfl) (pe_call GD hr (by rfl) mD kD bD .nil pass (pa_cons (pv 4) pa_nil)))))),
      fun pins z σ G Dn I ht => at_super (C := C) (pl := (do return (← importBound (.Call (.Name "super" _) [] [] _) _).getD true)) scNmI lk hcc hcd hv2 ⟨_, rfl, rfl, by decide +kernel⟩ rfl (by decide +kernel) Y GS bS (hr.mono (by decide)) pass0
        (pa_cons (pv 1) (pa_cons (pv 5) (pa_cons (pe_call GT (hr.mono (by decide)) (by rfl) mT kT bT .nil pass0 (pa_cons (pv 1) (pa_cons (pv 2) (pa_cons (pv 3) (pa_cons (pv 5) pa_nil))))) pa_nil))) (by rfl) (by rfl) (by rfl) (by rfl) I ht,
      pss_cons (ps_fld (pv 0) (pv 2) rfl) (pss_one (ps_fld (pv 0) (pv 3) rfl)), ?_⟩
    -- the person
    refine ⟨_, rfl, vp, dp, rfl, hp, op, fun wp H1 S1 => ?_, fun wp => e1 wp⟩
    have np1 : H1 a = some (.ins C dx []) := S1 _ _ ea
    refine ⟨_, rfl, vn, dn, rfl, hn.same S1, on, fun wn H2 S2 => ?_, fun wn => (e2 wp wn).same S1⟩
    have S02 := S1.trans S2
    refine ⟨_, rfl, vc, dc, 4, rfl, hc.same S02, oc', fun H3 S3 => ?_⟩
    have S03 := S02.trans S3
    refine ⟨_, rfl, ?_⟩
    cases wc : isChainD dc 4 with
    | false => exact iteT (mk_er (fun R h => ⟨_, rfl, h⟩) ((e3 wp wn wc).same S03))
    | true =>
      refine iteF ?_
      obtain ⟨zp, rfl, _, lp⟩ := word_inv wp
      obtain ⟨zn, rfl, _, ln⟩ := word_inv wn
      obtain ⟨ws, rfl, w1, w5, w8⟩ := chain_inv wc
      cases hp
      cases hn
      obtain ⟨ac, rfl, hS⟩ := da_chain (hc.same S03)
      have few := sum_le8 w8
      have hd3 := hd.same S03
      have go : ∀ (st : V) (q : Addr) (i j : Int) (H4 : Hp), (∀ b o, H3 b = some o → H4 b = some o) → st = .ref q → SqT K H4 q [.int i, .int j] → 0 ≤ i → i ≤ 10 ^ 30 → 0 ≤ j → j ≤ 10 ^ 30 → StAt K H4 vd st dd → intsD dd = (i, j) → (dd = .none ∨ isStretchD dd = true) →
          tSup C (spStatC K C) E0 (tCons (tVar 1) (tCons (tVar 5) (tCons (tCall (spNText K) [] E0 (tCons (tVar 1) (tCons (tVar 2) (tCons (tVar 3) (tCons (tVar 5) tNil)))) ) tNil)))
            { nx := fun σ2 H2 => tSeq (sFld K (tVar 0) (tVar 2) "_name") (sFld K (tVar 0) (tVar 3) "_chain") { nx := fun _ H3 => Q .non H3, rt := Q } σ2 H2, rt := Q } [some (.ref a), some (.str zp), some (.str zn), some (.ref ac), some vd, some st] H4 := by
        intro st q i j H4 S34 est hst i0 i1 j0 j1 hSt hij hdd
        subst est
        have ea4 : H4 a = some (.ins C dx []) := S34 _ _ (S03 _ _ ea)
        have hS4 : SqT K H4 ac (ws.map V.str) := by
          rcases hS with (z | ⟨o, z⟩) | z
          · exact .inl (.inl (S34 _ _ z))
          · exact .inl (.inr ⟨o, S34 _ _ z⟩)
          · exact .inr z
        refine ⟨a, dx, [], rfl, ea4, _, rfl, _, rfl, _, rfl, _, rfl, _, rfl, _, rfl, zp, zn, ac, q, ws, i, j, rfl, by omega, by omega, hS4, by omega, hst, i0, i1, j0, j1, ?_⟩
        refine ⟨a, dx, _, _, _, rfl, ea4, ?_⟩
        refine ⟨_, rfl, _, rfl, a, C, dx, _, rfl, upd_same, c.cl, c.n4, by show 3 < 1000; decide, ?_⟩
        refine ⟨_, rfl, _, rfl, a, C, dx, _, rfl, upd_same, c.cl, c.n5, by rw [put4]; show 4 < 1000; decide, ?_⟩
        rw [upd_upd, upd_upd, put4, put5]
        have et : namT zp zn ws i j = namTD (.str zp) (.str zn) (.tuple (ws.map PyData.str)) dd := by
          unfold namTD
          rw [hij, wordsD_chain]
          rfl
        rw [et]
        refine k wp wn wc hdd (.ref q) _ (fun b o e nb => by rw [upd_ne nb]; exact S34 _ _ (S03 _ _ e)) upd_same ?_
        rcases hSt with ⟨z1, z2⟩ | ⟨z1, z2⟩
        · exact .inl ⟨z1, z2⟩
        · exact .inr ⟨z1, z2.ins ea4 fun b o e nb => by rw [upd_ne nb]; exact e⟩
      refine ⟨_, rfl, vd, dd, rfl, hd3, fun z q hq => ?_, fun z => ?_, fun z1 z2 => (e4 wp wn wc z1 z2).same S03⟩
      · subst z
        have s4 := same_new (o := .tup [V.int 0, .int (10 ^ 30)]) hq
        refine go (.ref q) q 0 (10 ^ 30) _ s4 rfl (SqT.of upd_same) (by decide) (by decide +kernel) (by decide +kernel) (by decide +kernel) (.inr ⟨rfl, .tup (SqT.of upd_same) (.cons (.int _) (.cons (.int _) .nil))⟩) rfl (.inl rfl)
      · obtain ⟨i, j, rfl, i0, ij, j1⟩ := stretch_inv z
        obtain ⟨q, rfl, hq⟩ := da_pair hd3
        refine go (.ref q) q i j H3 (fun _ _ e => e) rfl hq i0 (by omega) (by omega) j1 (.inl ⟨(by intro y; cases y), rfl⟩) rfl (.inr z)
end
end LW

/-! A Naming's properties and its ==. -/
namespace LW
open PySem L2 G
abbrev sPerson : Stmt := inClass (top 32) 1
abbrev sDays : Stmt := inClass (top 32) 2
abbrev sName : Stmt := inClass (top 33) 1
abbrev sChainP : Stmt := inClass (top 33) 2
abbrev sEqN : Stmt := inClass (top 33) 3
/-- a getter of the field f -/
def spGet (C : Addr) (f : Str) : Sp := fun vs H Q _ => ∃ (a dx : Addr) (fs : List (Str × V)) (v : V), vs = [.ref a] ∧ H a = some (.ins C dx fs) ∧ fs.lookup f = some v ∧ Q v H
/-- the Naming at a -/
structure NamAt (K : PySem.W.Frag) (H : Hp) (C a : Addr) (p n : Str) (ws : List Str) (i j : Int) : Prop where
  at_ : ∃ (dx q c : Addr) (t : Str), H a = some (.ins C dx (f5 (.str p) (.ref q) (.str t) (.str n) (.ref c))) ∧ SqT K H c (ws.map V.str) ∧ SqT K H q [.int i, .int j]
  ok : ∀ z ∈ ws, PyData.strOk z = true
theorem sqT_same {K : PySem.W.Frag} {H H' : Hp} (S : Same H H') {a : Addr} {xs : List V} (s : SqT K H a xs) : SqT K H' a xs := by
  rcases s with (s | ⟨o, s⟩) | s
  · exact .inl (.inl (S _ _ s))
  · exact .inl (.inr ⟨o, S _ _ s⟩)
  · exact .inr s
theorem NamAt.same {K : PySem.W.Frag} {H H' : Hp} {C a : Addr} {p n : Str} {ws : List Str} {i j : Int} (N : NamAt K H C a p n ws i j) (S : Same H H') : NamAt K H' C a p n ws i j := by
  obtain ⟨⟨dx, q, c, t, h1, h2, h3⟩, ok⟩ := N
  exact ⟨⟨dx, q, c, t, S _ _ h1, sqT_same S h2, sqT_same S h3⟩, ok⟩
/-- what the class says of isinstance -/
structure InsK (K : PySem.W.Frag) (C : Addr) : Prop where
  ha : PySem.W.findIn K (.ref C) "__class__" = some (some (.builtin "object.__class__"))
  hn : PySem.W.specialIn K (.builtin "object.__class__") "__get__" = some (some (.builtin "getset_descriptor.__get__"))
  ht : PySem.W.takesIn K (.builtin "object.__class__") = some true
  hm : PySem.W.mroIn K C (.type "object") = some true
  self : PySem.W.kitOne K (.ref C) (.ref C) = some true
theorem NamAt.ty {K : PySem.W.Frag} {H : Hp} {C a : Addr} {p n : Str} {ws : List Str} {i j : Int} (N : NamAt K H C a p n ws i j) (c : NamC K C) (k : InsK K C) : TyX K H (.ref a) (.ref C) := by
  obtain ⟨⟨dx, q, c2, t, h1, h2, h3⟩, ok⟩ := N
  exact .base (.ins h1 c.cl k.ha k.hn k.ht k.hm)
theorem lk1 {p d t n c : V} : List.lookup (Str.ofString "_person") (f5 p d t n c) = some p := by simp [List.lookup]
theorem lk2 {p d t n c : V} : List.lookup (Str.ofString "_days") (f5 p d t n c) = some d := by
  have h1 : (Str.ofString "_days" == Str.ofString "_person") = false := by decide +kernel
  simp [List.lookup, h1]
theorem lk4 {p d t n c : V} : List.lookup (Str.ofString "_name") (f5 p d t n c) = some n := by
  have h1 : (Str.ofString "_name" == Str.ofString "_person") = false := by decide +kernel
  have h2 : (Str.ofString "_name" == Str.ofString "_days") = false := by decide +kernel
  have h3 : (Str.ofString "_name" == Str.ofString "_text") = false := by decide +kernel
  simp [List.lookup, h1, h2, h3]
theorem lk5 {p d t n c : V} : List.lookup (Str.ofString "_chain") (f5 p d t n c) = some c := by
  have h1 : (Str.ofString "_chain" == Str.ofString "_person") = false := by decide +kernel
  have h2 : (Str.ofString "_chain" == Str.ofString "_days") = false := by decide +kernel
  have h3 : (Str.ofString "_chain" == Str.ofString "_text") = false := by decide +kernel
  have h4 : (Str.ofString "_chain" == Str.ofString "_name") = false := by decide +kernel
  simp [List.lookup, h1, h2, h3, h4]
theorem shapedTup (l : List Str) (h : ∀ y ∈ l, PyData.strOk y = true) : SeqAt.shaped (.tuple (l.map PyData.str)) = true := by
  have h1 : (PyData.tuple (l.map PyData.str)).canLay0 = true := by simp only [PyData.canLay0, layStrs l h]
  have h2 : (PyData.tuple (l.map PyData.str)).depth ≤ 64 := by simp only [PyData.depth, depStrs]; omega
  simp only [SeqAt.shaped, h1, h2, decide_true, Bool.and_self]
theorem shapedPair (i j : Int) : SeqAt.shaped (.tuple [.int i, .int j]) = true := by
  simp [SeqAt.shaped, PyData.canLay0, PyData.canLayAll0, PyData.depth, PyData.depthAll]
theorem eqvStrs : ∀ (l m : List Str), PyData.eqvAll (l.map PyData.str) (m.map PyData.str) = decide (l = m)
  | [], [] => by simp [PyData.eqvAll]
  | [], _ :: _ => by simp [PyData.eqvAll]
  | _ :: _, [] => by simp [PyData.eqvAll]
  | a :: l, b :: m => by
    simp only [List.map_cons, PyData.eqvAll, PyData.eqv, eqvStrs l m, List.cons.injEq]
    by_cases h : a = b <;> by_cases h2 : l = m <;> simp [h, h2]
theorem eqvTup (l m : List Str) : PyData.eqv (.tuple (l.map PyData.str)) (.tuple (m.map PyData.str)) = decide (l = m) := by
  simp only [PyData.eqv, eqvStrs]
theorem eqvPair (i j k l : Int) : PyData.eqv (.tuple [.int i, .int j]) (.tuple [.int k, .int l]) = decide (i = k ∧ j = l) := by
  simp only [PyData.eqv, PyData.eqvAll]
  by_cases h : i = k <;> by_cases h2 : j = l <;> simp [h, h2]
/-- Naming's == -/
def spEqN (K : PySem.W.Frag) (C : Addr) : Sp := fun vs H Q _ => ∃ (a : Addr) (y : V) (p n : Str) (ws : List Str) (i j : Int), vs = [.ref a, y] ∧ NamAt K H C a p n ws i j ∧
  ((∃ (b : Addr) (p2 n2 : Str) (ws2 : List Str) (i2 j2 : Int), y = .ref b ∧ NamAt K H C b p2 n2 ws2 i2 j2 ∧ Q (.bl (decide (p = p2 ∧ n = n2 ∧ ws = ws2 ∧ i = i2 ∧ j = j2))) H) ∨ ∃ tb, TyX K H y tb ∧ PySem.W.kitOne K tb (.ref C) = some false ∧ Q (.bl false) H)
section
variable {P : Program} {w : World} {K : PySem.W.Frag} {mg : Str → Option Value} {base : Heap} {C : Addr}
theorem scGP : FnScope ["self"] ["self"] (defScope sPerson) := ⟨rfl, rfl, rfl, by decide +kernel, rfl, by decide +kernel, by decide +kernel⟩
theorem scGD : FnScope ["self"] ["self"] (defScope sDays) := ⟨rfl, rfl, rfl, by decide +kernel, rfl, by decide +kernel, by decide +kernel⟩
theorem scGN : FnScope ["self"] ["self"] (defScope sName) := ⟨rfl, rfl, rfl, by decide +kernel, rfl, by decide +kernel, by decide +kernel⟩
theorem scGC : FnScope ["self"] ["self"] (defScope sChainP) := ⟨rfl, rfl, rfl, by decide +kernel, rfl, by decide +kernel, by decide +kernel⟩
theorem scEqN : FnScope ["self", "other"] ["self", "other"] (defScope sEqN) := ⟨rfl, rfl, rfl, by decide +kernel, rfl, by decide +kernel, by decide +kernel⟩
theorem ok_gP {f : Addr} {fd : FuncData} (F : Fun K "person" "Statement.person" sPerson f fd) (c : NamC K C) : FnOk P w K mg base CX0 1 f fd ["self"] (spGet C "_person") := by
  refine F.ok scGP (fun vs H Q E h => ?_) (fun cdv A outer s H vs Q E hr h => ?_)
  · obtain ⟨a, dx, fs, v, rfl, _⟩ := h
    rfl
  · obtain ⟨a, dx, fs, v, rfl, ea, l, k⟩ := h
    exact ⟨_, pss_one (ps_ret (pe_fld (pv 0) rfl)), ⟨_, rfl, a, C, dx, fs, v, rfl, ea, c.cl, c.n1, l, k⟩⟩
theorem ok_gD {f : Addr} {fd : FuncData} (F : Fun K "days" "Statement.days" sDays f fd) (c : NamC K C) : FnOk P w K mg base CX0 1 f fd ["self"] (spGet C "_days") := by
  refine F.ok scGD (fun vs H Q E h => ?_) (fun cdv A outer s H vs Q E hr h => ?_)
  · obtain ⟨a, dx, fs, v, rfl, _⟩ := h
    rfl
  · obtain ⟨a, dx, fs, v, rfl, ea, l, k⟩ := h
    exact ⟨_, pss_one (ps_ret (pe_fld (pv 0) rfl)), ⟨_, rfl, a, C, dx, fs, v, rfl, ea, c.cl, c.n2, l, k⟩⟩
theorem ok_gN {f : Addr} {fd : FuncData} (F : Fun K "name" "Naming.name" sName f fd) (c : NamC K C) : FnOk P w K mg base CX0 1 f fd ["self"] (spGet C "_name") := by
  refine F.ok scGN (fun vs H Q E h => ?_) (fun cdv A outer s H vs Q E hr h => ?_)
  · obtain ⟨a, dx, fs, v, rfl, _⟩ := h
    rfl
  · obtain ⟨a, dx, fs, v, rfl, ea, l, k⟩ := h
    exact ⟨_, pss_one (ps_ret (pe_fld (pv 0) rfl)), ⟨_, rfl, a, C, dx, fs, v, rfl, ea, c.cl, c.n4, l, k⟩⟩
theorem ok_gC {f : Addr} {fd : FuncData} (F : Fun K "chain" "Naming.chain" sChainP f fd) (c : NamC K C) : FnOk P w K mg base CX0 1 f fd ["self"] (spGet C "_chain") := by
  refine F.ok scGC (fun vs H Q E h => ?_) (fun cdv A outer s H vs Q E hr h => ?_)
  · obtain ⟨a, dx, fs, v, rfl, _⟩ := h
    rfl
  · obtain ⟨a, dx, fs, v, rfl, ea, l, k⟩ := h
    exact ⟨_, pss_one (ps_ret (pe_fld (pv 0) rfl)), ⟨_, rfl, a, C, dx, fs, v, rfl, ea, c.cl, c.n5, l, k⟩⟩
/-- a property of Namings, as the walk needs it -/
structure Pr (P : Program) (w : World) (K : PySem.W.Frag) (mg : Str → Option Value) (base : Heap) (C : Addr) (x f : Str) (p g : Addr) (fd : FuncData) : Prop where
  of : PropOf K C x p g
  ok : FnOk P w K mg base CX0 1 g fd ["self"] (spGet C f)
  b : Binds K fd ["self"] []
variable {pP gP pD gD pN gN pC gC : Addr} {dP dD dN dC : FuncData}
theorem dpTup {K : PySem.W.Frag} {H : Hp} {a : Addr} {ws : List Str} (h : SqT K H a (ws.map V.str)) : Dp K H (.ref a) (.tuple (ws.map PyData.str)) := .tup h (dpStrs K H ws)
theorem dpPair {K : PySem.W.Frag} {H : Hp} {a : Addr} {i j : Int} (h : SqT K H a [.int i, .int j]) : Dp K H (.ref a) (.tuple [.int i, .int j]) := .tup h (.cons (.int i) (.cons (.int j) .nil))
theorem ok_eqN {f : Addr} {fd : FuncData} (F : Fun K "__eq__" "Naming.__eq__" sEqN f fd) (is : mg "isinstance" = none) (gNm : mg "Naming" = some (.ref C)) (c : NamC K C) (k : InsK K C)
    (rP : Pr P w K mg base C "person" "_person" pP gP dP) (rD : Pr P w K mg base C "days" "_days" pD gD dD) (rN : Pr P w K mg base C "name" "_name" pN gN dN) (rC : Pr P w K mg base C "chain" "_chain" pC gC dC) :
    FnOk P w K mg base CX0 3 f fd ["self", "other"] (spEqN K C) := by
  refine F.ok scEqN (fun vs H Q E h => ?_) (fun cdv A outer s H vs Q E hr h => ?_)
  · obtain ⟨a, y, p, n, ws, i, j, rfl, _⟩ := h
    rfl
  · obtain ⟨a, y, p, n, ws, i, j, rfl, N, q⟩ := h
    have hu := hr.units
    refine ⟨_, pss_one (ps_ret (pe_and (pe_callB call_isi (by rfl) is (by decide +kernel) (pa_cons (pv 1) (pa_cons (pe_glob (v := .ref C) (by rfl) gNm rfl) pa_nil)))
      (pe_and (pe_cmpR op_eq (pe_prop (pv 0) c.cl rP.of rP.ok hr rP.b .nil pass0 rfl) (pe_prop (pv 1) c.cl rP.of rP.ok hr rP.b .nil pass0 rfl) (nomark _))
      (pe_and (pe_cmpR op_eq (pe_prop (pv 0) c.cl rN.of rN.ok hr rN.b .nil pass0 rfl) (pe_prop (pv 1) c.cl rN.of rN.ok hr rN.b .nil pass0 rfl) (nomark _))
      (pe_and (pe_cmpR (op_eqD hu) (pe_prop (pv 0) c.cl rC.of rC.ok hr rC.b .nil pass0 rfl) (pe_prop (pv 1) c.cl rC.of rC.ok hr rC.b .nil pass0 rfl) (nomark _))
      (pe_one (pe_cmpR (op_eqD hu) (pe_prop (pv 0) c.cl rD.of rD.ok hr rD.b .nil pass0 rfl) (pe_prop (pv 1) c.cl rD.of rD.ok hr rD.b .nil pass0 rfl) (nomark _)))))))), ?_⟩
    rcases q with ⟨b, p2, n2, ws2, i2, j2, rfl, N2, q⟩ | ⟨tb, ty, kf, q⟩
    · refine ⟨_, rfl, .ref b, .ref C, _, _, true, rfl, .own C, N2.ty c k, k.self, _, rfl, iteT ?_⟩
      obtain ⟨⟨dx, aq, ac, t, h1, h2, h3⟩, ok⟩ := N
      obtain ⟨⟨dx2, aq2, ac2, t2, g1, g2, g3⟩, ok2⟩ := N2
      refine ⟨_, rfl, a, dx, _, rfl, h1, a, dx, _, _, rfl, h1, lk1, _, rfl, b, dx2, _, rfl, g1, b, dx2, _, _, rfl, g1, lk1, (show scal (V.str p) (V.str p2) = true from rfl), _, rfl, ?_⟩
      by_cases ep : p = p2
      rotate_left
      · rw [decide_eq_false (show ¬ V.str p = V.str p2 from fun z => ep (V.str.inj z))]
        rw [decide_eq_false (fun z => ep z.1)] at q
        exact iteF q
      rw [decide_eq_true (show V.str p = V.str p2 by rw [ep])]
      refine iteT ⟨_, rfl, a, dx, _, rfl, h1, a, dx, _, _, rfl, h1, lk4, _, rfl, b, dx2, _, rfl, g1, b, dx2, _, _, rfl, g1, lk4, (show scal (V.str n) (V.str n2) = true from rfl), _, rfl, ?_⟩
      by_cases en : n = n2
      rotate_left
      · rw [decide_eq_false (show ¬ V.str n = V.str n2 from fun z => en (V.str.inj z))]
        rw [decide_eq_false (fun z => en z.2.1)] at q
        exact iteF q
      rw [decide_eq_true (show V.str n = V.str n2 by rw [en])]
      refine iteT ⟨_, rfl, a, dx, _, rfl, h1, a, dx, _, _, rfl, h1, lk5, _, rfl, b, dx2, _, rfl, g1, b, dx2, _, _, rfl, g1, lk5, _, _, dpTup h2, dpTup g2, shapedTup _ ok, shapedTup _ ok2, _, rfl, ?_⟩
      rw [eqvTup]
      by_cases ew : ws = ws2
      rotate_left
      · rw [decide_eq_false ew]
        rw [decide_eq_false (fun z => ew z.2.2.1)] at q
        exact iteF q
      rw [decide_eq_true ew]
      refine iteT ⟨_, rfl, a, dx, _, rfl, h1, a, dx, _, _, rfl, h1, lk2, _, rfl, b, dx2, _, rfl, g1, b, dx2, _, _, rfl, g1, lk2, _, _, dpPair h3, dpPair g3, shapedPair _ _, shapedPair _ _, ?_⟩
      rw [eqvPair]
      have e : decide (p = p2 ∧ n = n2 ∧ ws = ws2 ∧ i = i2 ∧ j = j2) = decide (i = i2 ∧ j = j2) := decide_eq_decide.mpr ⟨fun z => z.2.2.2, fun z => ⟨ep, en, ew, z⟩⟩
      rw [e] at q
      exact q
    · exact ⟨_, rfl, y, .ref C, _, _, false, rfl, .own C, ty, kf, _, rfl, iteF q⟩
end
end LW

/-! Leaves: times and their text. -/
namespace LW
open PySem L2 G
abbrev pTimes : Stmt := top 12
abbrev pTText : Stmt := top 30
def isTimesD : PyData → Bool
  | .none => true
  | d => intInD d 0 9
def timesT : Option Int → Str
  | none => ""
  | some i => Str.empty ++ " + " ++ Str.ofString (toString i)
def timesV : Option Int → V
  | none => .non
  | some i => .int i
def spIsTimes (K : PySem.W.Frag) : Sp := fun vs H Q _ => ∃ (v : V) (d : PyData), vs = [v] ∧ Da K H v d ∧ Q (.bl (isTimesD d)) H
def spTText : Sp := fun vs H Q _ => ∃ t : Option Int, vs = [timesV t] ∧ (∀ i, t = some i → 0 ≤ i ∧ i ≤ 9) ∧ Q (.str (timesT t)) H
section
variable {P : Program} {w : World} {K : PySem.W.Frag} {mg : Str → Option Value} {base : Heap}
variable {fI : Addr} {fdI : FuncData}
theorem scTimes : FnScope ["value"] ["value"] (defScope pTimes) := ⟨rfl, rfl, rfl, by decide +kernel, rfl, by decide +kernel, by decide +kernel⟩
theorem scTText : FnScope ["times"] ["times"] (defScope pTText) := ⟨rfl, rfl, rfl, by decide +kernel, rfl, by decide +kernel, by decide +kernel⟩
theorem ok_times {f : Addr} {fd : FuncData} (F : Fun K "is_times" "is_times" pTimes f fd) (mT : ∃ t, mg "MAX_TIMES" = some (.int 9 t)) (GI : FnOk P w K mg base CX0 1 fI fdI ["value", "low", "high"] (spInt K)) (mI : mg "is_integer_in" = some (.ref fI)) (kI : PySem.W.keepIn K (.ref fI) = true) (bI : Binds K fdI ["value", "low", "high"] []) :
    FnOk P w K mg base CX0 2 f fd ["value"] (spIsTimes K) := by
  refine F.ok scTimes (fun vs H Q E h => ?_) (fun cdv A outer s H vs Q E hr h => ?_)
  · obtain ⟨v, d, rfl, _⟩ := h
    rfl
  · obtain ⟨v, d, rfl, hd, k⟩ := h
    obtain ⟨tT, mT⟩ := mT
    refine ⟨_, pss_one (ps_ret (pe_or (pe_cmpR op_isN (pv 0) pe_non (nomark _)) (pe_one (pe_call GI hr (by rfl) mI kI bI .nil pass0 (pa_cons (pv 0) (pa_cons pe_int (pa_cons (pe_glob (v := .int 9) (by rfl) mT ⟨_, rfl⟩) pa_nil))))))), ?_⟩
    refine ⟨_, rfl, rfl, _, rfl, ?_⟩
    by_cases n : v = .non
    · subst n
      cases hd
      exact iteT k
    · rw [decide_eq_false n]
      refine iteF ⟨_, rfl, v, d, 0, 9, rfl, hd, ?_⟩
      have e : isTimesD d = intInD d 0 9 := by
        cases hd <;> first | rfl | exact absurd rfl n
      rw [e] at k
      exact k
theorem ok_ttext {f : Addr} {fd : FuncData} (F : Fun K "_times_text" "_times_text" pTText f fd) : FnOk P w K mg base CX0 1 f fd ["times"] spTText := by
  refine F.ok scTText (fun vs H Q E h => ?_) (fun cdv A outer s H vs Q E hr h => ?_)
  · obtain ⟨t, rfl, _⟩ := h
    rfl
  · obtain ⟨t, rfl, few, k⟩ := h
    refine ⟨_, pss_cons (ps_if (pt_cmpR op_isN (pv 0) pe_non (nomark _)) (pss_one (ps_ret pe_str)) pss_nil) (pss_one (ps_ret (pe_joined (.cons pe_str (.cons (pe_fmt (pv 0)) .nil))))), ?_⟩
    cases t with
    | none => exact ⟨_, rfl, rfl, _, rfl, iteT k⟩
    | some i =>
      obtain ⟨i0, i1⟩ := few i rfl
      refine ⟨_, rfl, rfl, _, rfl, iteF ?_⟩
      have a1 := num_len i0 (by omega)
      have a3 : (Str.ofString " + ").length = 3 := by decide +kernel
      have a4 : (Str.empty).length = 0 := rfl
      refine ⟨_, rfl, ?_, _, rfl, .inr ⟨i, rfl, num_log i0 (by omega), _, rfl, ?_, k⟩⟩
      · rw [sl, a3, a4, sizeLine_eq]; omega
      · rw [sl, sl, a3, a4, sizeLine_eq]; omega
end
end LW

/-! Sets of at most four keys that stand in the heap (tuples of texts): built from a tuple, and counted. -/
namespace TX
open PySem PySem.Spec PyProof.Rows L2
section
variable {P : Program} {w : World} {κ : Type} [DecidableEq κ]
/-- what keys of a kind answer to the small questions -/
structure Sane (g : HeapKind P w κ) : Prop where
  cls : ∀ {A : Around} {E : Value → Shared → Prop} {s : Shared} {k : κ} {b : Addr} {Q : Bool → Shared → Prop}, g.is s.heap k b → Q false s → wpAny (model P w) A (ofAClassStatement 8 (.ref b)) Q E s
  byv : ∀ {A : Around} {E : Value → Shared → Prop} {s : Shared} {k : κ} {b : Addr} {Q : Bool → Shared → Prop}, g.is s.heap k b → (∀ r, Q r s) → wpAny (model P w) A (hashByValue 8 (.ref b)) Q E s
  stay : ∀ {h h' : Heap} {k : κ} {b : Addr}, g.is h k b → (∀ o, h.get? b = some o → h'.get? b = some o) → g.is h' k b
  sq : ∀ {h : Heap} {k : κ} {b : Addr}, g.is h k b → ∃ o vs n, h.get? b = some o ∧ o.data = .seq vs n
/-- the set at a has the keys of L, where they stand -/
structure SetG (g : HeapKind P w κ) (h : Heap) (a : Addr) (L : List (Addr × κ)) (es : Array (Int × Value)) (ep : Nat) (t : SetTable) : Prop where
  at' : ∃ o, h.get? a = some o ∧ o.ExactSet ∧ o.data = .set es ep t
  ent : es.toList = L.map fun q => (g.hash q.2, Value.ref q.1)
  tab : TabOk t (L.map fun q => g.hash q.2)
  one : (L.map Prod.snd).Nodup
  key : ∀ q ∈ L, g.is h q.2 q.1
  ld : w.params.followText "set-order" = true ∨ t.led = true
  m7 : t.mask = 7
  le4 : L.length ≤ 4
variable {g : HeapKind P w κ} {A : Around} {E : Value → Shared → Prop} {s : Shared} {a : Addr} {L : List (Addr × κ)} {es : Array (Int × Value)} {ep : Nat} {t : SetTable}
theorem SetG.num (R : SetG g s.heap a L es ep t) : es.size = L.length := by
  have z := congrArg List.length R.ent
  simpa using z
theorem SetG.fit (R : SetG g s.heap a L es ep t) : t.fits es.size = true := by
  have z := R.tab.sz
  have y := R.num
  have x := R.le4
  have m := R.m7
  rw [List.length_map] at z
  unfold SetTable.fits SetTable.fill
  rw [R.tab.dm]
  simp only [Bool.and_eq_true, beq_iff_eq, decide_eq_true_eq, List.size_toArray, List.length_nil]
  omega
theorem SetG.nth (R : SetG g s.heap a L es ep t) {i : Nat} {q : Addr × κ} (e : L[i]? = some q) : es[i]? = some (g.hash q.2, Value.ref q.1) := by
  have z : es.toList[i]? = some (g.hash q.2, Value.ref q.1) := by
    rw [R.ent, List.getElem?_map, e]
    rfl
  simpa using z
/-- where the search for h begins -/
abbrev beg (t : SetTable) (h : Int) : SetTable.Probe := runAt t.mask (SetTable.bits h % (t.mask + 1)) (SetTable.bits h)
theorem dum (m : Nat) : ∀ (n : Nat) (p : SetTable.Probe), p.dummy = none → (L2.nth m p n).dummy = none
  | 0, _, e => e
  | n + 1, p, e => dum m n (adv m p) (by
    unfold adv
    split <;> exact e)
theorem quiet_all (S : Sane g) {x : Addr} {k : κ} (kx : g.is s.heap k x) {ys : List Value} (all : ∀ y ∈ ys, ∃ k' c, y = Value.ref c ∧ g.is s.heap k' c) {Q : Bool → Shared → Prop} (go : Q false s) :
    wpAny (model P w) A (searchCouldBeSeen (.ref x) ys) Q E s := by
  unfold searchCouldBeSeen
  refine wpAny_bind (wpAny_forIn_list _ (fun left r z => (r.1 = none ∧ z = s) ∧ ∀ y ∈ left, ∃ k' c, y = Value.ref c ∧ g.is s.heap k' c) _ (fun y left r z I => ?_) (fun r z I => ?_) _ _ ⟨⟨rfl, rfl⟩, all⟩)
  · obtain ⟨⟨r0, rfl⟩, al⟩ := I
    obtain ⟨k', c, rfl, kc⟩ := al y List.mem_cons_self
    have al' := fun u (hu : u ∈ left) => al u (List.mem_cons_of_mem _ hu)
    dsimp only
    by_cases v : (x == c || (carriedByValue (.ref x) && carriedByValue (.ref c))) = true
    · exact wp_if_pos v (wpAny_pure ⟨⟨rfl, rfl⟩, al'⟩)
    · refine wp_if_neg v (wpAny_bind (g.quiet kx ?_))
      simp only [Bool.not_true, Bool.false_eq_true, ↓reduceIte]
      refine wpAny_bind (g.quiet kc ?_)
      simp only [Bool.not_true, Bool.false_eq_true, ↓reduceIte]
      refine wpAny_bind (S.cls kx ?_)
      simp only [Bool.false_eq_true, ↓reduceIte]
      refine wpAny_bind (S.cls kc ?_)
      simp only [Bool.false_eq_true, ↓reduceIte]
      exact wpAny_pure ⟨⟨rfl, rfl⟩, al'⟩
  · obtain ⟨r1, r2⟩ := r
    obtain ⟨⟨r0, rfl⟩, _⟩ := I
    dsimp only at r0
    subst r0
    exact wpAny_pure go
/-- the search for the key k, which stands at x, from the c-th step on, d steps ahead of the first free place -/
theorem hunt (S : Sane g) (R : SetG g s.heap a L es ep t) {x : Addr} {k : κ} (kx : g.is s.heap k x) (ro : g.room A) {z : Nat} (free : way t.mask (g.hash k) z ∉ t.place.toList) (busy : ∀ c, c < z → way t.mask (g.hash k) c ∈ t.place.toList)
    (zb : z < 10 * SetTable.turns t.mask) {Q : SetFound → Shared → Prop} (yes : k ∈ L.map Prod.snd → Q (.there none) s) (no : k ∉ L.map Prod.snd → Q (.free (way t.mask (g.hash k) z) false) s) :
    ∀ (d c f : Nat) (st : Option SetTable.Probe), c + d = z → d < f → st.getD (t.probeStart (g.hash k)) = L2.nth t.mask (beg t (g.hash k)) c →
      (∀ (i : Nat) q, L[i]? = some q → q.2 = k → ∃ e, c ≤ e ∧ e < z ∧ t.place.toList[i]? = some (way t.mask (g.hash k) e)) → wpAny (model P w) A (setSearchFrom a (.ref x) (g.hash k) true f st) Q E s := by
  intro d
  induction d using Nat.strongRecOn with
  | ind d ih =>
    intro c f st cd df est later
    obtain ⟨f, rfl⟩ : ∃ f', f = f' + 1 := ⟨f - 1, by omega⟩
    obtain ⟨o, oA, _, oD⟩ := R.at'
    have odd : ¬ t.gaveWay = true := by
      unfold SetTable.gaveWay
      rw [R.m7]
      decide
    rw [setSearchFrom_succ]
    refine wpAny_bind (wpAny_setState_of oA oD R.fit ?_)
    dsimp only
    refine wp_if_neg odd ?_
    try refine wpAny_bind (wpAny_pure ?_)
    have step : ∀ q, L2.nth t.mask (L2.nth t.mask (beg t (g.hash k)) c) q = L2.nth t.mask (beg t (g.hash k)) (c + q) := fun q => (nth_add t.mask c _ q).symm
    have stepj : ∀ q, (L2.nth t.mask (L2.nth t.mask (beg t (g.hash k)) c) q).j = way t.mask (g.hash k) (c + q) := fun q => congrArg SetTable.Probe.j (step q)
    have hash : ∀ (i : Nat) q, L[i]? = some q → (fun i => (es[i]?.map (·.1)).getD 0) i = g.hash q.2 := fun i q e => by
      dsimp only
      rw [R.nth e]
      rfl
    rcases go_spec t R.tab.ris R.tab.dm (fun i => (es[i]?.map (·.1)).getD 0) (g.hash k) (10 * SetTable.turns t.mask) d _ (dum t.mask c _ rfl) (by omega)
      (fun q hq => by rw [stepj]; exact busy _ (by omega)) (by rw [stepj, cd]; exact free) with ⟨q, i, qd, iq, hh, none', found⟩ | ⟨none', found⟩
    · have pr : t.probe (fun i => (es[i]?.map (·.1)).getD 0) (g.hash k) (st.getD (t.probeStart (g.hash k))) = some (.candidate (way t.mask (g.hash k) (c + q)) i (L2.nth t.mask (beg t (g.hash k)) (c + (q + 1)))) := by
        rw [est, ← stepj, ← step]
        exact found
      rw [pr]
      dsimp only
      rw [stepj] at iq
      have il : i < L.length := by
        have u := (List.getElem?_eq_some_iff.mp iq).1
        have v := R.tab.sz
        simp only [List.length_map] at v
        simp only [Array.length_toList] at u
        omega
      obtain ⟨y, ey⟩ : ∃ y, L[i]? = some y := ⟨_, List.getElem?_eq_getElem il⟩
      have my : y ∈ L := List.mem_of_getElem? ey
      have sl := slot_live R.tab.ris iq
      have tail : wpAny (model P w) A (searchRest a (.ref x) (g.hash k) true f es t (way t.mask (g.hash k) (c + q)) i (L2.nth t.mask (beg t (g.hash k)) (c + (q + 1)))) Q E s := by
        unfold searchRest
        rw [R.nth ey]
        dsimp only
        refine wpAny_bind (wpAny_holding (g.eqBool ro (R.key y my) kx (wpAny_bind (wpAny_setState_of oA oD R.fit ?_))))
        dsimp only
        by_cases same : y.2 = k
        · exact wp_if_pos (by simp [same]) (wpAny_pure (yes (List.mem_map.mpr ⟨y, my, same⟩)))
        · refine wp_if_neg (by simp [same]) ?_
          try refine wpAny_bind (wpAny_pure ?_)
          rw [sameMem]
          dsimp only
          simp only [↓reduceIte, sl, R.nth ey]
          refine wpAny_bind (wpAny_isSame_ref_self (wpAny_bind (wpAny_pure ?_)))
          simp only [↓reduceIte]
          refine wp_if_neg (by simp [same]) ?_
          refine ih (d - (q + 1)) (by omega) (c + (q + 1)) f _ (by omega) (by omega) rfl fun i' y' ei ek => ?_
          obtain ⟨e, ce, ez, pe⟩ := later i' y' ei ek
          refine ⟨e, ?_, ez, pe⟩
          by_cases lo : e < c + q
          · refine absurd ((hash i' y' ei).trans (congrArg g.hash ek)) (none' (e - c) i' (by omega) ?_)
            rw [stepj, show c + (e - c) = e by omega]
            exact pe
          · by_cases eq : e = c + q
            · exfalso
              rw [eq] at pe
              have u := slot_live R.tab.ris pe
              rw [sl] at u
              injection u with u
              rw [← u, ey] at ei
              exact same ((congrArg Prod.snd (Option.some.inj ei)).trans ek)
            · omega
      by_cases led : t.led = true
      · refine wp_if_neg (by simp [led]) ?_
        try refine wpAny_bind (wpAny_pure ?_)
        exact tail
      · refine wp_if_pos (by simp [led]) (wpAny_bind (quiet_all S kx (fun u hu => ?_) ?_))
        · obtain ⟨e, he, rfl⟩ := List.mem_map.mp hu
          have he2 : e ∈ es ∧ e.1 = g.hash k := by simpa using he
          have in' : e ∈ es.toList := by simpa using he2.1
          rw [R.ent] at in'
          obtain ⟨v, hv, rfl⟩ := List.mem_map.mp in'
          exact ⟨_, _, rfl, R.key v hv⟩
        · refine wp_if_neg (by decide) ?_
          try refine wpAny_bind (wpAny_pure ?_)
          exact tail
    · have pr : t.probe (fun i => (es[i]?.map (·.1)).getD 0) (g.hash k) (st.getD (t.probeStart (g.hash k))) = some (.empty (way t.mask (g.hash k) z) none) := by
        rw [est, ← cd, ← stepj]
        exact found
      rw [pr]
      dsimp only
      refine wpAny_pure (no fun mem => ?_)
      obtain ⟨y, my, ek⟩ := List.mem_map.mp mem
      obtain ⟨i, ei⟩ := List.getElem?_of_mem my
      obtain ⟨e, ce, ez, pe⟩ := later i y ei ek
      refine none' (e - c) i (by omega) ?_ ((hash i y ei).trans (congrArg g.hash ek))
      rw [stepj, show c + (e - c) = e by omega]
      exact pe
/-- the key k, which stands at x, is put in -/
theorem put_in (S : Sane g) (R : SetG g s.heap a L es ep t) {x : Addr} {k : κ} (kx : g.is s.heap k x) (ro : g.room A) (few : L.length + 1 ≤ 4) {Q : Bool → Shared → Prop}
    (go : ∀ b h' L' es' ep' t', Heap.SameBut a s.heap h' → SetG g h' a L' es' ep' t' → (k ∈ L.map Prod.snd ∧ L' = L ∨ k ∉ L.map Prod.snd ∧ L'.Perm ((x, k) :: L)) → Q b { s with heap := h' }) :
    wpAny (model P w) A (setAddHashed a (.ref x) (g.hash k)) Q E s := by
  obtain ⟨o, oA, oX, oD⟩ := R.at'
  have num := R.num
  have m7 := R.m7
  obtain ⟨z, zb, free, busy⟩ := R.tab.first (by rw [List.length_map]; omega) (g.hash k)
  have zf : z < 100000 := by
    have u : 10 * SetTable.turns t.mask ≤ 1420 := by
      rw [m7]
      decide
    omega
  unfold setAddHashed
  refine wpAny_holding ?_
  rw [show (100000 : Nat) = 99999 + 1 from rfl, setAddHashedIn_succ]
  refine wpAny_bind (wpAny_setState_of oA oD R.fit ?_)
  dsimp only
  refine wp_if_neg (by simp [byScan, Value.scannable]) ?_
  try refine wpAny_bind (wpAny_pure ?_)
  unfold setSearch
  refine wpAny_bind (hunt S R kx ro free busy zb (fun mem => ?_) (fun out => ?_) z 0 100000 none (by omega) (by omega) rfl fun i q ei ek => ?_)
  · exact wpAny_pure (go false s.heap L es ep t (Heap.SameBut.refl a s.heap) R (.inl ⟨mem, rfl⟩))
  · dsimp only
    refine wpAny_bind (wpAny_setState_of oA oD R.fit ?_)
    dsimp only
    obtain ⟨q1, q2, q3, q4, q5, _, _, _, q9⟩ := R.tab.put free busy
    generalize t.put (way t.mask (g.hash k) z) = both at q1 q3 q4 q5 q9 ⊢
    obtain ⟨t1, p⟩ := both
    dsimp only at q1 q3 q4 q5 q9 ⊢
    subst q1
    have ins : (SetTable.insertAt es (SetTable.below t.place (way t.mask (g.hash k) z)) (g.hash k, Value.ref x)).toList =
        (L.take (SetTable.below t.place (way t.mask (g.hash k) z)) ++ (x, k) :: L.drop (SetTable.below t.place (way t.mask (g.hash k) z))).map fun q => (g.hash q.2, Value.ref q.1) := by
      rw [SetTable.toList_insertAt, R.ent, List.map_append, List.map_cons, List.map_take, List.map_drop]
    generalize SetTable.below t.place (way t.mask (g.hash k) z) = p at q2 q3 ins ⊢
    have pm : (L.take p ++ (x, k) :: L.drop p).Perm ((x, k) :: L) := put_perm L p (x, k)
    have tab1 : TabOk t1 ((L.take p ++ (x, k) :: L.drop p).map fun q => g.hash q.2) := by
      rw [List.map_append, List.map_cons, List.map_take, List.map_drop]
      exact q3
    generalize L.take p ++ (x, k) :: L.drop p = L1 at pm tab1 ins
    have len1 : L1.length = L.length + 1 := pm.length_eq
    have one1 : (L1.map Prod.snd).Nodup := (pm.map Prod.snd).nodup_iff.mpr (List.nodup_cons.mpr ⟨out, R.one⟩)
    have num1 : (SetTable.insertAt es p (g.hash k, Value.ref x)).size = L.length + 1 := by
      have u := congrArg List.length ins
      simpa [len1] using u
    generalize SetTable.insertAt es p (g.hash k, Value.ref x) = es1 at ins num1 ⊢
    have last : ∀ t2 : SetTable, TabOk t2 (L1.map fun q => g.hash q.2) → t2.mask = 7 → t2.led = t.led → t2.fill = L.length + 1 → wpAny (model P w) A (storeSet a es1 t2 >>= fun _ => if (!false && t2.tooFull) = true then do setRelay a (SetTable.grown (es.size + 1)); pure true else pure true) Q E s := by
      intro t2 tab2 m2 l2 f2
      refine wpAny_bind (wpAny_storeSet_of oA oD ?_ (by rw [num1, sizeLine_eq]; omega))
      have but : Heap.SameBut a s.heap (s.heap.update a (Obj.putSet es1 t2)) := Heap.SameBut.update ..
      have oA1 := store_at (es' := es1) (t' := t2) oA oD
      generalize s.heap.update a (Obj.putSet es1 t2) = h1 at but oA1 ⊢
      have old : ∀ {q : Addr} {k' : κ}, g.is s.heap k' q → g.is h1 k' q := fun {q k'} u => S.stay u fun o' e => by
        have ne : q ≠ a := by
          rintro rfl
          obtain ⟨o2, vs, n, e2, d2⟩ := S.sq u
          obtain rfl := Option.some.inj (e2.symm.trans oA)
          rw [oD] at d2
          exact nomatch d2
        rw [but.2 q ne]
        exact e
      have loose : ¬ t2.tooFull = true := by
        unfold SetTable.tooFull
        rw [f2, m2]
        simp only [decide_eq_true_eq]
        omega
      refine wp_if_neg (by simp [loose]) ?_
      refine wpAny_pure (go true h1 L1 es1 (ep + 1) t2 but ⟨⟨_, oA1, ⟨oX.1, oX.2.1, oX.2.2⟩, rfl⟩, ins, tab2, one1, fun q hq => ?_, by rw [l2]; exact R.ld, m2, by omega⟩ (.inr ⟨out, pm⟩))
      rcases List.mem_cons.mp (pm.mem_iff.mp hq) with e | hq
      · rw [e]
        exact old kx
      · exact old (R.key q hq)
    rw [List.length_map] at q9
    have both : ∀ r : Bool, wpAny (model P w) A (storeSet a es1 (if r = true then t1 else { t1 with plain := false }) >>= fun _ => if (!false && (if r = true then t1 else { t1 with plain := false }).tooFull) = true then do setRelay a (SetTable.grown (es.size + 1)); pure true else pure true) Q E s := by
      intro r
      cases r with
      | true => exact last t1 tab1 (q4.trans m7) q5 q9
      | false => exact last { t1 with plain := false } ⟨tab1.ris, tab1.dm, tab1.sz, tab1.mok, tab1.bd, tab1.reach⟩ (q4.trans m7) q5 q9
    by_cases pl : t1.plain = true
    · first
        | refine wp_if_pos pl (wpAny_bind (S.byv kx fun r => ?_))
        | refine wpAny_bind (wp_if_pos pl (S.byv kx fun r => ?_))
      exact both r
    · first
        | refine wp_if_neg pl (wpAny_bind (wpAny_pure ?_))
        | refine wpAny_bind (wp_if_neg pl (wpAny_pure ?_))
      exact both true
  · have ih : (L.map fun q => g.hash q.2)[i]? = some (g.hash k) := by
      rw [List.getElem?_map, ei, ← ek]
      rfl
    have il : i < t.place.toList.length := by
      have u := (List.getElem?_eq_some_iff.mp ei).1
      have v := R.tab.sz
      simp only [List.length_map] at v
      simp only [Array.length_toList]
      omega
    obtain ⟨e, ez, we⟩ := R.tab.before free ih (List.getElem?_eq_getElem il)
    exact ⟨e, Nat.zero_le _, ez, by rw [we]; exact List.getElem?_eq_getElem il⟩
/-- what has got in of the first i of the keys ks -/
def Half (ks L : List (Addr × κ)) (i : Nat) : Prop := L.length ≤ i ∧ (∀ q ∈ L, q ∈ ks) ∧ ∀ (j : Nat) q, j < i → ks[j]? = some q → q.2 ∈ L.map Prod.snd
theorem upd_loop (S : Sane g) {I : Addr} {fp wr : List Addr} {G : Array GenState → Array GenState → Prop} {n : Nat} {Pv : Nat → Value → Prop} {St : Nat → Shared → Prop} {B : Result → Shared → Prop}
    (W : WalksS P w A.in1 I fp wr G n Pv St) (D : Addr) (out : D ∉ fp) (ks : List (Addr × κ)) (nk : n = ks.length) (k4 : ks.length ≤ 4) (is : ∀ i v, Pv i v → ∃ q, ks[i]? = some q ∧ v = .ref q.1)
    (old : Heap) (keys : ∀ q ∈ ks, g.is old q.2 q.1) (oD : old.get? D = none) (oW : ∀ b ∈ wr, old.get? b = none) (ro : g.room A.in1) :
    ∀ (m i : Nat) (s : Shared), i + m = n → St i s → (∀ b o, old.get? b = some o → s.heap.get? b = some o) → (∃ L es ep t, SetG g s.heap D L es ep t ∧ Half ks L i) →
      (∀ s' L es ep t, Moved (D :: wr) G s s' → SetG g s'.heap D L es ep t → Half ks L n → (∀ b o, old.get? b = some o → s'.heap.get? b = some o) → B (.ok (.ret .none)) s') →
      codeAny (model P w) A (.builtin "set.update.loop" ⟨[.ref D, .ref I], []⟩) B s := by
  have Dw : D ∉ wr := fun z => out (W.sub _ z)
  have inc : ∀ b ∈ wr, b ∈ D :: wr := fun b z => List.mem_cons_of_mem _ z
  have held : ∀ {u v : Shared}, Moved wr G u v → (∀ b o, old.get? b = some o → u.heap.get? b = some o) → ∀ b o, old.get? b = some o → v.heap.get? b = some o :=
    fun M kp b o e => M.heap b o (fun z => by rw [oW b z] at e; cases e) (kp b o e)
  intro m
  induction m with
  | zero =>
    intro i s im st kp ⟨L, es, ep, t, R, hf⟩ done
    obtain rfl : i = n := by omega
    refine codeAny_builtin F.entry_set_update_loop ?_
    rw [Around.under_plainId F.plain_set_update_loop _]
    show wpAny _ A.in1 (pyNext (.ref I) >>= fun _ => _) _ _ s
    refine wpAny_bind (W.done s _ _ st fun s' M => ?_)
    have kp' := held M kp
    obtain ⟨o, oA, r⟩ := R.at'
    exact wpAny_pure (done s' L es ep t (M.mono inc) { R with at' := ⟨o, M.heap D o Dw oA, r⟩, key := fun q hq => S.stay (keys q (hf.2.1 q hq)) (kp' q.1) } hf kp')
  | succ m ih =>
    intro i s im st kp ⟨L, es, ep, t, R, hf⟩ done
    have lt : i < n := by omega
    refine codeAny_builtin F.entry_set_update_loop ?_
    rw [Around.under_plainId F.plain_set_update_loop _]
    show wpAny _ A.in1 (pyNext (.ref I) >>= fun _ => _) _ _ s
    refine wpAny_bind (W.item i s _ _ lt st fun v s' pv st' M => ?_)
    obtain ⟨q, eq, rfl⟩ := is i v pv
    have kp' := held M kp
    obtain ⟨o, oA, r⟩ := R.at'
    have R' : SetG g s'.heap D L es ep t := { R with at' := ⟨o, M.heap D o Dw oA, r⟩, key := fun q hq => S.stay (keys q (hf.2.1 q hq)) (kp' q.1) }
    have kq : g.is s'.heap q.2 q.1 := S.stay (keys q (List.mem_of_getElem? eq)) (kp' q.1)
    show wpAny _ A.in1 (holding [Value.ref q.1] (setAdd D (.ref q.1)) >>= fun _ => _) _ _ s'
    refine wpAny_bind (wpAny_holding ?_)
    unfold setAdd
    refine wpAny_holding (wpAny_bind (g.pyHash ro kq ?_))
    refine put_in (s := { s' with toks := s'.toks + g.draws q.2 }) S R' kq ro (by have := hf.1; omega) fun b h' L' es' ep' t' but R2 ch => ?_
    have hf' : Half ks L' (i + 1) := by
      rcases ch with ⟨mem, rfl⟩ | ⟨_, pm⟩
      · refine ⟨Nat.le_succ_of_le hf.1, hf.2.1, fun j y ji ey => ?_⟩
        by_cases e : j = i
        · subst e
          obtain rfl := Option.some.inj (ey.symm.trans eq)
          exact mem
        · exact hf.2.2 j y (by omega) ey
      · refine ⟨by rw [pm.length_eq]; exact Nat.succ_le_succ hf.1, fun y hy => ?_, fun j y ji ey => (pm.map Prod.snd).mem_iff.mpr ?_⟩
        · rcases List.mem_cons.mp (pm.mem_iff.mp hy) with e | hy
          · rw [e]
            exact List.mem_of_getElem? eq
          · exact hf.2.1 y hy
        · by_cases e : j = i
          · subst e
            obtain rfl := Option.some.inj (ey.symm.trans eq)
            exact List.mem_cons_self
          · exact List.mem_cons_of_mem _ (hf.2.2 j y (by omega) ey)
    have kp2 : ∀ b o, old.get? b = some o → h'.get? b = some o := fun b o e => (but.2 b (fun z => by rw [z, oD] at e; cases e)).trans (kp' b o e)
    refine wpAny_pure ⟨plainId_quiet F.plain_set_update_loop _, ih (i + 1) _ (by omega) (W.frame _ s' _ _ st' (Nat.le_add_right _ _) fun b hb o e => ?_) kp2 ⟨L', es', ep', t', R2, hf'⟩ fun s2 L2 es2 ep2 t2 M2 R3 f3 kp3 => ?_⟩
    · rw [but.2 b fun z => out (z ▸ hb)]
      exact e
    · refine done s2 L2 es2 ep2 t2 (Moved.trans W.gtrans ((M.mono inc).then_heap (Nat.le_add_right _ _) fun b o hb e => ?_) M2) R3 f3 kp3
      rw [but.2 b fun z => hb (z ▸ List.mem_cons_self)]
      exact e
theorem start (S : Sane g) {h : Heap} {D : Addr} (ks : List (Addr × κ)) (e : h.get? D = some { cls := .type "set", dict := none, data := .set #[] 0 (.fresh 0 0 (!w.params.followText "set-order")) }) :
    ∃ L es ep t, SetG g h D L es ep t ∧ Half ks L 0 := by
  refine ⟨[], #[], 0, _, ⟨⟨_, e, ⟨rfl, rfl, rfl⟩, rfl⟩, rfl, ⟨List.Pairwise.nil, rfl, rfl, .inl rfl, fun x hx => (by cases hx), fun i z j hi => (by simp at hi)⟩, List.nodup_nil, fun q hq => (by cases hq), ?_, rfl, Nat.zero_le _⟩, Nat.le_refl _, fun q hq => (by cases hq), fun j q z _ => absurd z (Nat.not_lt_zero _)⟩
  show _ ∨ (!w.params.followText "set-order") = true
  cases w.params.followText "set-order" with
  | false => exact .inr rfl
  | true => exact .inl rfl
set_option maxHeartbeats 4000000 in
/-- set(t), t a tuple of at most four keys -/
theorem call_setG (S : Sane g) {l : Addr} {items : Array Value} (ks : List (Addr × κ)) {Q : Value → Shared → Prop} (calm : A.handled = none) (lt : s.heap.IsTuple l items) (eq : items.toList = ks.map fun q => Value.ref q.1) (keys : ∀ q ∈ ks, g.is s.heap q.2 q.1) (k4 : ks.length ≤ 4) (ro : g.room A.in1.in1.in1)
    (go : ∀ (h' : Heap) (tk : Nat) L es ep t, SetG g h' s.heap.objs.size L es ep t → Half ks L ks.length → (∀ b o, s.heap.get? b = some o → h'.get? b = some o) → Q (.ref s.heap.objs.size) { s with heap := h', toks := tk }) :
    wpAny (model P w) A (call (.type "set") [.ref l]) Q E s := by
  have nk : items.size = ks.length := by simpa using congrArg List.length eq
  obtain ⟨_, _, hmro⟩ := F.called_set.mro
  have hmade := F.called_set.made
  have hsub := F.called_set.sub
  refine wpAny_call (codeAny_of_tree ?_)
  show wpAny _ _ (callAny (.type "set") _) _ _ _
  refine wpAny_pure ⟨Code.quiet_builtin _ (by decide +kernel), codeAny_builtin F.entry_type_call ?_⟩
  rw [Around.under_plain (weight_type_call_type "set" [.ref l] []) rfl]
  have a1 := F.called_set.notType
  have a2 := F.called_set.canCreate
  have a3 := F.typeCall_set_1 (.ref l)
  repeat (any_goals (first | assumption | wp_step))
  refine codeAny_mono (code_set_led1 (.ref l) (E := E) (Q₁ := fun x z => x = .ref s.heap.objs.size ∧ z = { s with heap := s.heap.push { cls := .type "set", dict := none, data := .set #[] 0 (.fresh 0 0 (!w.params.followText "set-order")) } }) ⟨rfl, rfl⟩) fun r z hr => ?_
  generalize eO : (Obj.mk (.type "set") none (.set #[] 0 (.fresh 0 0 (!w.params.followText "set-order"))) #[] : Obj) = ob at hr
  cases r with
  | error e => exact hr
  | ok fl =>
    cases fl with
    | ret x =>
      obtain ⟨rfl, rfl⟩ := hr
      have atD : (s.heap.push ob).get? s.heap.objs.size = some ob := Heap.get?_push_size _ (by rw [← eO]; rfl)
      have ty : Shared.TypeIs { s with heap := s.heap.push ob } (.ref s.heap.objs.size) "set" := ⟨_, atD, by rw [← eO]⟩
      have b1 := F.called_set.init.lookup
      have b2 := F.called_set.init.bind (.ref s.heap.objs.size)
      repeat (any_goals (first | assumption | wp_step))
      refine codeAny_mono (codeAny_call_builtin (R := wants (fun r z => r = .none ∧ ∃ h' tk L es ep t, z = { s with heap := h', toks := tk } ∧ SetG g h' s.heap.objs.size L es ep t ∧ Half ks L ks.length ∧ (∀ b o, s.heap.get? b = some o → h'.get? b = some o)) E) F.called_set.init.plain F.entry_set_init (check_set_init_1 ty ?_)) fun r z hr => ?_
      · obtain ⟨⟨oc, od, dt, sl⟩, ol, hc, nl, hd⟩ := lt
        dsimp only at hc hd
        subst hc
        subst hd
        have ol' : (s.heap.push ob).get? l = some { cls := .type "tuple", dict := od, data := .seq items nl, slots := sl } := Heap.get?_push_of_some _ ol
        have s1 := F.sub_tuple_set
        have s2 := F.sub_tuple_frozenset
        have s3 : (Value.type "tuple" == Value.type "dict") = false := by decide
        have tup1 : (s.heap.push ob).IsTuple l items := ⟨_, ol', rfl, nl, rfl⟩
        subst eO
        unfold Builtin.«set.__init__» noKeywords Builtin.Frozenset.updateFrom
        generalize hPI : pyIter = PI
        wp_walk
        subst hPI
        refine wpAny_pyIter_tuple tup1 ?_
        refine wpAny_bind (wpAny_runValue ?_)
        have ls : l < s.heap.objs.size := Heap.lt_size ol
        have size1 : ∀ o : Obj, (s.heap.push o).objs.size = s.heap.objs.size + 1 := fun o => Heap.size_push ..
        have none' : ∀ b, s.heap.objs.size ≤ b → s.heap.get? b = none := fun b hb => by
          cases q : s.heap.get? b with
          | none => rfl
          | some o => exact absurd (Heap.lt_size q) (Nat.not_lt.mpr hb)
        refine upd_loop S ((Walks.tuple (by simp [calm]) _ l ?far items).toS) s.heap.objs.size (fun z => ?_) ks nk k4 (fun i v hv => ?_) s.heap keys (none' _ (Nat.le_refl _)) (fun b hb => none' b ?_) ro items.size 0 _ (Nat.zero_add _) ?st
          ?kept (start S ks ?here) fun s' L es ep t M R hf kp => ?_
        case far =>
          rw [size1]
          exact Nat.ne_of_lt (Nat.lt_succ_of_lt ls)
        case here => exact Heap.get?_push_of_some _ atD
        case st => exact ⟨⟨_, Heap.get?_push_size _ rfl, rfl, rfl⟩, tup1.push _⟩
        case kept => exact fun b o e => Heap.get?_push_of_some _ (Heap.get?_push_of_some _ e)
        · rw [size1] at z
          rcases List.mem_cons.mp z with z | z
          · exact absurd z (Nat.ne_of_lt (Nat.lt_succ_self _))
          · exact absurd (List.mem_singleton.mp z) (Nat.ne_of_gt ls)
        · have u : items.toList[i]? = some v := by
            rw [Array.getElem?_toList]
            exact hv
          rw [eq, List.getElem?_map] at u
          obtain ⟨q, hq, rfl⟩ := Option.map_eq_some_iff.mp u
          exact ⟨q, hq, rfl⟩
        · rw [List.mem_singleton.mp hb, size1]
          exact Nat.le_succ _
        · obtain ⟨h', g2, d', tk', os'⟩ := s'
          have e1 : g2 = s.gens := M.gens
          have e2 : d' = s.drawn := M.drawn
          have e3 : os' = s.os := M.os
          subst e1
          subst e2
          subst e3
          refine wpAny_pure (?_ : wpAny _ _ _ _ _ _)
          rw [nk] at hf
          exact wpAny_pure ⟨rfl, h', tk', L, es, ep, t, rfl, R, hf, kp⟩
      · cases r with
        | error e => exact hr
        | ok fl =>
          cases fl with
          | ret r =>
            obtain ⟨rfl, h', tk, L, es, ep, t, rfl, R, hf, kp⟩ := hr
            repeat (any_goals (first | assumption | wp_step))
            exact go _ _ _ _ _ _ R hf kp
          | _ => exact hr.elim
    | _ => exact hr.elim
end
/-- keys that are tuples of texts -/
abbrev txK (P : Program) (w : World) : HeapKind P w (List Str) := tupleKind (PySem.strKind P w)
theorem strs_shape {P : Program} {w : World} {ks : List Str} {vs : List Value} (h : ItemsAre (PySem.strKind P w) ks vs) : ∀ v ∈ vs, ∃ z t, v = Value.str z t := by
  induction h with
  | nil => exact fun v hv => by cases hv
  | @cons k v ks vs h1 _ ih =>
    intro u hu
    rcases List.mem_cons.mp hu with e | hu
    · obtain ⟨t, e2⟩ := Value.isStrOf_shape h1
      exact ⟨k, t, e.trans e2⟩
    · exact ih u hu
theorem str_nocls (n : Nat) (z : Str) (t : Tok) : ofAClassStatement n (.str z t) = pure false := by cases n <;> rfl
theorem str_byv (n : Nat) (z : Str) (t : Tok) : hashByValue n (.str z t) = pure false := by
  cases n <;> simp [hashByValue]
theorem txK_sane {P : Program} {w : World} : Sane (txK P w) where
  cls := fun {A E s k b Q} x go => by
    have ty := IsTupleKey.typeIs x
    obtain ⟨o, items, n, oA, _, oD, oI⟩ := x
    unfold ofAClassStatement
    refine wpAny_bind (wpAny_typeOf ty ?_)
    dsimp only
    have e : (("tuple" : String) == "tuple") = true := by decide
    simp only [e, ↓reduceIte, Bool.not_true, Bool.false_eq_true]
    try refine wpAny_bind (wpAny_pure ?_)
    try simp only [Bool.not_true, Bool.false_eq_true, ↓reduceIte]
    refine wpAny_bind (wpAny_seqItems oA oD ?_)
    dsimp only
    refine wpAny_bind (?_ : wpAny _ _ (forIn items _ _) _ _ s)
    rw [← Array.forIn_toList]
    refine wpAny_forIn_list _ (fun left r z => (r.1 = none ∧ z = s) ∧ ∀ v ∈ left, ∃ z t, v = Value.str z t) _ (fun v left r z I => ?_) (fun r z I => ?_) _ _ ⟨⟨rfl, rfl⟩, strs_shape oI⟩
    · obtain ⟨⟨r0, rfl⟩, al⟩ := I
      obtain ⟨z, t, rfl⟩ := al v List.mem_cons_self
      rw [str_nocls]
      refine wpAny_bind (wpAny_pure ?_)
      simp only [Bool.false_eq_true, ↓reduceIte]
      exact wpAny_pure ⟨⟨rfl, rfl⟩, fun u hu => al u (List.mem_cons_of_mem _ hu)⟩
    · obtain ⟨r1, r2⟩ := r
      obtain ⟨⟨r0, rfl⟩, _⟩ := I
      dsimp only at r0
      subst r0
      exact wpAny_pure go
  byv := fun {A E s k b Q} x go => by
    have ty := IsTupleKey.typeIs x
    obtain ⟨o, items, n, oA, _, oD, oI⟩ := x
    unfold hashByValue
    refine wpAny_bind (wpAny_specialOf ty F.slot_tuple_hash.lookup ?_)
    refine wpAny_bind (wpAny_seqItems oA oD ?_)
    refine wpAny_bind (?_ : wpAny _ _ (forIn items _ _) _ _ s)
    rw [← Array.forIn_toList]
    refine wpAny_forIn_list _ (fun left r z => (r.1 = none ∧ z = s) ∧ ∀ v ∈ left, ∃ z t, v = Value.str z t) _ (fun v left r z I => ?_) (fun r z I => ?_) _ _ ⟨⟨rfl, rfl⟩, strs_shape oI⟩
    · obtain ⟨⟨r0, rfl⟩, al⟩ := I
      obtain ⟨z, t, rfl⟩ := al v List.mem_cons_self
      rw [str_byv]
      refine wpAny_bind (wpAny_pure ?_)
      simp only [Bool.not_false, ↓reduceIte]
      exact wpAny_pure (wpAny_pure (go false))
    · obtain ⟨r1, r2⟩ := r
      obtain ⟨⟨r0, rfl⟩, _⟩ := I
      dsimp only at r0
      subst r0
      exact wpAny_pure (go _)
  stay := fun x kp => let ⟨o, items, n, oA, r⟩ := x; ⟨o, items, n, kp o oA, r⟩
  sq := fun x => let ⟨o, items, n, oA, _, oD, _⟩ := x; ⟨o, _, _, oA, oD⟩
end TX
namespace L2
open PySem PySem.Spec PyProof.Rows
theorem strs_items {P : Program} {w : World} : ∀ {k : List Str} {us : List Value}, Vals (k.map V.str) us → ItemsAre (PySem.strKind P w) k us
  | [], _, .nil => .nil
  | z :: k, _, .cons r t => by
    obtain ⟨tk, rfl⟩ := r
    exact .cons (k := z) (by show (z == z) = true; exact beq_self_eq_true z) (strs_items t)
theorem refsA_of {α : Type} : ∀ {ks : List (Addr × α)} {us : List Value}, Vals (ks.map fun q => V.ref q.1) us → us = ks.map fun q => Value.ref q.1
  | [], _, .nil => rfl
  | p :: ks, _, .cons r t => by
    cases r
    rw [refsA_of t]
    rfl
section
variable {X : Cx}
theorem inv_txt {pins : List (Addr × Obj)} {σ : St} {H : Hp} {s : Shared} {b : Addr} {k : List Str} (I : Inv X pins σ H s) (h : SqT X.K H b (k.map V.str)) : (TX.txK X.prog X.w).is s.heap k b := by
  obtain ⟨its, r, ⟨o, ho, hc, n, hd⟩, _⟩ := I.tuple h
  exact ⟨o, its.toArray, n, ho, hc, hd, by simpa using strs_items r⟩
/-- len(set(t)), t a tuple of at most four tuples of texts -/
def tLenSetT (K : PySem.W.Frag) (ta : TE) : TE := fun σ H Q => ta σ H fun x H1 => ∃ (l : Addr) (ks : List (Addr × List Str)), x = V.ref l ∧ SqT K H1 l (ks.map fun q => V.ref q.1) ∧ (∀ q ∈ ks, SqT K H1 q.1 (q.2.map V.str)) ∧ ks.length ≤ 4 ∧
  ∀ L : List (Addr × List Str), (L.map Prod.snd).Nodup → (∀ q ∈ L, q ∈ ks) → (∀ q ∈ ks, q.2 ∈ L.map Prod.snd) → Q (.int L.length) H1
theorem pe_lenSetT {a : Expr} {ta : TE} {p p2 q pos : Pos} (hc : X.calm = true) (hu : X.A.units + 64 < cLine) (hg : Gl X "len") (hm : X.mg "len" = none) (hg2 : Gl X "set") (hm2 : X.mg "set" = none) (ha : PE X a ta)
    (na : starEach [a] X.env = (false, eval a X.env) :: starEach [] X.env := by rfl) : PE X (.Call (.Name "len" p) [.Call (.Name "set" p2) [a] [] q] [] pos) (tLenSetT X.K ta) := by
  refine ⟨fun pins s σ H Q I h => Call_ (ld_blt I hg hm PySem.boot_len ?_)⟩
  refine PyProof.Rows.callWith_builtin1 (PyProof.Rows.args_cons (Call_ (ld_blt I hg2 hm2 PyProof.Rows.boot_set ?_)) rfl) rfl rfl
  refine PyProof.Rows.callWith_type1 (PyProof.Rows.args_cons (thn (ha.run pins s σ H _ I h) fun v s1 ⟨x, H1, I1, r1, q1⟩ => PyProof.Rows.args_nil ?_) na) na rfl
  obtain ⟨l, ks, rfl, hl, hk, k4, q1⟩ := q1
  cases r1
  obtain ⟨its, r, pl, hz⟩ := I1.tuple hl
  refine TX.call_setG TX.txK_sane ks (I1.ok.hd hc) pl (by simpa using refsA_of r) (fun p hp => inv_txt I1 (hk p hp)) k4 (show X.A.in1.in1.in1.units < cLine from by show X.A.units + 1 + 1 + 1 < cLine; omega) fun h' tk L es ep t R hf kp => ?_
  refine PyProof.Rows.args_nil ?_
  obtain ⟨o, oA, oX, oD⟩ := R.at'
  have I2 : Inv X pins σ H1 { s1 with heap := h', toks := tk } := I1.kept fun b o e => kp b o e
  have num := R.num (s := { s1 with heap := h', toks := tk })
  have le4 := R.le4
  refine call_len_set oA oX oD (R.fit (s := { s1 with heap := h', toks := tk })) (by rw [num]; omega) ⟨.int L.length, H1, I2.tok _, ⟨_, by rw [num]⟩, q1 L R.one hf.2.1 fun y hy => ?_⟩
  obtain ⟨j, ej⟩ := List.getElem?_of_mem hy
  exact hf.2.2 j y (List.getElem?_eq_some_iff.mp ej).1 ej
end
end L2

/-! Whether any value is a subject. -/
namespace LW
open PySem L2 G
abbrev pSubject : Stmt := top 11
abbrev pIsShare : Stmt := top 13
abbrev pUnlike : Stmt := top 14
def unlikeD : PyData → Bool
  | .tuple ds => decide (1 ≤ ds.length) && decide (ds.length ≤ 4) && ds.all (isChainD · 4) && decide (ds.map wordsD).Nodup
  | _ => false
def lenD : PyData → Int
  | .tuple ds => ds.length
  | _ => 0
def shareD : PyData → Bool
  | .tuple [n, c] => unlikeD c && intInD n 1 (lenD c)
  | _ => false
def subjD (d : PyData) : Bool := isChainD d 4 || shareD d
def okTups (d : PyData) : Prop := ∀ ds, d = .tuple ds → ∀ e ∈ ds, okTup e
def okSub (d : PyData) : Prop := okTup d ∧ ∀ ds, d = .tuple ds → ∀ e ∈ ds, okTups e
def spUnlike (K : PySem.W.Frag) : Sp := fun vs H Q _ => ∃ (v : V) (d : PyData), vs = [v] ∧ Da K H v d ∧ okTups d ∧ ∀ H', Same H H' → Q (.bl (unlikeD d)) H'
def spIsShare (K : PySem.W.Frag) : Sp := fun vs H Q _ => ∃ (v : V) (d : PyData), vs = [v] ∧ Da K H v d ∧ (∀ ds, d = .tuple ds → ∀ e ∈ ds, okTups e) ∧ ∀ H', Same H H' → Q (.bl (shareD d)) H'
def spSubject (K : PySem.W.Frag) : Sp := fun vs H Q _ => ∃ (v : V) (d : PyData), vs = [v] ∧ Da K H v d ∧ okSub d ∧ ∀ H', Same H H' → Q (.bl (subjD d)) H'
theorem pigeon {α : Type} : ∀ (A B : List α), A.Nodup → (∀ x ∈ A, x ∈ B) → A.length ≤ B.length ∧ (B.length ≤ A.length → B.Nodup ∧ ∀ x ∈ B, x ∈ A) := by
  classical
  intro A
  induction A with
  | nil =>
    intro B _ _
    refine ⟨Nat.zero_le _, fun h => ?_⟩
    have e : B = [] := List.length_eq_zero_iff.mp (Nat.le_zero.mp h)
    subst e
    exact ⟨List.nodup_nil, fun x hx => hx⟩
  | cons x A ih =>
    intro B nd sub
    obtain ⟨nx, nd'⟩ := List.nodup_cons.mp nd
    have xB : x ∈ B := sub x List.mem_cons_self
    have sub' : ∀ y ∈ A, y ∈ B.erase x := fun y hy => (List.mem_erase_of_ne (fun e : y = x => nx (e ▸ hy))).mpr (sub y (List.mem_cons_of_mem _ hy))
    have pos : 0 < B.length := List.length_pos_of_mem xB
    have le := List.length_erase_of_mem xB
    obtain ⟨h1, h2⟩ := ih (B.erase x) nd' sub'
    refine ⟨by rw [List.length_cons]; omega, fun h => ?_⟩
    rw [List.length_cons] at h
    obtain ⟨h3, h4⟩ := h2 (by omega)
    have pm := List.perm_cons_erase xB
    refine ⟨pm.nodup_iff.mpr (List.nodup_cons.mpr ⟨fun z => nx (h4 x z), h3⟩), fun y hy => ?_⟩
    rcases List.mem_cons.mp (pm.mem_iff.mp hy) with rfl | hy
    · exact List.mem_cons_self
    · exact List.mem_cons_of_mem _ (h4 y hy)
theorem once_iff {α β : Type} {f : α → β} {L ks : List α} (nd : (L.map f).Nodup) (sub : ∀ q ∈ L, q ∈ ks) (all : ∀ q ∈ ks, f q ∈ L.map f) : (L.length = ks.length) ↔ (ks.map f).Nodup := by
  have s2 : ∀ x ∈ L.map f, x ∈ ks.map f := fun x hx => by
    obtain ⟨q, hq, rfl⟩ := List.mem_map.mp hx
    exact List.mem_map.mpr ⟨q, sub q hq, rfl⟩
  have s3 : ∀ x ∈ ks.map f, x ∈ L.map f := fun x hx => by
    obtain ⟨q, hq, rfl⟩ := List.mem_map.mp hx
    exact all q hq
  have p1 := pigeon _ _ nd s2
  rw [List.length_map, List.length_map] at p1
  refine ⟨fun e => (p1.2 (by omega)).1, fun n => ?_⟩
  have p2 := (pigeon _ _ n s3).1
  rw [List.length_map, List.length_map] at p2
  omega
/-- chains that stand in the heap -/
theorem da_chains {K : PySem.W.Frag} {H : Hp} : ∀ {xs : List V} {ds : List PyData}, DaAll K H xs ds → ds.all (isChainD · 4) = true →
    ∃ ks : List (Addr × List Str), xs = ks.map (fun q => V.ref q.1) ∧ ds = ks.map (fun q => PyData.tuple (q.2.map PyData.str)) ∧ ∀ q ∈ ks, SqT K H q.1 (q.2.map V.str)
  | _, _, .nil, _ => ⟨[], rfl, rfl, fun q hq => by cases hq⟩
  | _, _, .cons (d := d) p q, h => by
    rw [List.all_cons, Bool.and_eq_true] at h
    obtain ⟨ws, rfl, _⟩ := chain_inv h.1
    obtain ⟨a, rfl, s⟩ := da_chain p
    obtain ⟨ks, rfl, rfl, hk⟩ := da_chains q h.2
    refine ⟨(a, ws) :: ks, rfl, rfl, fun y hy => ?_⟩
    rcases List.mem_cons.mp hy with rfl | hy
    · exact s
    · exact hk y hy
section
variable {P : Program} {w : World} {K : PySem.W.Frag} {mg : Str → Option Value} {base : Heap}
variable {fC fU fI fS : Addr} {fdC fdU fdI fdS : FuncData}
theorem scUnlike : FnScope ["value", "chain"] ["value"] (defScope pUnlike) := ⟨rfl, rfl, rfl, by decide +kernel, rfl, by decide +kernel, by decide +kernel⟩
theorem ok_unlike {f : Addr} {fd : FuncData} (F : Fun K "_are_unlike_chains" "_are_unlike_chains" pUnlike f fd) (B : Pb mg) (mS : mg "set" = none) (m4 : ∃ t, mg "MAX_CHAINS" = some (.int 4 t))
    (GC : FnOk P w K mg base CX0 2 fC fdC ["value", "most"] (spIsChain K)) (mC : mg "is_chain" = some (.ref fC)) (kC : PySem.W.keepIn K (.ref fC) = true) (bC : Binds K fdC ["value", "most"] []) :
    FnOk P w K mg base CX0 3 f fd ["value"] (spUnlike K) := by
  refine F.ok scUnlike (fun vs H Q E h => ?_) (fun cdv A outer s H vs Q E hr h => ?_)
  · obtain ⟨v, d, rfl, _⟩ := h
    rfl
  · obtain ⟨v, d, rfl, hd, ok, k⟩ := h
    obtain ⟨t4, m4⟩ := m4
    obtain ⟨tN, mN⟩ := B.names
    refine ⟨_, pss_cons (ps_if (PW.pt (pw_or (pt_not (pt_val (pe_callB (call_isD kit_tup) (by rfl) B.isin (by decide +kernel) (pa_cons (pv 0) (pa_cons (pe_bltn (v := .ty "tuple") (by rfl) B.tup (by decide +kernel) rfl) pa_nil)))))
        (pw_or1 (pt_not (pt_chain op_le op_le pe_int (pe_callB call_len (by rfl) B.len PySem.boot_len (pa_cons (pv 0) pa_nil)) (pe_glob (v := .int 4) (by rfl) m4 ⟨_, rfl⟩)))))) (pss_one (ps_ret pe_bl)) pss_nil)
      (pss_one (ps_ret (pe_and (pe_callB (cr_all rfl) (by rfl) B.all (by decide +kernel) (pa_cons (pe_lc (own := [("chain", 1)]) (g := gName 1) (tt := tYes) rfl scUnlike.nd (pi_tup (pv 0))
        (blkOk_by (own := [("chain", 1)]) (N := ["value", "chain"]) (sc := defScope pUnlike) (by decide +kernel))
        (fun _ _ _ _ _ => pg_name (i := 1) scUnlike.nd rfl (Or.inl rfl)) (fun _ _ _ _ _ => pts_nil) (fun _ _ _ _ _ => pe_call GC hr (by rfl) mC kC bC .nil pass0 (pa_cons (pv 1) (pa_cons (pe_glob (v := .int 4) (by rfl) mN ⟨_, rfl⟩) pa_nil)))) pa_nil))
        (pe_one (pe_cmpR op_eq (pe_lenSetT rfl hr.units (by rfl) B.len (by rfl) mS (pv 0)) (pe_callB call_len (by rfl) B.len PySem.boot_len (pa_cons (pv 0) pa_nil)) (nomark _)))))), ?_⟩
    refine ⟨_, rfl, v, d, rfl, hd, _, rfl, ?_⟩
    by_cases hs : isTup d = true
    rotate_left
    · have e : isTup d = false := by simpa using hs
      rw [e]
      refine iteT ?_
      have e2 : unlikeD d = false := by cases d <;> first | rfl | cases e
      have kk := k H (Same.refl H)
      rw [e2] at kk
      exact kk
    rw [hs]
    refine iteF ?_
    obtain ⟨ds, rfl⟩ : ∃ ds, d = .tuple ds := by cases d <;> first | exact ⟨_, rfl⟩ | cases hs
    obtain ⟨a, xs, rfl, hS, hA⟩ : ∃ a xs, v = .ref a ∧ SqT K H a xs ∧ DaAll K H xs ds := by
      cases hd with
      | tup s a => exact ⟨_, _, rfl, s, a⟩
    have L := hA.length
    refine ⟨_, rfl, _, xs.length, rfl, .inr ⟨_, hS, rfl⟩, _, _, rfl, rfl, _, rfl, ?_⟩
    refine ite2 (fun h1 => ?_) (fun h1 => ?_)
    rotate_left
    · refine ⟨_, rfl, iteT ?_⟩
      have n1 : ¬ 1 ≤ ds.length := by
        have := of_decide_eq_false (Bool.eq_false_iff.mpr h1)
        omega
      have kk := k H (Same.refl H)
      rw [show unlikeD (.tuple ds) = false by simp only [unlikeD, decide_eq_false n1, Bool.false_and]] at kk
      exact kk
    have p1 : 1 ≤ ds.length := by
      have := of_decide_eq_true h1
      omega
    refine ⟨_, _, rfl, rfl, _, rfl, ?_⟩
    by_cases h4 : (xs.length : Int) ≤ 4
    rotate_left
    · rw [decide_eq_false h4]
      refine iteT ?_
      have n4 : ¬ ds.length ≤ 4 := by omega
      have kk := k H (Same.refl H)
      rw [show unlikeD (.tuple ds) = false by simp only [unlikeD, decide_eq_false n4, Bool.false_and, Bool.and_false]] at kk
      exact kk
    rw [decide_eq_true h4]
    refine iteF ?_
    have p4 : ds.length ≤ 4 := by omega
    have we : unlikeD (.tuple ds) = (ds.all (isChainD · 4) && decide (ds.map wordsD).Nodup) := by simp only [unlikeD, decide_eq_true p1, decide_eq_true p4, Bool.true_and]
    rw [we] at k
    refine ⟨_, rfl, a, rfl, ⟨_, hS⟩, fun D hD => ?_⟩
    refine lc_it (walk_tup (xs := xs)) (fun i G => G D = some (.lst ((ds.take i).map fun e => V.bl (isChainD e 4))) ∧ Same H G)
      ⟨by rw [upd_same]; rfl, same_new hD⟩ (fun i G _ pv => ?_) (fun i x G G' hi pv y => ?_) (fun G pv => ?_)
    · exact sqT_same pv.2 hS
    · obtain ⟨rfl, hx⟩ := y
      obtain ⟨gD, S⟩ := pv
      obtain ⟨e, he, hde⟩ := da_at hA hx
      have me : e ∈ ds := List.mem_of_getElem? he
      have tk : ds.take (i + 1) = ds.take i ++ [e] := by rw [List.take_add_one, he]; rfl
      refine ⟨rfl, _, rfl, x, e, 4, rfl, hde.same S, ok ds rfl e me, fun G2 S2 => ?_⟩
      refine ⟨_, S2 _ _ gD, by rw [List.length_map, List.length_take, sizeLine_eq]; omega, by rw [upd_same, tk, List.map_append]; rfl, fun b o e' => by rw [upd_ne (ne_of_none e' hD)]; exact S2 _ _ (S _ _ e')⟩
    · obtain ⟨gD, S⟩ := pv
      have ft : ds.take xs.length = ds := List.take_of_length_le (by omega)
      rw [ft] at gD
      refine ⟨D, ds.map (isChainD · 4), rfl, SqL.of (by rw [gD, List.map_map]; rfl), ?_⟩
      have al : (ds.map (isChainD · 4)).all id = ds.all (isChainD · 4) := by
        rw [List.all_map]
        rfl
      rw [al]
      by_cases ch : ds.all (isChainD · 4) = true
      rotate_left
      · have e : ds.all (isChainD · 4) = false := by simpa using ch
        rw [e] at k ⊢
        exact ⟨_, rfl, iteF (k G S)⟩
      rw [ch] at k ⊢
      rw [Bool.true_and] at k
      obtain ⟨ks, rfl, rfl, hk⟩ := da_chains hA ch
      have l4 : ks.length ≤ 4 := by simpa using p4
      refine ⟨_, rfl, iteT ?_⟩
      refine ⟨_, rfl, a, ks, rfl, sqT_same S hS, fun q hq => sqT_same S (hk q hq), l4, fun L nd sub all => ?_⟩
      refine ⟨_, rfl, _, ks.length, rfl, .inr ⟨_, sqT_same S hS, by rw [List.length_map]⟩, rfl, ?_⟩
      have e : decide (V.int L.length = V.int ks.length) = decide ((ks.map fun q => PyData.tuple (q.2.map PyData.str)).map wordsD).Nodup := by
        refine decide_eq_decide.mpr ?_
        have e1 : (ks.map fun q => PyData.tuple (q.2.map PyData.str)).map wordsD = ks.map Prod.snd := by
          rw [List.map_map]
          exact List.map_congr_left fun q _ => wordsD_chain q.2
        rw [e1, ← once_iff nd sub all]
        refine ⟨fun z => ?_, fun z => by rw [z]⟩
        have := V.int.inj z
        omega
      rw [e]
      exact k G S
theorem scIsShare : FnScope ["value", "number", "chains"] ["value"] (defScope pIsShare) := ⟨rfl, rfl, rfl, by decide +kernel, rfl, by decide +kernel, by decide +kernel⟩
theorem ok_isShare {f : Addr} {fd : FuncData} (F : Fun K "_is_share" "_is_share" pIsShare f fd) (B : Pb mg)
    (GU : FnOk P w K mg base CX0 3 fU fdU ["value"] (spUnlike K)) (mU : mg "_are_unlike_chains" = some (.ref fU)) (kU : PySem.W.keepIn K (.ref fU) = true) (bU : Binds K fdU ["value"] [])
    (GI : FnOk P w K mg base CX0 1 fI fdI ["value", "low", "high"] (spInt K)) (mI : mg "is_integer_in" = some (.ref fI)) (kI : PySem.W.keepIn K (.ref fI) = true) (bI : Binds K fdI ["value", "low", "high"] []) :
    FnOk P w K mg base CX0 4 f fd ["value"] (spIsShare K) := by
  refine F.ok scIsShare (fun vs H Q E h => ?_) (fun cdv A outer s H vs Q E hr h => ?_)
  · obtain ⟨v, d, rfl, _⟩ := h
    rfl
  · obtain ⟨v, d, rfl, hd, ok, k⟩ := h
    refine ⟨_, pss_cons (ps_if (PW.pt (pw_or (pt_not (pt_val (pe_callB (call_isD kit_tup) (by rfl) B.isin (by decide +kernel) (pa_cons (pv 0) (pa_cons (pe_bltn (v := .ty "tuple") (by rfl) B.tup (by decide +kernel) rfl) pa_nil)))))
        (pw_or1 (pt_cmpR op_ne (pe_callB call_len (by rfl) B.len PySem.boot_len (pa_cons (pv 0) pa_nil)) pe_int (nomark _))))) (pss_one (ps_ret pe_bl)) pss_nil)
      (pss_cons (ps_asg (pv 0) (pg_tup (n := 2) rfl (pgs_cons (pg_name (i := 1) scIsShare.nd rfl (Or.inl rfl)) (pgs_cons (pg_name (i := 2) scIsShare.nd rfl (Or.inl rfl)) pgs_nil))))
      (pss_one (ps_ret (pe_and (pe_call GU hr (by rfl) mU kU bU .nil pass0 (pa_cons (pv 2) pa_nil))
        (pe_one (pe_call GI (hr.mono (by decide)) (by rfl) mI kI bI .nil pass0 (pa_cons (pv 1) (pa_cons pe_int (pa_cons (pe_callB call_len (by rfl) B.len PySem.boot_len (pa_cons (pv 2) pa_nil)) pa_nil))))))))), ?_⟩
    refine ⟨_, rfl, v, d, rfl, hd, _, rfl, ?_⟩
    by_cases hs : isTup d = true
    rotate_left
    · have e : isTup d = false := by simpa using hs
      rw [e]
      refine iteT ?_
      have e2 : shareD d = false := by cases d <;> first | rfl | cases e
      have kk := k H (Same.refl H)
      rw [e2] at kk
      exact kk
    rw [hs]
    refine iteF ?_
    obtain ⟨ds, rfl⟩ : ∃ ds, d = .tuple ds := by cases d <;> first | exact ⟨_, rfl⟩ | cases hs
    obtain ⟨a, xs, rfl, hS, hA⟩ : ∃ a xs, v = .ref a ∧ SqT K H a xs ∧ DaAll K H xs ds := by
      cases hd with
      | tup s a => exact ⟨_, _, rfl, s, a⟩
    refine ⟨_, rfl, _, xs.length, rfl, .inr ⟨_, hS, rfl⟩, rfl, _, rfl, ?_⟩
    have L := hA.length
    refine ite2 (fun hc => ?_) (fun hc => ?_)
    · have n2 : xs.length ≠ 2 := fun z => by
        rw [z] at hc
        revert hc
        decide
      have e2 : shareD (.tuple ds) = false := by
        unfold shareD
        split
        · rename_i e
          cases e
          exact absurd L n2
        · rfl
      have kk := k H (Same.refl H)
      rw [e2] at kk
      exact kk
    · have n2 : xs.length = 2 := by
        by_cases z : xs.length = 2
        · exact z
        · exfalso
          apply hc
          simp only [Bool.not_eq_true', decide_eq_false_iff_not]
          intro y
          have := V.int.inj y
          omega
      obtain ⟨d1, d2, rfl⟩ : ∃ d1 d2, ds = [d1, d2] := by
        rw [n2] at L
        match ds, L with
        | [d1, d2], _ => exact ⟨d1, d2, rfl⟩
      obtain ⟨x, y, rfl, h1, h2⟩ : ∃ x y, xs = [x, y] ∧ Da K H x d1 ∧ Da K H y d2 := by
        cases hA with
        | cons p q =>
          cases q with
          | cons p' q' =>
            cases q'
            exact ⟨_, _, rfl, p, p'⟩
      refine ⟨_, rfl, a, _, rfl, hS, rfl, _, _, rfl, _, _, rfl, rfl, ?_⟩
      refine ⟨_, rfl, y, d2, rfl, h2, ok _ rfl d2 (by simp), fun H1 S1 => ⟨_, rfl, ?_⟩⟩
      have e : shareD (.tuple [d1, d2]) = (unlikeD d2 && intInD d1 1 (lenD d2)) := rfl
      rw [e] at k
      cases u : unlikeD d2 with
      | false =>
        rw [u] at k
        exact iteF (k H1 S1)
      | true =>
        rw [u] at k
        refine iteT ?_
        obtain ⟨cs, rfl⟩ : ∃ cs, d2 = .tuple cs := by cases d2 <;> first | exact ⟨_, rfl⟩ | cases u
        obtain ⟨b, ys, rfl, hS2, hA2⟩ : ∃ b ys, y = .ref b ∧ SqT K H b ys ∧ DaAll K H ys cs := by
          cases h2 with
          | tup s a => exact ⟨_, _, rfl, s, a⟩
        refine ⟨_, rfl, _, rfl, _, ys.length, rfl, .inr ⟨_, sqT_same S1 hS2, rfl⟩, x, d1, 1, ys.length, rfl, h1.same S1, ?_⟩
        rw [show (ys.length : Int) = lenD (.tuple cs) from by rw [hA2.length]; rfl]
        exact k H1 S1
theorem scSubject : FnScope ["value"] ["value"] (defScope pSubject) := ⟨rfl, rfl, rfl, by decide +kernel, rfl, by decide +kernel, by decide +kernel⟩
theorem ok_subject {f : Addr} {fd : FuncData} (F : Fun K "is_subject" "is_subject" pSubject f fd) (B : Pb mg)
    (GC : FnOk P w K mg base CX0 2 fC fdC ["value", "most"] (spIsChain K)) (mC : mg "is_chain" = some (.ref fC)) (kC : PySem.W.keepIn K (.ref fC) = true) (bC : Binds K fdC ["value", "most"] [])
    (GS : FnOk P w K mg base CX0 4 fS fdS ["value"] (spIsShare K)) (mS : mg "_is_share" = some (.ref fS)) (kS : PySem.W.keepIn K (.ref fS) = true) (bS : Binds K fdS ["value"] []) :
    FnOk P w K mg base CX0 5 f fd ["value"] (spSubject K) := by
  refine F.ok scSubject (fun vs H Q E h => ?_) (fun cdv A outer s H vs Q E hr h => ?_)
  · obtain ⟨v, d, rfl, _⟩ := h
    rfl
  · obtain ⟨v, d, rfl, hd, ok, k⟩ := h
    obtain ⟨tN, mN⟩ := B.names
    refine ⟨_, pss_one (ps_ret (pe_or (pe_call GC (hr.mono (by decide)) (by rfl) mC kC bC .nil pass0 (pa_cons (pv 0) (pa_cons (pe_glob (v := .int 4) (by rfl) mN ⟨_, rfl⟩) pa_nil))) (pe_one (pe_call GS hr (by rfl) mS kS bS .nil pass0 (pa_cons (pv 0) pa_nil))))), ?_⟩
    refine ⟨_, rfl, v, d, 4, rfl, hd, ok.1, fun H1 S1 => ⟨_, rfl, ?_⟩⟩
    unfold subjD at k
    cases c : isChainD d 4 with
    | true =>
      rw [c] at k
      exact iteT (k H1 S1)
    | false =>
      rw [c] at k
      exact iteF ⟨_, rfl, v, d, rfl, hd.same S1, ok.2, fun H2 S2 => k H2 (S1.trans S2)⟩
end
end LW

/-! A subject's text. -/
namespace LW
open PySem L2 G
abbrev pSText : Stmt := top 28
abbrev pShare : Stmt := top 23
/-- whether the tuple at a is no chain, by its first item -/
def spShareQ (K : PySem.W.Frag) : Sp := fun vs H Q _ => ∃ (a : Addr) (xs : List V), vs = [.ref a] ∧ ((∃ z, SqT K H a (.str z :: xs) ∧ Q (.bl false) H) ∨ (∃ n, SqT K H a (.int n :: xs) ∧ Q (.bl true) H))
/-- the chains wss stand at the addresses as -/
def ChainsAt (K : PySem.W.Frag) (H : Hp) (as : List Addr) (wss : List (List Str)) : Prop := as.length = wss.length ∧ ∀ (i : Nat) (a : Addr) (ws : List Str), as[i]? = some a → wss[i]? = some ws → SqT K H a (ws.map V.str)
def shareT (n : Int) (wss : List (List Str)) : Str := Str.empty ++ Str.ofString (toString n) ++ " / " ++ Txt.join " / " (wss.map chainT)
def spSText (K : PySem.W.Frag) : Sp := fun vs H Q _ => ∃ a : Addr, vs = [.ref a] ∧
  ((∃ ws : List Str, SqT K H a (ws.map V.str) ∧ 1 ≤ ws.length ∧ (ws.map (·.length)).sum + ws.length ≤ 100000 ∧ Q (.str (chainT ws)) H) ∨
   (∃ (n : Int) (c : Addr) (as : List Addr) (wss : List (List Str)), SqT K H a [.int n, .ref c] ∧ SqT K H c (as.map V.ref) ∧ ChainsAt K H as wss ∧ wss.length ≤ 8 ∧ (∀ ws ∈ wss, (ws.map (·.length)).sum + ws.length ≤ 1000) ∧ 0 ≤ n ∧ n ≤ 9 ∧ ∀ H', Same H H' → Q (.str (shareT n wss)) H'))
theorem join_le {wss : List (List Str)} (h : ∀ ws ∈ wss, (ws.map (·.length)).sum + ws.length ≤ 1000) : ((wss.map chainT).map (·.length)).sum ≤ 1000 * wss.length := by
  induction wss with
  | nil => simp
  | cons w ws ih =>
    have a := chainT_len (ws := w)
    have b := h w List.mem_cons_self
    have c := ih fun x hx => h x (List.mem_cons_of_mem _ hx)
    simp only [List.map_cons, List.sum_cons, List.length_cons]
    omega
section
variable {P : Program} {w : World} {K : PySem.W.Frag} {mg : Str → Option Value} {base : Heap}
variable {fC fH : Addr} {fdC fdH : FuncData}
theorem scShare : FnScope ["subject"] ["subject"] (defScope pShare) := ⟨rfl, rfl, rfl, by decide +kernel, rfl, by decide +kernel, by decide +kernel⟩
theorem ok_share {f : Addr} {fd : FuncData} (F : Fun K "is_share" "is_share" pShare f fd) (B : Pb mg) : FnOk P w K mg base CX0 1 f fd ["subject"] (spShareQ K) := by
  refine F.ok scShare (fun vs H Q E h => ?_) (fun cdv A outer s H vs Q E hr h => ?_)
  · obtain ⟨a, xs, rfl, _⟩ := h
    rfl
  · obtain ⟨a, xs, rfl, h⟩ := h
    refine ⟨_, pss_one (ps_ret (pe_not (pe_callB (call_isD kit_str) (by rfl) B.isin (by decide +kernel) (pa_cons (pe_ix ix_tup (pv 0) pe_int (fun _ _ => rfl)) (pa_cons (pe_bltn (v := .ty "str") (by rfl) B.str (by decide +kernel) rfl) pa_nil))))), ?_⟩
    rcases h with ⟨z, hS, k⟩ | ⟨n, hS, k⟩
    · exact ⟨_, rfl, a, _, 0, .str z, rfl, rfl, hS, by unfold atI ixN; rw [if_pos (by decide), if_pos (by rw [List.length_cons]; omega)]; rfl, .str z, .str z, rfl, .str z, _, rfl, k⟩
    · exact ⟨_, rfl, a, _, 0, .int n, rfl, rfl, hS, by unfold atI ixN; rw [if_pos (by decide), if_pos (by rw [List.length_cons]; omega)]; rfl, .int n, .int n, rfl, .int n, _, rfl, k⟩
theorem scSText : FnScope ["subject", "number", "chains", "listed", "chain"] ["subject"] (defScope pSText) := ⟨rfl, rfl, rfl, by decide +kernel, rfl, by decide +kernel, by decide +kernel⟩
theorem ok_stext {f : Addr} {fd : FuncData} (F : Fun K "_subject_text" "_subject_text" pSText f fd) (GH : FnOk P w K mg base CX0 1 fH fdH ["subject"] (spShareQ K)) (mH : mg "is_share" = some (.ref fH)) (kH : PySem.W.keepIn K (.ref fH) = true) (bH : Binds K fdH ["subject"] []) (GC : FnOk P w K mg base CX0 1 fC fdC ["chain"] (spCText K)) (mC : mg "_chain_text" = some (.ref fC)) (kC : PySem.W.keepIn K (.ref fC) = true) (bC : Binds K fdC ["chain"] []) :
    FnOk P w K mg base CX0 2 f fd ["subject"] (spSText K) := by
  refine F.ok scSText (fun vs H Q E h => ?_) (fun cdv A outer s H vs Q E hr h => ?_)
  · obtain ⟨a, rfl, _⟩ := h
    rfl
  · obtain ⟨a, rfl, h⟩ := h
    refine ⟨_, pss_cons (ps_if (pt_not (pt_val (pe_call GH hr (by rfl) mH kH bH .nil pass0 (pa_cons (pv 0) pa_nil)))) (pss_one (ps_ret (pe_call GC hr (by rfl) mC kC bC .nil pass0 (pa_cons (pv 0) pa_nil)))) pss_nil)
      (pss_cons (ps_asg (pv 0) (pg_tup (n := 2) rfl (pgs_cons (pg_name (i := 1) scSText.nd rfl (Or.inl rfl)) (pgs_cons (pg_name (i := 2) scSText.nd rfl (Or.inl rfl)) pgs_nil))))
      (pss_cons (ps_set (i := 3) scSText.nd rfl (Or.inl rfl) (pe_join pe_str (pe_lc (own := [("chain", 4)]) (g := gName 4) (tt := tYes) rfl scSText.nd (pi_tup (pv 2))
        (blkOk_by (own := [("chain", 4)]) (N := ["subject", "number", "chains", "listed", "chain"]) (sc := defScope pSText) (by decide +kernel))
        (fun _ _ _ _ _ => pg_name (i := 4) scSText.nd rfl (Or.inl rfl)) (fun _ _ _ _ _ => pts_nil) (fun _ _ _ _ _ => pe_call GC hr (by rfl) mC kC bC .nil pass0 (pa_cons (pv 4) pa_nil)))))
      (pss_one (ps_ret (pe_joined (.cons (pe_fmt (pv 1)) (.cons pe_str (.cons (pe_fmt (pv 3)) .nil)))))))), ?_⟩
    rcases h with ⟨ws, hS, l1, few, k⟩ | ⟨n, c, as, wss, hS, hc, hA, l8, few, n0, n9, k⟩
    · obtain ⟨x, xs, rfl⟩ : ∃ x xs, ws = x :: xs := by
        cases ws with
        | nil => simp at l1
        | cons x xs => exact ⟨x, xs, rfl⟩
      refine ⟨_, rfl, a, xs.map V.str, rfl, .inl ⟨x, hS, ?_⟩⟩
      refine ⟨_, rfl, iteT ?_⟩
      exact ⟨_, rfl, a, x :: xs, rfl, hS, few, k⟩
    · refine ⟨_, rfl, a, _, rfl, .inr ⟨n, hS, ?_⟩⟩
      refine ⟨_, rfl, iteF ?_⟩
      refine ⟨_, rfl, a, _, rfl, hS, rfl, _, _, rfl, _, _, rfl, rfl, ?_⟩
      refine ⟨⟨_, rfl⟩, _, rfl, c, rfl, ⟨_, hc⟩, fun D hD => ?_⟩
      refine lc_it (walk_tup (xs := as.map V.ref)) (fun i G => G D = some (.lst ((wss.take i).map fun ws => V.str (chainT ws))) ∧ Same H G) ⟨by rw [upd_same]; rfl, same_new hD⟩ (fun i G _ pv => ?_) (fun i x G G' hi pv y => ?_) (fun G pv => ?_)
      · obtain ⟨gD, S⟩ := pv
        rcases hc with (q | ⟨o, q⟩) | q
        · exact .inl (.inl (S _ _ q))
        · exact .inl (.inr ⟨o, S _ _ q⟩)
        · exact .inr q
      · obtain ⟨rfl, hx⟩ := y
        obtain ⟨gD, S⟩ := pv
        obtain ⟨b, hb, rfl⟩ : ∃ b, as[i]? = some b ∧ V.ref b = x := by
          rw [List.getElem?_map] at hx
          exact Option.map_eq_some_iff.mp hx
        have hi2 : i < as.length := by
          have := List.getElem?_eq_some_iff.mp hb
          exact this.1
        obtain ⟨ws, hw⟩ : ∃ ws, wss[i]? = some ws := ⟨wss[i]'(by rw [← hA.1]; exact hi2), List.getElem?_eq_getElem _⟩
        have hs := hA.2 i b ws hb hw
        have hs2 : SqT K G' b (ws.map V.str) := by
          rcases hs with (q | ⟨o, q⟩) | q
          · exact .inl (.inl (S _ _ q))
          · exact .inl (.inr ⟨o, S _ _ q⟩)
          · exact .inr q
        have fw := few ws (List.mem_of_getElem? hw)
        have tk : wss.take (i + 1) = wss.take i ++ [ws] := by rw [List.take_add_one, hw]; rfl
        refine ⟨rfl, _, rfl, b, ws, rfl, hs2, by omega, ?_⟩
        refine ⟨_, gD, by rw [List.length_map, List.length_take, sizeLine_eq]; omega, by rw [upd_same, tk, List.map_append]; rfl, fun b o e' => by rw [upd_ne (ne_of_none e' hD)]; exact S _ _ e'⟩
      · obtain ⟨gD, S⟩ := pv
        have ft : wss.take (as.map V.ref).length = wss := List.take_of_length_le (by rw [List.length_map, hA.1]; omega)
        rw [ft] at gD
        have jl := join_le few
        have a3 : (Str.ofString " / ").length = 3 := by decide +kernel
        have a4 : (Str.empty).length = 0 := rfl
        have a1 := num_len n0 (by omega)
        have jn : (Txt.join (Str.ofString " / ") (wss.map chainT)).length ≤ 9000 := by
          rw [show Txt.join (Str.ofString " / ") (wss.map chainT) = Str.join (Str.ofString " / ") (wss.map chainT) from StrLaws.glued_eq_join _ _]
          have h := join_len (Str.ofString " / ") (wss.map chainT)
          rw [a3, List.length_map] at h
          omega
        refine ⟨_, D, wss.map chainT, rfl, rfl, .inl (SqL.of (by rw [gD, List.map_map]; rfl)), by rw [List.length_map, a3]; omega, ?_⟩
        refine ⟨_, rfl, .inr ⟨n, rfl, num_log n0 (by omega), _, rfl, ?_, _, rfl, ?_, _, rfl, .inl ⟨_, rfl, by rw [sizeLine_eq]; omega, _, rfl, ?_, k G S⟩⟩⟩
        · rw [sl, a4, sizeLine_eq]; omega
        · rw [sl, sl, a3, a4, sizeLine_eq]; omega
        · rw [sl, sl, sl, a3, a4, sizeLine_eq]; omega
end
end LW

/-! A leave's text. -/
namespace LW
open PySem L2 G
abbrev pLText : Stmt := top 26
/-- the text of the subject at a -/
def SubjT (K : PySem.W.Frag) (H : Hp) (a : Addr) (t : Str) : Prop := t.length ≤ 100000 ∧ ∀ Q : VK, (∀ H', Same H H' → Q (.str t) H') → spSText K [.ref a] H Q E0
def leaveT (p t : Str) (g h i j : Int) (n : Option Int) : Str := Str.empty ++ p ++ " > " ++ t ++ " : " ++ Str.ofString (toString g) ++ " " ++ Str.ofString (toString h) ++ daysT i j ++ timesT n
def spLText (K : PySem.W.Frag) : Sp := fun vs H Q _ => ∃ (p t : Str) (a b d : Addr) (g h i j : Int) (n : Option Int), vs = [.str p, .ref a, .ref b, .ref d, timesV n] ∧ p.length ≤ 1000 ∧ SubjT K H a t ∧ SqT K H b [.int g, .int h] ∧ 0 ≤ g ∧ g ≤ 10 ^ 30 ∧ 0 ≤ h ∧ h ≤ 10 ^ 30 ∧
  SqT K H d [.int i, .int j] ∧ 0 ≤ i ∧ i ≤ 10 ^ 30 ∧ 0 ≤ j ∧ j ≤ 10 ^ 30 ∧ (∀ x, n = some x → 0 ≤ x ∧ x ≤ 9) ∧ ∀ H', Same H H' → Q (.str (leaveT p t g h i j n)) H'
theorem timesT_len {n : Option Int} (h : ∀ x, n = some x → 0 ≤ x ∧ x ≤ 9) : (timesT n).length ≤ 40 := by
  cases n with
  | none => decide +kernel
  | some i =>
    obtain ⟨i0, i1⟩ := h i rfl
    have a1 := num_len i0 (by omega)
    have a3 : (Str.ofString " + ").length = 3 := by decide +kernel
    have a4 : (Str.empty).length = 0 := rfl
    show (Str.empty ++ Str.ofString " + " ++ Str.ofString (toString i)).length ≤ 40
    rw [sl, sl, a3, a4]
    omega
theorem seqT_same {K : PySem.W.Frag} {H H' : Hp} (S : Same H H') {a : Addr} {xs : List V} (s : SqT K H a xs) : SqT K H' a xs := by
  rcases s with (s | ⟨o, s⟩) | s
  · exact .inl (.inl (S _ _ s))
  · exact .inl (.inr ⟨o, S _ _ s⟩)
  · exact .inr s
section
variable {P : Program} {w : World} {K : PySem.W.Frag} {mg : Str → Option Value} {base : Heap}
variable {fS fD fT : Addr} {fdS fdD fdT : FuncData}
theorem scLText : FnScope ["person", "subject", "tags", "days", "times", "first", "last"] ["person", "subject", "tags", "days", "times"] (defScope pLText) := ⟨rfl, rfl, rfl, by decide +kernel, rfl, by decide +kernel, by decide +kernel⟩
theorem ok_ltext {f : Addr} {fd : FuncData} (F : Fun K "leave_text" "leave_text" pLText f fd) (GS : FnOk P w K mg base CX0 2 fS fdS ["subject"] (spSText K)) (mS : mg "_subject_text" = some (.ref fS)) (kS : PySem.W.keepIn K (.ref fS) = true) (bS : Binds K fdS ["subject"] [])
    (GD : FnOk P w K mg base CX0 1 fD fdD ["days"] (spDText K)) (mD : mg "_days_text" = some (.ref fD)) (kD : PySem.W.keepIn K (.ref fD) = true) (bD : Binds K fdD ["days"] [])
    (GT : FnOk P w K mg base CX0 1 fT fdT ["times"] spTText) (mT : mg "_times_text" = some (.ref fT)) (kT : PySem.W.keepIn K (.ref fT) = true) (bT : Binds K fdT ["times"] []) : FnOk P w K mg base CX0 3 f fd ["person", "subject", "tags", "days", "times"] (spLText K) := by
  refine F.ok scLText (fun vs H Q E h => ?_) (fun cdv A outer s H vs Q E hr h => ?_)
  · obtain ⟨p, t, a, b, d, g, hh, i, j, n, rfl, _⟩ := h
    rfl
  · obtain ⟨p, t, a, b, d, g, hh, i, j, n, rfl, lp, hs, hb, g0, g1, h0, h1, hd, i0, i1, j0, j1, hn, k⟩ := h
    refine ⟨_, pss_cons (ps_asg (pv 2) (pg_tup (n := 2) rfl (pgs_cons (pg_name (i := 5) scLText.nd rfl (Or.inl rfl)) (pgs_cons (pg_name (i := 6) scLText.nd rfl (Or.inl rfl)) pgs_nil))))
      (pss_one (ps_ret (pe_joined (.cons (pe_fmt (pv 0)) (.cons pe_str (.cons (pe_fmt (pe_call GS hr (by rfl) mS kS bS .nil pass0 (pa_cons (pv 1) pa_nil))) (.cons pe_str (.cons (pe_fmt (pv 5)) (.cons pe_str (.cons (pe_fmt (pv 6))
        (.cons (pe_fmt (pe_call GD (hr.mono (by decide)) (by rfl) mD kD bD .nil pass0 (pa_cons (pv 3) pa_nil))) (.cons (pe_fmt (pe_call GT (hr.mono (by decide)) (by rfl) mT kT bT .nil pass0 (pa_cons (pv 4) pa_nil))) .nil)))))))))))), ?_⟩
    obtain ⟨lt, hs⟩ := hs
    have b1 := daysT_len i0 i1 j0 j1
    have b2 := timesT_len hn
    have b3 := num_len g0 g1
    have b4 := num_len h0 h1
    have c1 : (Str.ofString " > ").length = 3 := by decide +kernel
    have c2 : (Str.ofString " : ").length = 3 := by decide +kernel
    have c4 : (Str.empty).length = 0 := rfl
    refine ⟨_, rfl, b, _, rfl, hb, rfl, _, _, rfl, _, _, rfl, rfl, ?_⟩
    refine ⟨_, rfl, .inl ⟨p, rfl, by rw [sizeLine_eq]; omega, _, rfl, ?_, _, rfl, ?_, _, rfl, ?_⟩⟩
    · simp only [sl, c1, c2, c4, blank]; rw [sizeLine_eq]; omega
    · simp only [sl, c1, c2, c4, blank]; rw [sizeLine_eq]; omega
    dsimp only
    unfold tNil
    dsimp only
    refine hs _ fun H1 S1 => ?_
    refine .inl ⟨t, rfl, by rw [sizeLine_eq]; omega, _, rfl, ?_, _, rfl, ?_, _, rfl, .inr ⟨g, rfl, num_log g0 g1, _, rfl, ?_, _, rfl, ?_, _, rfl, .inr ⟨hh, rfl, num_log h0 h1, _, rfl, ?_,
      _, rfl, d, i, j, rfl, seqT_same S1 hd, i0, i1, j0, j1, .inl ⟨_, rfl, by rw [sizeLine_eq]; omega, _, rfl, ?_, _, rfl, n, rfl, hn, .inl ⟨_, rfl, by rw [sizeLine_eq]; omega, _, rfl, ?_, k H1 S1⟩⟩⟩⟩⟩
    all_goals (simp only [sl, c1, c2, c4, blank]; rw [sizeLine_eq]; omega)
end
end LW

/-! The errors of leaves. -/
namespace LW
open PySem L2 G
abbrev eSubject : Stmt := inClass (top 19) 0
abbrev eTimes : Stmt := inClass (top 20) 0
section
variable {P : Program} {w : World} {K : PySem.W.Frag} {mg : Str → Option Value} {base : Heap} {C fI : Addr} {fd : FuncData}
theorem scE4 : FnScope ["self", "value"] ["self", "value"] (defScope eSubject) := ⟨rfl, rfl, rfl, by decide +kernel, rfl, by decide +kernel, by decide +kernel⟩
theorem er_subject (g : mg "InvalidSubject" = some (.ref C)) (T : OexC K C) (nf : PySem.W.findIn K (.ref C) "value" = some none) (iC : PySem.W.findIn K (.ref C) "__init__" = some (some (.ref fI))) (tI : PySem.W.typeIn K (.ref fI) = some (.type "function"))
    (F : Fun K "__init__" "InvalidSubject.__init__" eSubject fI fd) : Er P w K mg base "InvalidSubject" C fI fd := by
  refine ⟨g, T, iC, tI, F.ok scE4 (fun vs H Q E h => ?_) (fun cdv A outer s H vs Q E hr h => ?_), F.binds fun _ _ _ _ _ _ us hl => match us, hl with | [_, _], _ => rfl⟩
  · obtain ⟨a, v, rfl, _⟩ := h
    rfl
  · obtain ⟨a, v, rfl, ea, q⟩ := h
    exact ⟨_, pss_one (ps_ost (pv 0) (pv 1)), ⟨_, rfl, _, rfl, a, C, rfl, T, nf, .inl ⟨ea, fun d n ne => q d n ne⟩⟩⟩
theorem scE5 : FnScope ["self", "value"] ["self", "value"] (defScope eTimes) := ⟨rfl, rfl, rfl, by decide +kernel, rfl, by decide +kernel, by decide +kernel⟩
theorem er_times (g : mg "InvalidTimes" = some (.ref C)) (T : OexC K C) (nf : PySem.W.findIn K (.ref C) "value" = some none) (iC : PySem.W.findIn K (.ref C) "__init__" = some (some (.ref fI))) (tI : PySem.W.typeIn K (.ref fI) = some (.type "function"))
    (F : Fun K "__init__" "InvalidTimes.__init__" eTimes fI fd) : Er P w K mg base "InvalidTimes" C fI fd := by
  refine ⟨g, T, iC, tI, F.ok scE5 (fun vs H Q E h => ?_) (fun cdv A outer s H vs Q E hr h => ?_), F.binds fun _ _ _ _ _ _ us hl => match us, hl with | [_, _], _ => rfl⟩
  · obtain ⟨a, v, rfl, _⟩ := h
    rfl
  · obtain ⟨a, v, rfl, ea, q⟩ := h
    exact ⟨_, pss_one (ps_ost (pv 0) (pv 1)), ⟨_, rfl, _, rfl, a, C, rfl, T, nf, .inl ⟨ea, fun d n ne => q d n ne⟩⟩⟩
end
end LW

/-! Leave: its __init__. -/
namespace LW
open PySem L2 G
abbrev sLvI : Stmt := inClass (top 34) 0
/-- what the class of Leaves says -/
structure LeaC (K : PySem.W.Frag) (C : Addr) : Prop where
  cl : Cls K C
  n1 : NoAttr K C "_person"
  n2 : NoAttr K C "_days"
  n3 : NoAttr K C "_text"
  n4 : NoAttr K C "_subject"
  n5 : NoAttr K C "_tags"
  n6 : NoAttr K C "_times"
abbrev g4 (p d t j : V) : List (Str × V) := [("_person", p), ("_days", d), ("_text", t), ("_subject", j)]
abbrev g5 (p d t j g : V) : List (Str × V) := [("_person", p), ("_days", d), ("_text", t), ("_subject", j), ("_tags", g)]
abbrev g6 (p d t j g n : V) : List (Str × V) := [("_person", p), ("_days", d), ("_text", t), ("_subject", j), ("_tags", g), ("_times", n)]
theorem qut4 {p d t j : V} : putF "_subject" j (f3 p d t) = g4 p d t j := by
  have h1 : ¬ (Str.ofString "_person" = Str.ofString "_subject") := by decide +kernel
  have h2 : ¬ (Str.ofString "_days" = Str.ofString "_subject") := by decide +kernel
  have h3 : ¬ (Str.ofString "_text" = Str.ofString "_subject") := by decide +kernel
  simp [putF, h1, h2, h3]
theorem qut5 {p d t j g : V} : putF "_tags" g (g4 p d t j) = g5 p d t j g := by
  have h1 : ¬ (Str.ofString "_person" = Str.ofString "_tags") := by decide +kernel
  have h2 : ¬ (Str.ofString "_days" = Str.ofString "_tags") := by decide +kernel
  have h3 : ¬ (Str.ofString "_text" = Str.ofString "_tags") := by decide +kernel
  have h4 : ¬ (Str.ofString "_subject" = Str.ofString "_tags") := by decide +kernel
  simp [putF, h1, h2, h3, h4]
theorem qut6 {p d t j g n : V} : putF "_times" n (g5 p d t j g) = g6 p d t j g n := by
  have h1 : ¬ (Str.ofString "_person" = Str.ofString "_times") := by decide +kernel
  have h2 : ¬ (Str.ofString "_days" = Str.ofString "_times") := by decide +kernel
  have h3 : ¬ (Str.ofString "_text" = Str.ofString "_times") := by decide +kernel
  have h4 : ¬ (Str.ofString "_subject" = Str.ofString "_times") := by decide +kernel
  have h5 : ¬ (Str.ofString "_tags" = Str.ofString "_times") := by decide +kernel
  simp [putF, h1, h2, h3, h4, h5]
/-- the text of a subject -/
def subjT (d : PyData) : Str := if isChainD d 4 then chainT (wordsD d) else match d with
  | .tuple [.int n, .tuple cs] => shareT n (cs.map wordsD)
  | _ => Str.empty
def timesO : PyData → Option Int
  | .int i => some i
  | _ => none
def leaTD (dp dj dg dd dn : PyData) : Str := leaveT (strD dp) (subjT dj) (intsD dg).1 (intsD dg).2 (intsD dd).1 (intsD dd).2 (timesO dn)
/-- Leave's __init__: C the class, the others the errors' classes -/
def spLea (K : PySem.W.Frag) (C CW CJ CS CT : Addr) : Sp := fun vs H Q E => ∃ (a dx : Addr) (vp vj vg vd vn : V) (dp dj dg dd dn : PyData), vs = [.ref a, vp, vj, vg, vd, vn] ∧ H a = some (.ins C dx []) ∧ Da K H vp dp ∧ Da K H vj dj ∧ Da K H vg dg ∧ Da K H vd dd ∧ Da K H vn dn ∧
  okStr dp ∧ okSub dj ∧
  (isWordD dp = false → Wants E CW vp H) ∧ (isWordD dp = true → subjD dj = false → Wants E CJ vj H) ∧ (isWordD dp = true → subjD dj = true → isStretchD dg = false → Wants E CS vg H) ∧
  (isWordD dp = true → subjD dj = true → isStretchD dg = true → dd ≠ .none → isStretchD dd = false → Wants E CS vd H) ∧
  (isWordD dp = true → subjD dj = true → isStretchD dg = true → dd = .none ∨ isStretchD dd = true → isTimesD dn = false → Wants E CT vn H) ∧
  (isWordD dp = true → subjD dj = true → isStretchD dg = true → dd = .none ∨ isStretchD dd = true → isTimesD dn = true → ∀ (st : V) (H' : Hp), (∀ b o, H b = some o → b ≠ a → H' b = some o) → H' a = some (.ins C dx (g6 vp st (.str (leaTD dp dj dg dd dn)) vj vg vn)) → StAt K H' vd st dd → Q .non H')
theorem sumW {ws : List Str} (h : ∀ z ∈ ws, z.length ≤ 8) (n : ws.length ≤ 5) : (ws.map (·.length)).sum + ws.length ≤ 45 := by
  have := sum_le8 h
  omega
theorem times_inv {K : PySem.W.Frag} {H : Hp} {v : V} {d : PyData} (h : isTimesD d = true) (x : Da K H v d) : v = timesV (timesO d) ∧ ∀ i, timesO d = some i → 0 ≤ i ∧ i ≤ 9 := by
  cases x with
  | non => exact ⟨rfl, fun i e => by cases e⟩
  | int i =>
    have h2 : (decide (0 ≤ i) && decide (i ≤ 9)) = true := h
    simp only [Bool.and_eq_true, decide_eq_true_eq] at h2
    exact ⟨rfl, fun j e => by cases e; exact h2⟩
  | _ => cases h
theorem subj_at {K : PySem.W.Frag} {H : Hp} {v : V} {d : PyData} (h : subjD d = true) (x : Da K H v d) : ∃ a, v = .ref a ∧ SubjT K H a (subjT d) := by
  unfold subjD at h
  by_cases cn : isChainD d 4 = true
  · obtain ⟨ws, rfl, w1, w5, w8⟩ := chain_inv cn
    obtain ⟨a, rfl, hS⟩ := da_chain x
    have few := sumW w8 (by omega)
    have e : subjT (.tuple (ws.map PyData.str)) = chainT ws := by
      unfold subjT
      rw [if_pos cn, wordsD_chain]
    have l := chainT_len (ws := ws)
    rw [e]
    exact ⟨a, rfl, by omega, fun Q k => ⟨a, rfl, .inl ⟨ws, hS, w1, by omega, k H (Same.refl H)⟩⟩⟩
  · have c2 : isChainD d 4 = false := by simpa using cn
    rw [c2, Bool.false_or] at h
    obtain ⟨n, c, rfl⟩ : ∃ n c, d = .tuple [n, c] := by
      unfold shareD at h
      split at h
      · exact ⟨_, _, rfl⟩
      · cases h
    have h2 : (unlikeD c && intInD n 1 (lenD c)) = true := h
    rw [Bool.and_eq_true] at h2
    obtain ⟨u, hn⟩ := h2
    obtain ⟨cs, rfl⟩ : ∃ cs, c = .tuple cs := by cases c <;> first | exact ⟨_, rfl⟩ | cases u
    obtain ⟨m, rfl⟩ : ∃ m, n = .int m := by cases n <;> first | exact ⟨_, rfl⟩ | cases hn
    have u2 : (decide (1 ≤ cs.length) && decide (cs.length ≤ 4) && cs.all (isChainD · 4) && decide (cs.map wordsD).Nodup) = true := u
    simp only [Bool.and_eq_true, decide_eq_true_eq] at u2
    have hn2 : (decide (1 ≤ m) && decide (m ≤ (cs.length : Int))) = true := hn
    simp only [Bool.and_eq_true, decide_eq_true_eq] at hn2
    obtain ⟨a, v1, v2, rfl, hS, hA1, hA2⟩ : ∃ a v1 v2, v = .ref a ∧ SqT K H a [v1, v2] ∧ Da K H v1 (.int m) ∧ Da K H v2 (.tuple cs) := by
      cases x with
      | tup s a =>
        cases a with
        | cons p q =>
          cases q with
          | cons p' q' =>
            cases q'
            exact ⟨_, _, _, rfl, s, p, p'⟩
    cases hA1
    obtain ⟨b, ys, rfl, hB, hY⟩ : ∃ b ys, v2 = .ref b ∧ SqT K H b ys ∧ DaAll K H ys cs := by
      cases hA2 with
      | tup s a => exact ⟨_, _, rfl, s, a⟩
    obtain ⟨ks, rfl, rfl, hk⟩ := da_chains hY u2.1.2
    have ew : (ks.map fun q => PyData.tuple (q.2.map PyData.str)).map wordsD = ks.map Prod.snd := by
      rw [List.map_map]
      exact List.map_congr_left fun q _ => wordsD_chain q.2
    have e : subjT (.tuple [.int m, .tuple (ks.map fun q => PyData.tuple (q.2.map PyData.str))]) = shareT m (ks.map Prod.snd) := by
      unfold subjT
      rw [if_neg (by rw [c2]; exact Bool.false_ne_true)]
      dsimp only
      rw [ew]
    have l4 : ks.length ≤ 4 := by simpa using u2.1.1.2
    have each : ∀ ws ∈ ks.map Prod.snd, (ws.map (·.length)).sum + ws.length ≤ 1000 := fun ws hw => by
      obtain ⟨q, hq, rfl⟩ := List.mem_map.mp hw
      have cq : isChainD (PyData.tuple (q.2.map PyData.str)) 4 = true := List.all_eq_true.mp u2.1.2 _ (List.mem_map.mpr ⟨q, hq, rfl⟩)
      obtain ⟨ws', e', w1, w5, w8⟩ := chain_inv cq
      have e2 : q.2 = ws' := by
        have := congrArg wordsD e'
        rwa [wordsD_chain, wordsD_chain] at this
      rw [← e2] at w5 w8
      have := sumW w8 (by omega)
      omega
    have jl := join_le each
    have a3 : (Str.ofString " / ").length = 3 := by decide +kernel
    have a4 : (Str.empty).length = 0 := rfl
    have a1 := num_len (i := m) (by omega) (by simp at hn2; omega)
    have hm9 : m ≤ 9 := by simp at hn2; omega
    refine ⟨a, rfl, ?_, fun Q k => ⟨a, rfl, .inr ⟨m, b, ks.map Prod.fst, ks.map Prod.snd, hS, ?_, ⟨by simp, fun i c ws hi hw => ?_⟩, by simp; omega, each, by omega, hm9, ?_⟩⟩⟩
    · rw [e]
      unfold shareT
      have jn : (Txt.join (Str.ofString " / ") ((ks.map Prod.snd).map chainT)).length ≤ 9000 := by
        rw [show Txt.join (Str.ofString " / ") ((ks.map Prod.snd).map chainT) = Str.join (Str.ofString " / ") ((ks.map Prod.snd).map chainT) from StrLaws.glued_eq_join _ _]
        have h := join_len (Str.ofString " / ") ((ks.map Prod.snd).map chainT)
        rw [a3, List.length_map, List.length_map] at h
        rw [List.length_map] at jl
        omega
      rw [sl, sl, sl, a3, a4]
      omega
    · rw [List.map_map]
      exact hB
    · rw [List.getElem?_map] at hi hw
      obtain ⟨q, hq, rfl⟩ := Option.map_eq_some_iff.mp hi
      rw [hq] at hw
      cases hw
      exact hk q (List.mem_of_getElem? hq)
    · intro H' S
      rw [← e]
      exact k H' S
theorem SubjT.same {K : PySem.W.Frag} {H H' : Hp} {v : V} {d : PyData} {a : Addr} (h : subjD d = true) (x : Da K H v d) (S : Same H H') (e : v = .ref a) : SubjT K H' a (subjT d) := by
  obtain ⟨b, e2, y⟩ := subj_at h (x.same S)
  rw [e] at e2
  cases e2
  exact y
section
variable {P : Program} {w : World} {K : PySem.W.Frag} {mg : Str → Option Value} {base : Heap}
variable {C CW CJ CS CT fW fJ fD fS fT fG fN fE1 fE2 : Addr} {fdW fdJ fdD fdS fdT fdG fdN fdE1 fdE2 : FuncData}
abbrev nmL : List Str := ["self", "person", "subject", "tags", "days", "times", "stretch"]
abbrev psL : List Str := ["self", "person", "subject", "tags", "days", "times"]
theorem scLvI : ScopeS nmL psL (defScope sLvI) := ⟨rfl, rfl, rfl, by decide +kernel, rfl, by decide +kernel, by decide +kernel, by decide +kernel, by decide +kernel, by decide +kernel, by decide +kernel⟩
theorem ok_leaI {f : Addr} {fd : FuncData} (F : FunS K "__init__" "Leave.__init__" sLvI 2 C f fd) (B : Pb mg) (c : LeaC K C)
    (GW : FnOk PySem.Challenge.pw_namechains_k79_statements_written_and_re w K mg base (L2.CX PySem.Challenge.pw_namechains_k79_statements_written_and_re w) 3 fW fdW ["value"] (spCheckW K CW)) (mW : mg "_check_word" = some (.ref fW)) (kW : PySem.W.keepIn K (.ref fW) = true) (bW : Binds K fdW ["value"] [])
    (GJ : FnOk PySem.Challenge.pw_namechains_k79_statements_written_and_re w K mg base CX0 5 fJ fdJ ["value"] (spSubject K)) (mJ : mg "is_subject" = some (.ref fJ)) (kJ : PySem.W.keepIn K (.ref fJ) = true) (bJ : Binds K fdJ ["value"] [])
    (R1 : Er PySem.Challenge.pw_namechains_k79_statements_written_and_re w K mg base "InvalidSubject" CJ fE1 fdE1)
    (GG : FnOk PySem.Challenge.pw_namechains_k79_statements_written_and_re w K mg base (L2.CX PySem.Challenge.pw_namechains_k79_statements_written_and_re w) 3 fG fdG ["value"] (spCheckS K CS)) (mG : mg "_check_stretch" = some (.ref fG)) (kG : PySem.W.keepIn K (.ref fG) = true) (bG : Binds K fdG ["value"] [])
    (GD : FnOk PySem.Challenge.pw_namechains_k79_statements_written_and_re w K mg base (L2.CX PySem.Challenge.pw_namechains_k79_statements_written_and_re w) 4 fD fdD ["value"] (spDays K CS)) (mD : mg "_checked_days" = some (.ref fD)) (kD : PySem.W.keepIn K (.ref fD) = true) (bD : Binds K fdD ["value"] [])
    (GN : FnOk PySem.Challenge.pw_namechains_k79_statements_written_and_re w K mg base CX0 2 fN fdN ["value"] (spIsTimes K)) (mN : mg "is_times" = some (.ref fN)) (kN : PySem.W.keepIn K (.ref fN) = true) (bN : Binds K fdN ["value"] [])
    (R2 : Er PySem.Challenge.pw_namechains_k79_statements_written_and_re w K mg base "InvalidTimes" CT fE2 fdE2)
    (GT : FnOk PySem.Challenge.pw_namechains_k79_statements_written_and_re w K mg base CX0 3 fT fdT ["person", "subject", "tags", "days", "times"] (spLText K)) (mT : mg "leave_text" = some (.ref fT)) (kT : PySem.W.keepIn K (.ref fT) = true) (bT : Binds K fdT ["person", "subject", "tags", "days", "times"] [])
    (Y : SupOk K mg C C fS) (GS : FnOk PySem.Challenge.pw_namechains_k79_statements_written_and_re w K mg base CX0 1 fS fdS ["self", "person", "days", "text"] (spStatC K C)) (bS : Binds K fdS ["self", "person", "days", "text"] []) :
    FnOk PySem.Challenge.pw_namechains_k79_statements_written_and_re w K mg base (L2.CX PySem.Challenge.pw_namechains_k79_statements_written_and_re w) 6 f fd psL (spLea K C CW CJ CS CT) := by
  refine fun_okS (pre := (defBody sLvI).take 5) (sup := (defBody sLvI).getD 5 (.Pass ⟨0, 0, 0, 0⟩)) (post := (defBody sLvI).drop 6) F scLvI (fun vs H Q E h => ?_) rfl
    (fun oc od dV kV doc pm an cda cc ct osl cl cld csl ccl cdd vs0 ccs tf lk hcc hcd hv2 A outer s H vs Q E hr h => ?_)
  · obtain ⟨a, dx, vp, vj, vg, vd, vn, dp, dj, dg, dd, dn, rfl, _⟩ := h
    rfl
  · obtain ⟨a, dx, vp, vj, vg, vd, vn, dp, dj, dg, dd, dn, rfl, ea, hp, hj, hg, hd, hn, op, oj, e1, e2, e3, e4, e5, k⟩ := h
    have pass : Passes (L2.CX PySem.Challenge.pw_namechains_k79_statements_written_and_re w) (cxS (L2.CX PySem.Challenge.pw_namechains_k79_statements_written_and_re w) PySem.Challenge.pw_namechains_k79_statements_written_and_re w K mg base nmL "Leave.__init__" (defScope sLvI) f cda cc A outer s H E) E :=
      passes_call (takes_of rfl rfl rfl rfl) fun _ _ _ _ h => h
    refine ⟨_, _, _, pss_cons (ps_expr (pe_call GW (hr.mono (by decide)) (by rfl) mW kW bW .nil pass (pa_cons (pv 1) pa_nil)))
        (pss_cons (ps_if (pt_not (pt_val (pe_call GJ hr (by rfl) mJ kJ bJ .nil pass0 (pa_cons (pv 2) pa_nil))))
          (pss_one (ps_raise rfl (takes_of rfl rfl rfl rfl) (pmk_oex (C := CJ) (fI := fE1) R1.T R1.iC R1.tI R1.I (hr.mono (by decide)) R1.b .nil pass0 (by rfl) R1.g (pa_cons (pv 2) pa_nil)))) pss_nil)
        (pss_cons (ps_expr (pe_call GG (hr.mono (by decide)) (by rfl) mG kG bG .nil pass (pa_cons (pv 3) pa_nil)))
        (pss_cons (ps_set (i := 6) scLvI.nd rfl (Or.inl rfl) (pe_call GD (hr.mono (by decide)) (by rfl) mD kD bD .nil pass (pa_cons (pv 4) pa_nil)))
        (pss_one (ps_if (pt_not (pt_val (pe_call GN (hr.mono (by decide)) (by rfl) mN kN bN .nil pass0 (pa_cons (pv 5) pa_nil))))
          (pss_one (ps_raise rfl (takes_of rfl rfl rfl rfl) (pmk_oex (C := CT) (fI := fE2) R2.T R2.iC R2.tI R2.I (hr.mono (by decide)) R2.b .nil pass0 (by rfl) R2.g (pa_cons (pv 5) pa_nil)))) pss_nil))))),
      fun pins z σ G Dn I ht => at_super (C := C) (pl := (do return (← importBound (.Call (.Name "super" _) [] [] _) _).getD true)) scLvI lk hcc hcd hv2 ⟨_, rfl, rfl, by decide +kernel⟩ rfl (by decide +kernel) Y GS bS (hr.mono (by decide)) pass0
        (pa_cons (pv 1) (pa_cons (pv 6) (pa_cons (pe_call GT (hr.mono (by decide)) (by rfl) mT kT bT .nil pass0 (pa_cons (pv 1) (pa_cons (pv 2) (pa_cons (pv 3) (pa_cons (pv 6) (pa_cons (pv 5) pa_nil)))))) pa_nil))) (by rfl) (by rfl) (by rfl) (by rfl) I ht,
      pss_cons (ps_fld (pv 0) (pv 2) rfl) (pss_cons (ps_fld (pv 0) (pv 3) rfl) (pss_one (ps_fld (pv 0) (pv 5) rfl))), ?_⟩
    refine ⟨_, rfl, vp, dp, rfl, hp, op, fun wp H1 S1 => ?_, fun wp => e1 wp⟩
    refine ⟨_, rfl, vj, dj, rfl, hj.same S1, oj, fun H2 S2 => ?_⟩
    have S02 := S1.trans S2
    refine ⟨_, rfl, ?_⟩
    cases wj : subjD dj with
    | false => exact iteT (mk_er (fun R h => ⟨_, rfl, h⟩) ((e2 wp wj).same S02))
    | true =>
      refine iteF ?_
      refine ⟨_, rfl, vg, dg, rfl, hg.same S02, fun wg => ?_, fun wg => (e3 wp wj wg).same S02⟩
      obtain ⟨zp, rfl, _, lp⟩ := word_inv wp
      cases hp
      obtain ⟨aj, ej, tj⟩ := subj_at wj hj
      obtain ⟨g, h, rfl, g0, gh, h1⟩ := stretch_inv wg
      obtain ⟨ag, rfl, hg0⟩ := da_pair hg
      have go : ∀ (st : V) (q : Addr) (i j : Int) (H4 : Hp), Same H H4 → st = .ref q → SqT K H4 q [.int i, .int j] → 0 ≤ i → i ≤ 10 ^ 30 → 0 ≤ j → j ≤ 10 ^ 30 → StAt K H4 vd st dd → intsD dd = (i, j) → (dd = .none ∨ isStretchD dd = true) → isTimesD dn = true →
          tSup C (spStatC K C) E0 (tCons (tVar 1) (tCons (tVar 6) (tCons (tCall (spLText K) [] E0 (tCons (tVar 1) (tCons (tVar 2) (tCons (tVar 3) (tCons (tVar 6) (tCons (tVar 5) tNil)))))) tNil)))
            { nx := fun σ2 H2 => tSeq (sFld K (tVar 0) (tVar 2) "_subject") (tSeq (sFld K (tVar 0) (tVar 3) "_tags") (sFld K (tVar 0) (tVar 5) "_times")) { nx := fun _ H3 => Q .non H3, rt := Q } σ2 H2, rt := Q } [some (.ref a), some (.str zp), some vj, some (.ref ag), some vd, some vn, some st] H4 := by
        intro st q i j H4 S04 est hst i0 i1 j0 j1 hSt hij hdd wn
        subst est
        subst ej
        have ea4 : H4 a = some (.ins C dx []) := S04 _ _ ea
        obtain ⟨en, n9⟩ := times_inv wn hn
        subst en
        refine ⟨a, dx, [], rfl, ea4, _, rfl, _, rfl, _, rfl, _, rfl, _, rfl, _, rfl, _, rfl, zp, _, aj, ag, q, g, h, i, j, timesO dn, rfl, by omega, SubjT.same wj hj S04 rfl, sqT_same S04 hg0, by omega, by omega, by omega, h1, hst, i0, i1, j0, j1, n9, fun H5 S5 => ?_⟩
        have ea5 : H5 a = some (.ins C dx []) := S5 _ _ ea4
        refine ⟨a, dx, _, _, _, rfl, ea5, ?_⟩
        refine ⟨_, rfl, _, rfl, a, C, dx, _, rfl, upd_same, c.cl, c.n4, by show 3 < 1000; decide, ?_⟩
        refine ⟨_, rfl, _, rfl, a, C, dx, _, rfl, upd_same, c.cl, c.n5, by rw [qut4]; show 4 < 1000; decide, ?_⟩
        refine ⟨_, rfl, _, rfl, a, C, dx, _, rfl, upd_same, c.cl, c.n6, by rw [qut4, qut5]; show 5 < 1000; decide, ?_⟩
        rw [upd_upd, upd_upd, upd_upd, qut4, qut5, qut6]
        have et : leaveT zp (subjT dj) g h i j (timesO dn) = leaTD (.str zp) dj (.tuple [.int g, .int h]) dd dn := by
          unfold leaTD
          rw [hij]
          rfl
        rw [et]
        refine k wp wj wg hdd wn (.ref q) _ (fun b o e nb => by rw [upd_ne nb]; exact S5 _ _ (S04 _ _ e)) upd_same ?_
        rcases hSt with ⟨z1, z2⟩ | ⟨z1, z2⟩
        · exact .inl ⟨z1, z2⟩
        · exact .inr ⟨z1, (z2.same S5).ins ea5 fun b o e nb => by rw [upd_ne nb]; exact e⟩
      have fin : ∀ (st : V) (q : Addr) (i j : Int) (H4 : Hp), Same H H4 → st = .ref q → SqT K H4 q [.int i, .int j] → 0 ≤ i → i ≤ 10 ^ 30 → 0 ≤ j → j ≤ 10 ^ 30 → StAt K H4 vd st dd → intsD dd = (i, j) → (dd = .none ∨ isStretchD dd = true) →
          (isTimesD dn = false → Wants E CT vn H4) ∧ True := fun st q i j H4 S04 _ _ _ _ _ _ _ _ hdd => ⟨fun wn => (e5 wp wj wg hdd wn).same S04, trivial⟩
      refine ⟨_, rfl, vd, dd, rfl, hd.same S02, fun z q hq => ?_, fun z => ?_, fun z1 z2 => (e4 wp wj wg z1 z2).same S02⟩
      · subst z
        have s4 := same_new (o := .tup [V.int 0, .int (10 ^ 30)]) hq
        have S04 := S02.trans s4
        refine ⟨_, rfl, vn, dn, rfl, hn.same S04, _, rfl, ?_⟩
        cases wn : isTimesD dn with
        | false => exact iteT (mk_er (fun R h => ⟨_, rfl, h⟩) ((e5 wp wj wg (.inl rfl) wn).same S04))
        | true => exact iteF (go (.ref q) q 0 (10 ^ 30) _ S04 rfl (SqT.of upd_same) (by decide) (by decide +kernel) (by decide +kernel) (by decide +kernel) (.inr ⟨rfl, .tup (SqT.of upd_same) (.cons (.int _) (.cons (.int _) .nil))⟩) rfl (.inl rfl) wn)
      · obtain ⟨i, j, rfl, i0, ij, j1⟩ := stretch_inv z
        obtain ⟨q, rfl, hq⟩ := da_pair (hd.same S02)
        refine ⟨_, rfl, vn, dn, rfl, hn.same S02, _, rfl, ?_⟩
        cases wn : isTimesD dn with
        | false => exact iteT (mk_er (fun R h => ⟨_, rfl, h⟩) ((e5 wp wj wg (.inr z) wn).same S02))
        | true => exact iteF (go (.ref q) q i j H2 S02 rfl hq i0 (by omega) (by omega) j1 (.inl ⟨(by intro y; cases y), rfl⟩) rfl (.inr z) wn)
end
end LW

namespace LW
open PySem L2 G
def spWords : Sp := fun vs H Q _ => ∃ (p c : Addr) (cells : List Int) (t l many : Int), vs = [.ref p, .int many] ∧ PenAt H p c cells t l ∧ t ≤ 800000 ∧ 0 ≤ many ∧ many ≤ 26 ∧
  ∀ (q : Addr) (ws : List Str) (t' l' : Int) (H' : Hp), (ws.length : Int) = many → (∀ y ∈ ws, WordQ y) → ws.Nodup → H' q = some (.lst (ws.map V.str)) → H q = none → t' ≤ t + 9 → PenAt H' p c cells t' l' → Old p H H' → Q (.ref q) H'
section
variable {P : Program} {w : World} {K : PySem.W.Frag} {mg : Str → Option Value} {base : Heap}
variable {fD fK : Addr} {fdD fdK : FuncData}
abbrev nmW : List Str := ["_law_pen_here", "_law_many", "_law_letters", "_law_stem", "_law_at", "_law_first", "_law_step", "_law_k"]
theorem scWords : FnScope ["_law_pen_here", "_law_many", "_law_letters", "_law_stem", "_law_at", "_law_first", "_law_step", "_law_k"] ["_law_pen_here", "_law_many"] (defScope sWords) := ⟨rfl, rfl, rfl, by decide +kernel, rfl, by decide +kernel, by decide +kernel⟩
theorem PenAt.put {H : Hp} {p c D : Addr} {cells : List Int} {t l : Int} {o : HO} (N : PenAt H p c cells t l) (n1 : D ≠ p) (n2 : D ≠ c) : PenAt (upd H D o) p c cells t l :=
  ⟨by rw [upd_ne n1.symm]; exact N.pen, by rw [upd_ne n2.symm]; exact N.lst, N.few, N.t0⟩
theorem flat_q {sts : List Str} (h : ∀ y ∈ sts, ∃ x, y = ⟨#[x]⟩ ∧ LetterQ x) : (∀ c ∈ (sts.map (·.cps.toList)).flatten, LetterQ c) ∧ ((sts.map (·.cps.toList)).flatten).length = sts.length ∧ (sts.map (·.length)).sum = sts.length := by
  induction sts with
  | nil => exact ⟨by simp, rfl, rfl⟩
  | cons a r ih =>
    obtain ⟨i1, i2, i3⟩ := ih fun y hy => h y (List.mem_cons_of_mem _ hy)
    obtain ⟨x, rfl, hx⟩ := h a List.mem_cons_self
    refine ⟨fun c hc => ?_, ?_, ?_⟩
    · simp only [List.map_cons, List.flatten_cons, List.mem_append, List.mem_singleton] at hc
      rcases hc with rfl | hc
      · exact hx
      · exact i1 c hc
    · simp only [List.map_cons, List.flatten_cons, List.length_append, i2, List.length_cons, List.length_nil]
      omega
    · simp only [List.map_cons, List.sum_cons, i3, List.length_cons]
      show 1 + r.length = _
      omega
theorem ok_words {f : Addr} {fd : FuncData} (F : Fun K "_law_words" "_law_words" sWords f fd) (T : Bt mg) (R : mg "range" = none)
    (GD : FnOk P w K mg base CX0 1 fD fdD ["_law_pen_here", "_law_many"] spDraw) (mD : mg "_law_draw" = some (.ref fD)) (kD : PySem.W.keepIn K (.ref fD) = true) (bD : Binds K fdD ["_law_pen_here", "_law_many"] [])
    (GK : FnOk P w K mg base CX0 2 fK fdK ["_law_pen_here", "_law_options"] (spPick K)) (GP : FnOk P w K mg base CX0 2 fK fdK ["_law_pen_here", "_law_options"] spPickS) (mK : mg "_law_pick" = some (.ref fK)) (kK : PySem.W.keepIn K (.ref fK) = true) (bK : Binds K fdK ["_law_pen_here", "_law_options"] []) :
    FnOk P w K mg base CX0 3 f fd ["_law_pen_here", "_law_many"] spWords := by
  refine F.ok scWords (fun vs H Q E h => ?_) (fun cdv A outer s H vs Q E hr h => ?_)
  · obtain ⟨p, c, cells, t, l, many, rfl, _⟩ := h
    rfl
  · obtain ⟨p, c, cells, t, l, many, rfl, N, ht, m0, m1, k⟩ := h
    refine ⟨_, pss_cons (ps_set (i := 2) scWords.nd rfl (Or.inr rfl) pe_str)
      (pss_cons (ps_set (i := 3) scWords.nd rfl (Or.inr rfl) (pe_join pe_str (pe_lc (own := [("_law_k", 7)]) (g := gName 7) (tt := tYes) rfl scWords.nd (pi_range1 rfl R (pa_cons (pe_call GD (hr.mono (by decide)) (by rfl) mD kD bD .nil pass0 (pa_cons (pv 0) (pa_cons pe_int pa_nil))) pa_nil))
          (blkOk_by (own := [("_law_k", 7)]) (N := nmW) (sc := defScope sWords) (by decide +kernel))
          (fun _ _ _ _ _ => pg_name (i := 7) scWords.nd rfl (Or.inl rfl)) (fun _ _ _ _ _ => pts_nil) (fun _ _ _ _ _ => pe_call GP hr (by rfl) mK kK bK .nil pass0 (pa_cons (pv 0) (pa_cons (pv 2) pa_nil))))))
      (pss_cons (ps_asg (pe_tup
          (pa_cons (pe_call GD (hr.mono (by decide)) (by rfl) mD kD bD .nil pass0 (pa_cons (pv 0) (pa_cons (pe_op op_add (pe_callB call_len (by rfl) T.len PySem.boot_len (pa_cons (pv 3) pa_nil)) pe_int) pa_nil)))
          (pa_cons (pe_call GD (hr.mono (by decide)) (by rfl) mD kD bD .nil pass0 (pa_cons (pv 0) (pa_cons pe_int pa_nil)))
          (pa_cons (pe_call GK hr (by rfl) mK kK bK .nil pass0 (pa_cons (pv 0) (pa_cons (pe_lst (pa_cons pe_int (pa_cons pe_int (pa_cons pe_int (pa_cons pe_int (pa_cons pe_int (pa_cons pe_int pa_nil))))))) pa_nil))) pa_nil)))) (pg_tup (n := 3) rfl (pgs_cons (pg_name (i := 4) scWords.nd rfl (Or.inr rfl)) (pgs_cons (pg_name (i := 5) scWords.nd rfl (Or.inr rfl)) (pgs_cons (pg_name (i := 6) scWords.nd rfl (Or.inr rfl)) pgs_nil)))))
      (pss_one (ps_ret (pe_slice sl_list (pe_lc (own := [("_law_k", 7)]) (g := gName 7) (tt := tYes) rfl scWords.nd (pi_range1 rfl R (pa_cons pe_int pa_nil))
          (blkOk_by (own := [("_law_k", 7)]) (N := nmW) (sc := defScope sWords) (by decide +kernel))
          (fun _ _ _ _ _ => pg_name (i := 7) scWords.nd rfl (Or.inl rfl)) (fun _ _ _ _ _ => pts_nil)
          (fun _ _ _ _ _ => pe_op op_add_str (pe_op op_add_str (pe_slice sl_str (pv 3) po_none (po_some (pv 4))) (pe_ix ix_str (pv 2) (pe_op op_modN (pe_callTy call_int1 (by rfl) T.int (by decide +kernel) (pa_cons (pe_op op_add (pv 5) (pe_op op_mul (pv 6) (pv 7))) pa_nil)) pe_int) (fun _ _ => rfl)))
            (pe_slice sl_str (pv 3) (po_some (pv 4)) po_none))) po_none (po_some (pv 1))))))), ?_⟩
    have t0 := N.t0
    refine ⟨⟨_, rfl⟩, _, rfl, p, c, cells, t, l, 6, rfl, N, by omega, by omega, by omega, fun n t1 l1 H1 n0 n1 ht1 N1 old1 => ?_⟩
    refine ⟨n, rfl, by omega, by omega, fun D hD => ?_⟩
    have npD := N1.ne hD
    have ncD : D ≠ c := fun z => by rw [z, N1.lst] at hD; cases hD
    refine lc_range (n := n.toNat) (fun i G => ∃ sts : List Str, sts.length = i ∧ (∀ y ∈ sts, ∃ x, y = ⟨#[x]⟩ ∧ LetterQ x) ∧ G D = some (.lst (sts.map V.str)) ∧ ∃ t5 l5 : Int, PenAt G p c cells t5 l5 ∧ t5 ≤ t1 + i ∧ Old p H1 G)
      ⟨[], rfl, by simp, upd_same, t1, l1, N1.put npD ncD, by omega, Same.old (same_new hD)⟩ (fun i G hi h => ?_) (fun G h => ?_)
    · obtain ⟨sts, sl, sm, gD, t5, l5, N5, ht5, O5⟩ := h
      refine ⟨rfl, _, rfl, _, rfl, p, c, cells, t5, l5, letters, rfl, N5, by omega, by rw [letters_len]; omega, by rw [letters_len]; omega, fun x t6 l6 G6 hx ht6 N6 old6 => ?_⟩
      refine ⟨_, old6 _ _ gD npD, by rw [List.length_map, sizeLine_eq]; omega, ?_⟩
      refine ⟨sts ++ [⟨#[x]⟩], by simp [sl], fun z hz => ?_, by rw [upd_same, List.map_append]; rfl, t6, l6, N6.put npD ncD, by omega, fun b o e nb => by rw [upd_ne (ne_of_none e hD)]; exact old6 _ _ (O5 _ _ e nb) nb⟩
      rcases List.mem_append.mp hz with hz | hz
      · exact sm z hz
      · exact ⟨x, List.mem_singleton.mp hz, letter_mem hx⟩
    · obtain ⟨sts, sl, sm, gD, t5, l5, N5, ht5, O5⟩ := h
      obtain ⟨q1, q2, q3⟩ := flat_q sm
      have e0 : (Str.ofString "").length = 0 := by decide +kernel
      refine ⟨_, D, sts, rfl, rfl, .inl (SqL.of gD), by rw [q3, e0]; omega, ?_⟩
      have je : Txt.join (Str.ofString "") sts = Str.join (Str.ofString "") sts := StrLaws.glued_eq_join _ _
      have jl := join_list sts
      rw [← jl, len_list] at q2
      rw [← jl] at q1
      rw [je]
      revert q1 q2
      generalize Str.join (Str.ofString "") sts = z
      intro q1 q2
      have z5 : z.length ≤ 5 := by omega
      have zs : z.length ≤ sizeLine := by rw [sizeLine_eq]; omega
      have old5 : Old p H G := Old.trans old1 O5
      clear q3 sm gD jl je O5
      refine ⟨_, rfl, _, rfl, _, _, rfl, ⟨zs, rfl⟩, _, _, rfl, rfl, ?_⟩
      refine ⟨p, c, cells, t5, l5, _, rfl, N5, by omega, by omega, by omega, fun a t6 l6 H6 a0 a1 ht6 N6 old6 => ?_⟩
      refine ⟨_, rfl, p, c, cells, t6, l6, 26, rfl, N6, by omega, by omega, by omega, fun f t7 l7 H7 f0 f1 ht7 N7 old7 => ?_⟩
      refine ⟨_, rfl, (by show 6 ≤ sizeLine; decide), fun q hq => ?_⟩
      have s8 := same_new (o := .lst [V.int 1, .int 3, .int 5, .int 7, .int 9, .int 11]) hq
      refine ⟨p, c, q, cells, t7, l7, _, rfl, N7.same s8, by omega, upd_same, by simp, by simp, fun x t9 l9 H9 hx ht9 N9 old9 => ?_⟩
      have hst : ∃ st : Int, x = .int st ∧ (st = 1 ∨ st = 3 ∨ st = 5 ∨ st = 7 ∨ st = 9 ∨ st = 11) := by
        simp only [List.mem_cons, List.not_mem_nil, or_false] at hx
        rcases hx with rfl | rfl | rfl | rfl | rfl | rfl <;> exact ⟨_, rfl, by decide⟩
      obtain ⟨st, rfl, hst⟩ := hst
      have O9 : Old p H H9 := Old.trans old5 (Old.trans old6 (Old.trans old7 (Old.trans (Same.old s8) old9)))
      refine ⟨(by show 3 ≤ sizeLine; decide), fun q2' hq2 => ?_⟩
      have s10 := same_new (o := .tup [V.int a, .int f, .int st]) hq2
      have N10 := N9.same s10
      have O10 : Old p H _ := Old.trans O9 (Same.old s10)
      have g10 : (upd H9 q2' (.tup [V.int a, .int f, .int st])) q2' = some (.tup [V.int a, .int f, .int st]) := upd_same
      revert N10 O10 g10
      generalize upd H9 q2' (.tup [V.int a, .int f, .int st]) = H10
      intro N10 O10 g10
      refine ⟨q2', _, rfl, SqT.of g10, rfl, ?_⟩
      refine ⟨_, _, rfl, _, _, rfl, _, _, rfl, rfl, ?_⟩
      refine ⟨26, rfl, by decide, by decide, fun D2 hD2 => ?_⟩
      have npD2 := N10.ne hD2
      have ncD2 : D2 ≠ c := fun z => by rw [z, N10.lst] at hD2; cases hD2
      have a5 : a ≤ (z.length : Int) := by omega
      refine lc_range (n := 26) (fun i G2 => G2 D2 = some (.lst (((List.range i).map (wordAt z a f st)).map V.str)) ∧ PenAt G2 p c cells t9 l9 ∧ Old p H10 G2)
        ⟨upd_same, N10.put npD2 ncD2, Same.old (same_new hD2)⟩ (fun i G2 hi h => ?_) (fun G2 h => ?_)
      · obtain ⟨gD2, N11, O11⟩ := h
        have e0 : (0 : Int) + (i : Int) = i := Int.zero_add _
        have bd : -(2 ^ 64) < st ∧ st < 2 ^ 64 := by rcases hst with rfl | rfl | rfl | rfl | rfl | rfl <;> exact ⟨by decide, by decide⟩
        have ls : letters.length ≤ sizeLine := by rw [letters_len, sizeLine_eq]; decide
        have b := fm (i := f + st * (0 + (i : Int))) (j := 26) (by decide)
        have wl := wordAt_len (z := z) (f := f) (st := st) (k := i) a0 a5
        have w1 : (cutS z none (some a) ++ (⟨#[97 + ((f + st * (0 + (i : Int))).fmod 26).toNat]⟩ : Str)).length ≤ 7 := by
          have c1 := cutS_length z none (some a)
          rw [strLen_append]
          show _ + 1 ≤ 7
          omega
        have we : cutS z none (some a) ++ (⟨#[97 + ((f + st * (0 + (i : Int))).fmod 26).toNat]⟩ : Str) ++ cutS z (some a) none = wordAt z a f st i := by
          unfold wordAt
          rw [e0]
        have c1 := cutS_length z none (some a)
        have c2 := cutS_length z (some a) none
        refine ⟨rfl, _, rfl, _, rfl, _, rfl, z, rfl, zs, ?_⟩
        refine ⟨_, rfl, _, rfl, _, rfl, _, rfl, _, _, rfl, rfl, .inl bd, _, _, rfl, rfl, .inl ⟨_, rfl, _, _, rfl, rfl, (show (26 : Int) ≠ 0 by decide), ?_⟩⟩
        refine ⟨letters, _, _, rfl, rfl, ls, letter_at b.1 b.2, _, _, rfl, rfl, by rw [sizeLine_eq]; show _ + 1 ≤ _; omega, ?_⟩
        refine ⟨_, rfl, _, rfl, _, rfl, z, rfl, zs, _, _, rfl, rfl, by rw [sizeLine_eq]; omega, ?_⟩
        refine ⟨_, gD2, by rw [List.length_map, List.length_map, List.length_range, sizeLine_eq]; omega, ?_, N11.put npD2 ncD2, fun b o e nb => by rw [upd_ne (ne_of_none e hD2)]; exact O11 _ _ e nb⟩
        rw [upd_same, List.range_succ, List.map_append, List.map_append, we]
        rfl
      · obtain ⟨gD2, N11, O11⟩ := h
        refine ⟨_, rfl, _, rfl, D2, _, rfl, SqL.of gD2, fun q hq => ?_⟩
        have ct : cutV (((List.range 26).map (wordAt z a f st)).map V.str) none (some many) = ((List.range many.toNat).map (wordAt z a f st)).map V.str := by
          have e1 : HT.sIx (((List.range 26).map (wordAt z a f st)).map V.str).length 0 none = 0 := rfl
          have e2 := sIx_at (n := (((List.range 26).map (wordAt z a f st)).map V.str).length) (i := many) m0 (by rw [List.length_map, List.length_map, List.length_range]; omega) (((List.range 26).map (wordAt z a f st)).map V.str).length
          unfold cutV
          rw [e1, e2, List.drop_zero, Nat.sub_zero, ← List.map_take, ← List.map_take, List.take_range]
          rw [show min many.toNat 26 = many.toNat by omega]
        rw [ct] at *
        refine k q ((List.range many.toNat).map (wordAt z a f st)) t9 l9 _ (by rw [List.length_map, List.length_range]; omega) (fun y hy => ?_) (words_nodup a0 a5 hst _ (by omega)) upd_same ?_ (by omega) ?_ ?_
        · obtain ⟨j, hj, rfl⟩ := List.mem_map.mp hy
          exact wordAt_q a0 a5 z5 q1
        · exact Old.free (Old.trans O10 O11) N11.some hq
        · exact N11.same (same_new hq)
        · exact Old.trans O10 (Old.trans O11 (Same.old (same_new hq)))
end
end LW

/-! Shown texts are of known signs. -/
namespace G
open PySem PySem.Builtin.Str PySem.Builtin
def OkT (x : Str) : Prop := ∀ c ∈ x.cps.toList, c < 0x110000
theorem okT_iff {x : Str} : PyData.strOk x = true ↔ OkT x := by
  show x.cps.all (fun c => decide (c < 0x110000)) = true ↔ _
  rw [← Array.all_toList, List.all_eq_true]
  exact ⟨fun h c hc => of_decide_eq_true (h c hc), fun h c hc => decide_eq_true (h c hc)⟩
theorem okT_append {a b : Str} (h : OkT a) (g : OkT b) : OkT (a ++ b) := fun c hc => by
  rw [PySem.Str.cps_append, Array.toList_append, List.mem_append] at hc
  exact hc.elim (h c) (g c)
theorem char_lt (c : Char) : c.toNat < 0x110000 := by
  have h := c.valid
  show c.val.toNat < 0x110000
  rcases h with h | ⟨_, h⟩
  · have h2 : c.val.toNat < 0xd800 := h
    omega
  · exact h
theorem okT_of (s : String) : OkT (Str.ofString s) := fun c hc => by
  rw [Str.ofString_eq_toList] at hc
  obtain ⟨x, _, rfl⟩ := List.mem_map.mp (by simpa using hc)
  exact char_lt x
theorem quote_lt (x : Str) : reprQuote x < 0x110000 := by
  unfold reprQuote
  split <;> decide
theorem char_ok {q c : Nat} (hq : q < 0x110000) (hc : c < 0x110000) : ∀ y ∈ reprChar q c, y < 0x110000 := by
  have hx : ∀ (n : Nat), ∀ y ∈ List.replicate (n - ((Nat.toDigits 16 c).map Char.toNat).length) 48 ++ (Nat.toDigits 16 c).map Char.toNat, y < 0x110000 := fun n y hy => by
    rcases List.mem_append.mp hy with hy | hy
    · rw [(List.mem_replicate.mp hy).2]
      decide
    · obtain ⟨z, _, rfl⟩ := List.mem_map.mp hy
      exact char_lt z
  intro y hy
  unfold reprChar at hy
  simp only at hy
  split at hy
  · simp at hy
    omega
  split at hy
  · simp at hy
    omega
  split at hy
  · simp at hy
    omega
  split at hy
  · simp at hy
    omega
  split at hy
  · simp at hy
    omega
  split at hy
  · rcases List.mem_append.mp hy with hy | hy
    · simp at hy
      omega
    · exact hx 2 y hy
  split at hy
  · rcases List.mem_append.mp hy with hy | hy
    · simp at hy
      omega
    · exact hx 4 y hy
  · rcases List.mem_append.mp hy with hy | hy
    · simp at hy
      omega
    · exact hx 8 y hy
theorem fold_ok {q : Nat} (hq : q < 0x110000) : ∀ (l : List Nat) (acc : Array Nat), (∀ c ∈ l, c < 0x110000) → (∀ c ∈ acc.toList, c < 0x110000) → ∀ c ∈ (l.foldl (fun out c => out ++ (reprChar q c).toArray) acc).toList, c < 0x110000
  | [], acc, _, h => h
  | x :: l, acc, hl, h => by
    refine fold_ok hq l _ (fun c hc => hl c (List.mem_cons_of_mem _ hc)) fun c hc => ?_
    rw [Array.toList_append, List.mem_append] at hc
    rcases hc with hc | hc
    · exact h c hc
    · exact char_ok hq (hl x List.mem_cons_self) c (by simpa using hc)
theorem okT_repr {x : Str} (h : OkT x) : OkT (reprText x) := fun c hc => by
  have hq := quote_lt x
  unfold reprText at hc
  rw [Array.toList_push, List.mem_append, ← Array.foldl_toList] at hc
  rcases hc with hc | hc
  · exact fold_ok hq _ _ h (fun c hc => by
      have : c = reprQuote x := by simpa using hc
      rw [this]
      exact hq) c hc
  · rw [List.mem_singleton.mp hc]
    exact hq
theorem okT_from : ∀ (ts : List Str) (k : Nat) (acc : Str), OkT acc → (∀ t ∈ ts, OkT t) → OkT (textFrom k acc ts)
  | [], _, _, h, _ => h
  | t :: ts, k, acc, h, g => okT_from ts (k + 1) _ (okT_append (okT_append h (okT_of _)) (g t List.mem_cons_self)) fun y hy => g y (List.mem_cons_of_mem _ hy)
theorem okT_list {ts : List Str} (h : ∀ t ∈ ts, OkT t) : OkT (listText ts) := okT_append (okT_from ts 0 _ (okT_of "[") h) (okT_of "]")
theorem okT_join {sep : Str} (hs : OkT sep) : ∀ ts : List Str, (∀ t ∈ ts, OkT t) → OkT (Str.join sep ts)
  | [], _ => by
    intro c hc
    have e : (Str.join sep []).cps.toList = [] := rfl
    rw [e] at hc
    cases hc
  | [x], h => h x List.mem_cons_self
  | x :: y :: r, h => okT_append (okT_append (h x List.mem_cons_self) hs) (okT_join hs (y :: r) fun z hz => h z (List.mem_cons_of_mem _ hz))
theorem okT_tuple {ts : List Str} (h : ∀ t ∈ ts, OkT t) : OkT (tupleText ts) := okT_append (okT_append (okT_of "(") (okT_join (okT_of ", ") ts h)) (okT_of _)
theorem okS_all : ∀ {ds : List PyData}, (∀ d ∈ ds, OkT d.shown) → ∀ t ∈ PyData.shownAll ds, OkT t
  | [], _, t, ht => by cases ht
  | d :: ds, h, t, ht => by
    have ht : t ∈ d.shown :: PyData.shownAll ds := ht
    rcases List.mem_cons.mp ht with rfl | ht
    · exact h d List.mem_cons_self
    · exact okS_all (fun e he => h e (List.mem_cons_of_mem _ he)) t ht
theorem okS_str {x : Str} (h : PyData.strOk x = true) : OkT (PyData.str x).shown := okT_repr (okT_iff.mp h)
theorem okS_int (i : Int) : OkT (PyData.int i).shown := okT_of _
theorem okS_tup {ds : List PyData} (h : ∀ d ∈ ds, OkT d.shown) : OkT (PyData.tuple ds).shown := okT_tuple (okS_all h)
theorem okS_lst {ds : List PyData} (h : ∀ d ∈ ds, OkT d.shown) : OkT (PyData.list ds).shown := okT_list (okS_all h)
end G

/-! What stays while lists and dicts change: tuples, instances, and all data that are made of tuples. -/
namespace G
open PySem PySem.Spec L2
open PySem.W (Frag)
/-- all but lists and dicts stays -/
def Keep (H H' : Hp) : Prop := ∀ b o, H b = some o → (∀ zs, o ≠ .lst zs) → (∀ kv, o ≠ .dK kv) → H' b = some o
theorem Keep.refl (H : Hp) : Keep H H := fun _ _ e _ _ => e
theorem Keep.trans {H H1 H2 : Hp} (a : Keep H H1) (b : Keep H1 H2) : Keep H H2 := fun q o e n m => b q o (a q o e n m) n m
theorem Keep.same {H H' : Hp} (s : Same H H') : Keep H H' := fun q o e _ _ => s q o e
theorem Keep.put {H : Hp} {L : Addr} {zs : List V} {o : HO} (g : H L = some (.lst zs)) : Keep H (upd H L o) := fun b u e n _ => by
  rw [upd_ne fun z => by rw [z, g] at e; cases e; exact n _ rfl]
  exact e
theorem Keep.but {H H' : Hp} {p : Addr} {kv : List (Key × V)} (hp : H p = some (.dK kv)) (e : ∀ b o, H b = some o → b ≠ p → H' b = some o) : Keep H H' := fun b o z _ m => e b o z fun y => by
  rw [y, hp] at z
  cases z
  exact m _ rfl
section
variable {K : Frag} {H H' : Hp}
theorem Keep.sqT (k : Keep H H') {a : Addr} {xs : List V} (s : SqT K H a xs) : SqT K H' a xs := by
  rcases s with (s | ⟨o, s⟩) | s
  · exact .inl (.inl (k _ _ s (fun _ z => by cases z) (fun _ z => by cases z)))
  · exact .inl (.inr ⟨o, k _ _ s (fun _ z => by cases z) (fun _ z => by cases z)⟩)
  · exact .inr s
theorem Keep.ins (k : Keep H H') {a C dx : Addr} {fs : List (Str × V)} (s : H a = some (.ins C dx fs)) : H' a = some (.ins C dx fs) := k _ _ s (fun _ z => by cases z) (fun _ z => by cases z)
mutual
/-- a datum without lists and dicts -/
def tupD : PyData → Bool
  | .none | .bool _ | .int _ | .str _ => true
  | .tuple xs => tupAll xs
  | _ => false
def tupAll : List PyData → Bool
  | [] => true
  | x :: xs => tupD x && tupAll xs
end
mutual
theorem Da.keep (k : Keep H H') : ∀ {v : V} {d : PyData}, Da K H v d → tupD d = true → Da K H' v d
  | _, _, .non, _ => .non
  | _, _, .bl b, _ => .bl b
  | _, _, .int i, _ => .int i
  | _, _, .str x, _ => .str x
  | _, _, .tup s a, h => .tup (k.sqT s) (DaAll.keep k a (by simpa [tupD] using h))
  | _, _, .lst _ _ _, h => by simp [tupD] at h
  | _, _, .dct _ _ _, h => by simp [tupD] at h
theorem DaAll.keep (k : Keep H H') : ∀ {vs : List V} {ds : List PyData}, DaAll K H vs ds → tupAll ds = true → DaAll K H' vs ds
  | _, _, .nil, _ => .nil
  | _, _, .cons (d := d) (ds := ds) h t, z => by
    have z2 : tupD d = true ∧ tupAll ds = true := by simpa [tupAll] using z
    exact .cons (Da.keep k h z2.1) (DaAll.keep k t z2.2)
end
mutual
theorem Da.dp : ∀ {v : V} {d : PyData}, Da K H v d → tupD d = true → Dp K H v d
  | _, _, .non, _ => .non
  | _, _, .bl b, _ => .bl b
  | _, _, .int i, _ => .int i
  | _, _, .str x, _ => .str x
  | _, _, .tup s a, h => .tup s (DaAll.dp a (by simpa [tupD] using h))
  | _, _, .lst _ _ _, h => by simp [tupD] at h
  | _, _, .dct _ _ _, h => by simp [tupD] at h
theorem DaAll.dp : ∀ {vs : List V} {ds : List PyData}, DaAll K H vs ds → tupAll ds = true → DpAll K H vs ds
  | _, _, .nil, _ => .nil
  | _, _, .cons (d := d) (ds := ds) h t, z => by
    have z2 : tupD d = true ∧ tupAll ds = true := by simpa [tupAll] using z
    exact .cons (Da.dp h z2.1) (DaAll.dp t z2.2)
end
theorem tupAll_of : ∀ {ds : List PyData}, (∀ d ∈ ds, tupD d = true) → tupAll ds = true
  | [], _ => by simp [tupAll]
  | d :: ds, h => by
    simp [tupAll, h d List.mem_cons_self, tupAll_of fun e he => h e (List.mem_cons_of_mem _ he)]
end
end G

/-! Plain statements: what is drawn, and when it is right. -/
namespace LW
open PySem L2 G
inductive Plain
  | nam (p n : Str) (ws : List Str) (i j : Int)
  | lea (p : Str) (dj : PyData) (g h i j : Int) (t : Option Int)
def timesP : Option Int → PyData
  | none => .none
  | some i => .int i
abbrev chD (ws : List Str) : PyData := .tuple (ws.map PyData.str)
abbrev stD (i j : Int) : PyData := .tuple [.int i, .int j]
def Plain.d : Plain → PyData
  | .nam p n ws i j => .tuple [.str "n", .str p, .str n, chD ws, stD i j]
  | .lea p dj g h i j t => .tuple [.str "l", .str p, dj, stD g h, stD i j, timesP t]
structure Span (i j : Int) : Prop where
  lo : 0 ≤ i
  le : i ≤ j
  hi : j ≤ 10 ^ 30
def Plain.Ok : Plain → Prop
  | .nam p n ws i j => isWordD (.str p) = true ∧ isWordD (.str n) = true ∧ isChainD (chD ws) 4 = true ∧ Span i j
  | .lea p dj g h i j t => isWordD (.str p) = true ∧ subjD dj = true ∧ Span g h ∧ Span i j ∧ ∀ x, t = some x → 0 ≤ x ∧ x ≤ 9
theorem span_ok {i j : Int} (s : Span i j) : isStretchD (stD i j) = true := by
  have := s.lo
  have := s.le
  have := s.hi
  show (decide (0 ≤ i) && decide (i ≤ 10 ^ 30) && (decide (0 ≤ j) && decide (j ≤ 10 ^ 30)) && decide (i ≤ j)) = true
  simp only [Bool.and_eq_true, decide_eq_true_eq]
  omega
theorem times_ok {t : Option Int} (h : ∀ x, t = some x → 0 ≤ x ∧ x ≤ 9) : isTimesD (timesP t) = true := by
  cases t with
  | none => rfl
  | some i =>
    obtain ⟨h0, h9⟩ := h i rfl
    show (decide (0 ≤ i) && decide (i ≤ 9)) = true
    simp only [Bool.and_eq_true, decide_eq_true_eq]
    exact ⟨h0, h9⟩
theorem letters_strOk {z : Str} (h : isWordD (.str z) = true) : PyData.strOk z = true := by
  have h2 : (decide (1 ≤ z.length) && decide (z.length ≤ 8) && lettersB z.cps.toList) = true := h
  simp only [Bool.and_eq_true] at h2
  have q : z.cps.toList.all (fun c => decide (c < 0x110000)) = true := List.all_eq_true.mpr fun c hc => by
    have m := of_decide_eq_true (List.all_eq_true.mp h2.2 c hc)
    have := (letter_mem m).2
    exact decide_eq_true (by omega)
  rw [Array.all_toList] at q
  exact q
theorem word_okStr {d : PyData} (h : isWordD d = true) : okStr d := fun z e => by
  subst e
  obtain ⟨y, e, _, l⟩ := word_inv h
  cases e
  exact ⟨by rw [sizeLine_eq]; omega, letters_strOk h⟩
theorem words_strOk {ws : List Str} {tp : Int} (h : isChainD (chD ws) tp = true) : ∀ z ∈ ws, PyData.strOk z = true := fun z hz => by
  have h2 : (decide (1 ≤ (ws.map PyData.str).length) && decide (((ws.map PyData.str).length : Int) ≤ tp + 1) && (ws.map PyData.str).all isWordD) = true := h
  simp only [Bool.and_eq_true] at h2
  exact letters_strOk (List.all_eq_true.mp h2.2 _ (List.mem_map.mpr ⟨z, hz, rfl⟩))
theorem chain_okTup {d : PyData} {tp : Int} (ht : tp ≤ 1000) (h : isChainD d tp = true) : okTup d := fun ds e => by
  subst e
  obtain ⟨ws, e, _, l, _⟩ := chain_inv h
  cases e
  refine ⟨fun x hx z ez => ?_, by rw [List.length_map]; omega⟩
  subst ez
  obtain ⟨y, hy, e⟩ := List.mem_map.mp hx
  cases e
  obtain ⟨ws2, e2, _, _, w8⟩ := chain_inv h
  have e3 : ws = ws2 := by
    have := congrArg wordsD e2
    rwa [wordsD_chain, wordsD_chain] at this
  subst e3
  exact ⟨by have := w8 z hy; rw [sizeLine_eq]; omega, words_strOk h z hy⟩
theorem chain_flat {ws : List Str} : tupD (chD ws) = true := by
  simp only [tupD]
  exact tupAll_of fun d hd => by
    obtain ⟨z, _, rfl⟩ := List.mem_map.mp hd
    rfl
theorem chain_tupD {d : PyData} {tp : Int} (h : isChainD d tp = true) : tupD d = true := by
  obtain ⟨ws, rfl, _⟩ := chain_inv h
  exact chain_flat
/-- a subject's two forms -/
theorem subj_cases {d : PyData} (h : subjD d = true) : (∃ ws, d = chD ws ∧ isChainD (chD ws) 4 = true) ∨ ∃ (m : Int) (wss : List (List Str)), d = .tuple [.int m, .tuple (wss.map chD)] ∧ isChainD d 4 = false ∧ 1 ≤ wss.length ∧ wss.length ≤ 4 ∧ (∀ ws ∈ wss, isChainD (chD ws) 4 = true) ∧ 1 ≤ m ∧ m ≤ (wss.length : Int) ∧ wss.Nodup := by
  unfold subjD at h
  by_cases cn : isChainD d 4 = true
  · obtain ⟨ws, rfl, _⟩ := chain_inv cn
    exact .inl ⟨ws, rfl, cn⟩
  · have c2 : isChainD d 4 = false := by simpa using cn
    rw [c2, Bool.false_or] at h
    obtain ⟨n, c, rfl⟩ : ∃ n c, d = .tuple [n, c] := by
      unfold shareD at h
      split at h
      · exact ⟨_, _, rfl⟩
      · cases h
    have h2 : (unlikeD c && intInD n 1 (lenD c)) = true := h
    rw [Bool.and_eq_true] at h2
    obtain ⟨u, hn⟩ := h2
    obtain ⟨cs, rfl⟩ : ∃ cs, c = .tuple cs := by cases c <;> first | exact ⟨_, rfl⟩ | cases u
    obtain ⟨m, rfl⟩ : ∃ m, n = .int m := by cases n <;> first | exact ⟨_, rfl⟩ | cases hn
    have u2 : (decide (1 ≤ cs.length) && decide (cs.length ≤ 4) && cs.all (isChainD · 4) && decide (cs.map wordsD).Nodup) = true := u
    simp only [Bool.and_eq_true, decide_eq_true_eq] at u2
    have hn2 : (decide (1 ≤ m) && decide (m ≤ (cs.length : Int))) = true := hn
    simp only [Bool.and_eq_true, decide_eq_true_eq] at hn2
    have e : cs = (cs.map wordsD).map chD := by
      rw [List.map_map]
      refine ((List.map_congr_left fun x hx => ?_).trans (List.map_id cs)).symm
      obtain ⟨ws, rfl, _⟩ := chain_inv (List.all_eq_true.mp u2.1.2 x hx)
      show chD (wordsD (.tuple (ws.map PyData.str))) = _
      rw [wordsD_chain]
      rfl
    refine .inr ⟨m, cs.map wordsD, by rw [← e], c2, by simpa using u2.1.1.1, by simpa using u2.1.1.2, fun ws hw => ?_, hn2.1, by simpa using hn2.2, u2.2⟩
    obtain ⟨x, hx, rfl⟩ := List.mem_map.mp hw
    have cx := List.all_eq_true.mp u2.1.2 x hx
    obtain ⟨ws, rfl, _⟩ := chain_inv cx
    rw [wordsD_chain]
    exact cx
theorem share_subj {m : Int} {wss : List (List Str)} (l1 : 1 ≤ wss.length) (l4 : wss.length ≤ 4) (ch : ∀ ws ∈ wss, isChainD (chD ws) 4 = true) (m1 : 1 ≤ m) (m2 : m ≤ (wss.length : Int)) (nd : wss.Nodup) : subjD (.tuple [.int m, .tuple (wss.map chD)]) = true := by
  have ew : (wss.map chD).map wordsD = wss := by
    rw [List.map_map]
    exact (List.map_congr_left fun q _ => wordsD_chain q).trans (List.map_id wss)
  have u : unlikeD (.tuple (wss.map chD)) = true := by
    show (decide (1 ≤ (wss.map chD).length) && decide ((wss.map chD).length ≤ 4) && (wss.map chD).all (isChainD · 4) && decide ((wss.map chD).map wordsD).Nodup) = true
    rw [ew, List.length_map]
    simp only [Bool.and_eq_true, decide_eq_true_eq]
    refine ⟨⟨⟨l1, l4⟩, List.all_eq_true.mpr fun x hx => ?_⟩, nd⟩
    obtain ⟨ws, hw, rfl⟩ := List.mem_map.mp hx
    exact ch ws hw
  unfold subjD
  have s : shareD (.tuple [.int m, .tuple (wss.map chD)]) = true := by
    show (unlikeD (.tuple (wss.map chD)) && (decide (1 ≤ m) && decide (m ≤ ((wss.map chD).length : Int)))) = true
    rw [u, List.length_map]
    simp only [Bool.true_and, Bool.and_eq_true, decide_eq_true_eq]
    exact ⟨m1, m2⟩
  rw [s, Bool.or_true]
theorem subj_tupD {d : PyData} (h : subjD d = true) : tupD d = true := by
  rcases subj_cases h with ⟨ws, rfl, c⟩ | ⟨m, wss, rfl, _, _, _, _, _⟩
  · exact chain_flat
  · simp only [tupD, tupAll, Bool.true_and, Bool.and_true]
    exact tupAll_of fun d hd => by
      obtain ⟨z, _, rfl⟩ := List.mem_map.mp hd
      exact chain_flat
theorem subj_okSub {d : PyData} (h : subjD d = true) : okSub d := by
  rcases subj_cases h with ⟨ws, rfl, c⟩ | ⟨m, wss, rfl, _, l1, l4, ch, _⟩
  · refine ⟨chain_okTup (by decide) c, fun ds e x hx es ee => ?_⟩
    cases e
    obtain ⟨z, _, rfl⟩ := List.mem_map.mp hx
    cases ee
  · refine ⟨fun ds e => ?_, fun ds e x hx es ee y hy => ?_⟩
    · cases e
      refine ⟨fun x hx z ez => ?_, by simp⟩
      subst ez
      simp at hx
    · cases e
      simp only [List.mem_cons, List.not_mem_nil, or_false] at hx
      rcases hx with rfl | rfl
      · cases ee
      · cases ee
        obtain ⟨ws, hw, rfl⟩ := List.mem_map.mp hy
        exact chain_okTup (by decide) (ch ws hw)
theorem Plain.flat {pl : Plain} (ok : pl.Ok) : tupD pl.d = true := by
  cases pl with
  | nam p n ws i j =>
    simp only [Plain.d, tupD, tupAll, Bool.true_and, Bool.and_true]
    exact tupAll_of fun d hd => by
      obtain ⟨z, _, rfl⟩ := List.mem_map.mp hd
      rfl
  | lea p dj g h i j t =>
    have s := subj_tupD ok.2.1
    have e : tupD (timesP t) = true := by cases t <;> rfl
    simp only [Plain.d, tupD, tupAll, Bool.true_and, Bool.and_true, s, e]
theorem word_isWord {y : Str} (h : WordQ y) : isWordD (.str y) = true := by
  obtain ⟨l1, l6, c⟩ := h
  show (decide (1 ≤ y.length) && decide (y.length ≤ 8) && lettersB y.cps.toList) = true
  simp only [Bool.and_eq_true, decide_eq_true_eq]
  refine ⟨⟨l1, by omega⟩, List.all_eq_true.mpr fun x hx => decide_eq_true ?_⟩
  rw [letters_list, List.mem_range'_1]
  have := c x hx
  unfold LetterQ at this
  omega
theorem drawn_chain {x : Str} {ws : List Str} {tp : Int} (hx : WordQ x) (hw : ∀ y ∈ ws, WordQ y) (l : (ws.length : Int) ≤ tp) : isChainD (chD (x :: ws)) tp = true := by
  show (decide (1 ≤ ((x :: ws).map PyData.str).length) && decide ((((x :: ws).map PyData.str).length : Int) ≤ tp + 1) && ((x :: ws).map PyData.str).all isWordD) = true
  simp only [Bool.and_eq_true, decide_eq_true_eq, List.length_map, List.length_cons]
  refine ⟨⟨by omega, by omega⟩, List.all_eq_true.mpr fun d hd => ?_⟩
  obtain ⟨z, hz, rfl⟩ := List.mem_map.mp hd
  rcases List.mem_cons.mp hz with rfl | hz
  · exact word_isWord hx
  · exact word_isWord (hw z hz)
end LW

/-! What the law draws: days, namings, subjects, leaves. -/
namespace LW
open PySem L2 G
abbrev sDaysL : Stmt := top 56
abbrev sNamL : Stmt := top 58
abbrev sSubL : Stmt := top 59
abbrev sLeaL : Stmt := top 60
/-- a def, as the walk needs it -/
structure Fx (P : Program) (w : World) (K : PySem.W.Frag) (mg : Str → Option Value) (base : Heap) (CX : CXT) (k : Nat) (x : Str) (f : Addr) (fd : FuncData) (ps : List Str) (sp : Sp) : Prop where
  ok : FnOk P w K mg base CX k f fd ps sp
  m : mg x = some (.ref f)
  k : PySem.W.keepIn K (.ref f) = true
  b : Binds K fd ps []
theorem PenAt.keep {H H' : Hp} {p c : Addr} {cells : List Int} {t l : Int} (N : PenAt H p c cells t l) (o : Old p H H') : Keep H H' := Keep.but N.pen o
def spDaysL (K : PySem.W.Frag) : Sp := fun vs H Q _ => ∃ (p c : Addr) (cells : List Int) (t l : Int), vs = [.ref p] ∧ PenAt H p c cells t l ∧ t ≤ 700000 ∧
  ∀ (v : V) (i j t' l' : Int) (H' : Hp), Span i j → Da K H' v (stD i j) → t' ≤ t + 65 → PenAt H' p c cells t' l' → Old p H H' → Q v H'
/-- the people and the words -/
structure Words (H : Hp) (o1 o2 : Addr) (people words : List Str) : Prop where
  h1 : H o1 = some (.lst (people.map V.str))
  h2 : H o2 = some (.lst (words.map V.str))
  l1 : 1 ≤ people.length
  l2 : 1 ≤ words.length
  u1 : people.length ≤ 1000
  u2 : words.length ≤ 1000
  q1 : ∀ y ∈ people, WordQ y
  q2 : ∀ y ∈ words, WordQ y
theorem Words.old {H H' : Hp} {p o1 o2 c : Addr} {cells : List Int} {t l : Int} {people words : List Str} (W : Words H o1 o2 people words) (N : PenAt H p c cells t l) (o : Old p H H') : Words H' o1 o2 people words :=
  ⟨o _ _ W.h1 (ne_of W.h1 N.pen (by intro z; cases z)), o _ _ W.h2 (ne_of W.h2 N.pen (by intro z; cases z)), W.l1, W.l2, W.u1, W.u2, W.q1, W.q2⟩
theorem Words.same {H H' : Hp} {o1 o2 : Addr} {people words : List Str} (W : Words H o1 o2 people words) (s : Same H H') : Words H' o1 o2 people words := ⟨s _ _ W.h1, s _ _ W.h2, W.l1, W.l2, W.u1, W.u2, W.q1, W.q2⟩
def spNamL (K : PySem.W.Frag) : Sp := fun vs H Q _ => ∃ (p c o1 o2 : Addr) (cells : List Int) (t l tp : Int) (people words : List Str), vs = [.ref p, .ref o1, .ref o2, .int tp] ∧ 0 ≤ tp ∧ tp ≤ 4 ∧ PenAt H p c cells t l ∧ t ≤ 600000 ∧ Words H o1 o2 people words ∧
  ∀ (v : V) (pl : Plain) (t' l' : Int) (H' : Hp), pl.Ok → Da K H' v pl.d → t' ≤ t + 200 → PenAt H' p c cells t' l' → Old p H H' → Q v H'
def spSubL (K : PySem.W.Frag) : Sp := fun vs H Q _ => ∃ (p c o1 o2 : Addr) (cells : List Int) (t l tp : Int) (people words : List Str), vs = [.ref p, .ref o1, .ref o2, .int tp] ∧ 0 ≤ tp ∧ tp ≤ 4 ∧ PenAt H p c cells t l ∧ t ≤ 600000 ∧ Words H o1 o2 people words ∧
  ∀ (v : V) (d : PyData) (t' l' : Int) (H' : Hp), subjD d = true → Da K H' v d → t' ≤ t + 30 → PenAt H' p c cells t' l' → Old p H H' → Q v H'
theorem daStrs {K : PySem.W.Frag} {H : Hp} : ∀ ws : List Str, DaAll K H (ws.map V.str) (ws.map PyData.str)
  | [] => .nil
  | w :: ws => .cons (.str w) (daStrs ws)
theorem da_stretch {K : PySem.W.Frag} {H : Hp} {q : Addr} {i j : Int} (h : SqT K H q [.int i, .int j]) : Da K H (.ref q) (stD i j) := .tup h (.cons (.int i) (.cons (.int j) .nil))
section
variable {P : Program} {w : World} {K : PySem.W.Frag} {mg : Str → Option Value} {base : Heap}
variable {fD fK fS fC fY fJ : Addr} {fdD fdK fdS fdC fdY fdJ : FuncData}
theorem scDaysL : FnScope ["_law_pen_here"] ["_law_pen_here"] (defScope sDaysL) := ⟨rfl, rfl, rfl, by decide +kernel, rfl, by decide +kernel, by decide +kernel⟩
theorem ok_daysL {f : Addr} {fd : FuncData} (F : Fun K "_law_days" "_law_days" sDaysL f fd)
    (GK : Fx P w K mg base CX0 2 "_law_pick" fK fdK ["_law_pen_here", "_law_options"] (spPick K)) (GS : Fx P w K mg base CX0 4 "_law_span" fS fdS ["_law_pen_here"] spSpan) :
    FnOk P w K mg base CX0 5 f fd ["_law_pen_here"] (spDaysL K) := by
  refine F.ok scDaysL (fun vs H Q E h => ?_) (fun cdv A outer s H vs Q E hr h => ?_)
  · obtain ⟨p, c, cells, t, l, rfl, _⟩ := h
    rfl
  · obtain ⟨p, c, cells, t, l, rfl, N, ht, k⟩ := h
    refine ⟨_, pss_one (ps_ret (pe_call GK.ok (hr.mono (by decide)) (by rfl) GK.m GK.k GK.b .nil pass0 (pa_cons (pv 0) (pa_cons (pe_lst (pa_cons (pe_tup (pa_cons pe_int (pa_cons (pe_op op_pow pe_int pe_int) pa_nil))) (pa_cons (pe_tup (pa_cons pe_int (pa_cons (pe_op op_pow pe_int pe_int) pa_nil)))
      (pa_cons (pe_call GS.ok hr (by rfl) GS.m GS.k GS.b .nil pass0 (pa_cons (pv 0) pa_nil)) pa_nil)))) pa_nil)))), ?_⟩
    have pw : (0 : Int) ≤ 30 ∧ (30 : Int) ≤ 1000000 ∧ (10 : Int).natAbs < 2 ^ 64 := ⟨by decide, by decide, by decide⟩
    refine ⟨_, rfl, _, _, rfl, rfl, pw, (by show 2 ≤ sizeLine; decide), fun q1 h1 => ?_⟩
    have s1 := same_new (o := .tup [V.int 0, .int (10 ^ (30 : Int).toNat)]) h1
    refine ⟨_, _, rfl, rfl, pw, (by show 2 ≤ sizeLine; decide), fun q2 h2 => ?_⟩
    have s2 := same_new (o := .tup [V.int 0, .int (10 ^ (30 : Int).toNat)]) h2
    refine ⟨_, rfl, p, c, cells, t, l, rfl, (N.same s1).same s2, by omega, fun q3 a b t3 l3 H3 a0 ab b1 g3 _ ht3 N3 old3 => ?_⟩
    refine ⟨(by show 3 ≤ sizeLine; decide), fun o ho => ?_⟩
    have s4 := same_new (o := .lst [V.ref q1, .ref q2, .ref q3]) ho
    refine ⟨p, c, o, cells, t3, l3, _, rfl, N3.same s4, by omega, upd_same, by simp, by simp, fun x t' l' H' hx ht' N' old => ?_⟩
    have S12 := s1.trans s2
    have O3 : Old p H H3 := Old.trans (Same.old S12) old3
    have all : Old p H H' := Old.trans O3 (Old.trans (Same.old s4) old)
    have n12 := (N.same s1).same s2
    have k3 : Keep H3 H' := (Keep.same s4).trans ((N3.same s4).keep old)
    have k12 := n12.keep old3
    have e30 : (10 : Int) ^ (30 : Int).toNat = 10 ^ 30 := rfl
    have full : Span 0 (10 ^ 30) := ⟨by decide, by decide +kernel, by decide +kernel⟩
    simp only [List.mem_cons, List.not_mem_nil, or_false] at hx
    rcases hx with rfl | rfl | rfl
    · exact k _ 0 (10 ^ 30) t' l' H' full (da_stretch ((k12.trans k3).sqT (SqT.of (s2 _ _ upd_same)))) (by omega) N' all
    · exact k _ 0 (10 ^ 30) t' l' H' full (da_stretch ((k12.trans k3).sqT (SqT.of upd_same))) (by omega) N' all
    · exact k _ a b t' l' H' ⟨a0, ab, b1⟩ (da_stretch (k3.sqT (SqT.of g3))) (by omega) N' all
theorem scNamL : FnScope ["_law_pen_here", "_law_people", "_law_words_here", "_law_top", "_law_who", "_law_word"] ["_law_pen_here", "_law_people", "_law_words_here", "_law_top"] (defScope sNamL) := ⟨rfl, rfl, rfl, by decide +kernel, rfl, by decide +kernel, by decide +kernel⟩
theorem ok_namL {f : Addr} {fd : FuncData} (F : Fun K "_law_naming" "_law_naming" sNamL f fd)
    (GK : Fx P w K mg base CX0 2 "_law_pick" fK fdK ["_law_pen_here", "_law_options"] (spPick K)) (GC : Fx P w K mg base CX0 3 "_law_chain" fC fdC ["_law_pen_here", "_law_people", "_law_words_here", "_law_top"] spChain)
    (GY : Fx P w K mg base CX0 5 "_law_days" fY fdY ["_law_pen_here"] (spDaysL K)) :
    FnOk P w K mg base CX0 6 f fd ["_law_pen_here", "_law_people", "_law_words_here", "_law_top"] (spNamL K) := by
  refine F.ok scNamL (fun vs H Q E h => ?_) (fun cdv A outer s H vs Q E hr h => ?_)
  · obtain ⟨p, c, o1, o2, cells, t, l, tp, people, words, rfl, _⟩ := h
    rfl
  · obtain ⟨p, c, o1, o2, cells, t, l, tp, people, words, rfl, tp0, tp4, N, ht, W, k⟩ := h
    refine ⟨_, pss_cons (ps_par (i := 4) (j := 5) (by rfl) scNamL.nd rfl rfl (by decide) rfl rfl (pa_cons (pe_call GK.ok (hr.mono (by decide)) (by rfl) GK.m GK.k GK.b .nil pass0 (pa_cons (pv 0) (pa_cons (pv 1) pa_nil))) (pa_cons (pe_call GK.ok (hr.mono (by decide)) (by rfl) GK.m GK.k GK.b .nil pass0 (pa_cons (pv 0) (pa_cons (pv 2) pa_nil))) pa_nil)) (by rfl))
      (pss_one (ps_ret (pe_tup (pa_cons pe_str (pa_cons (pv 4) (pa_cons (pv 5) (pa_cons (pe_call GC.ok (hr.mono (by decide)) (by rfl) GC.m GC.k GC.b .nil pass0 (pa_cons (pv 0) (pa_cons (pv 1) (pa_cons (pv 2) (pa_cons (pv 3) pa_nil))))) (pa_cons (pe_call GY.ok hr (by rfl) GY.m GY.k GY.b .nil pass0 (pa_cons (pv 0) pa_nil)) pa_nil)))))))), ?_⟩
    refine ⟨_, rfl, _, rfl, p, c, o1, cells, t, l, _, rfl, N, by omega, W.h1, by rw [List.length_map]; exact W.l1, by rw [List.length_map]; have := W.u1; omega, fun x t1 l1 H1 hx ht1 N1 old1 => ?_⟩
    obtain ⟨who, rfl, hwho⟩ := mem_map_str hx
    have W1 := W.old N old1
    refine ⟨_, rfl, _, rfl, p, c, o2, cells, t1, l1, _, rfl, N1, by omega, W1.h2, by rw [List.length_map]; exact W1.l2, by rw [List.length_map]; have := W1.u2; omega, fun x t2 l2 H2 hx ht2 N2 old2 => ?_⟩
    obtain ⟨word, rfl, hword⟩ := mem_map_str hx
    have W2 := W1.old N1 old2
    refine ⟨_, _, rfl, ?_⟩
    refine ⟨_, rfl, _, rfl, _, rfl, _, rfl, _, rfl, _, rfl, p, c, o1, o2, cells, t2, l2, tp, people, words, rfl, N2, by omega, by omega, by omega, W2.h1, W2.h2, W2.l1, W2.u1, W2.l2, W2.u2, fun q x ws t3 l3 H3 hx hws lw gq nq ht3 N3 old3 => ?_⟩
    refine ⟨_, rfl, p, c, cells, t3, l3, rfl, N3, by omega, fun v i j t4 l4 H4 sp da ht4 N4 old4 => ?_⟩
    refine ⟨(by show 5 ≤ sizeLine; decide), fun r hr' => ?_⟩
    have s5 := same_new (o := .tup [V.str "n", .str who, .str word, .ref q, v]) hr'
    have k4 := (N3.keep old4).trans (Keep.same s5)
    refine k _ (.nam who word (x :: ws) i j) t4 l4 _ ⟨word_isWord (W.q1 _ hwho), word_isWord (W.q2 _ hword), drawn_chain (W.q1 _ hx) (fun y hy => W.q2 _ (hws y hy)) (Int.le_trans lw tp4), sp⟩ ?_ (by omega) (N4.same s5) (Old.trans old1 (Old.trans old2 (Old.trans old3 (Old.trans old4 (Same.old s5)))))
    exact .tup (SqT.of upd_same) (.cons (.str _) (.cons (.str _) (.cons (.str _) (.cons (.tup (k4.sqT (SqT.of gq)) (daStrs (x :: ws))) (.cons (da.same s5) .nil)))))
end
end LW

/-! A drawn subject, a drawn leave. -/
namespace LW
open PySem L2 G
theorem eqv_chain (l m : List Str) : PyData.eqv (chD l) (chD m) = decide (l = m) := eqvTup l m
theorem shaped_list {wss : List (List Str)} (h : ∀ ws ∈ wss, ∀ y ∈ ws, PyData.strOk y = true) : SeqAt.shaped (.list (wss.map chD)) = true := by
  have a : PyData.canLayAll0 (wss.map chD) = true := by
    induction wss with
    | nil => simp [PyData.canLayAll0]
    | cons w r ih =>
      have h1 : (chD w).canLay0 = true := by simp only [chD, PyData.canLay0, layStrs w (h w List.mem_cons_self)]
      simp [PyData.canLayAll0, h1, ih fun ws hw => h ws (List.mem_cons_of_mem _ hw)]
  have b : PyData.depthAll (wss.map chD) ≤ 1 := by
    clear h a
    induction wss with
    | nil => simp [PyData.depthAll]
    | cons w r ih =>
      have h1 : (chD w).depth ≤ 1 := by simp only [chD, PyData.depth, depStrs]; omega
      simp only [List.map_cons, PyData.depthAll]
      omega
  have h2 : (PyData.list (wss.map chD)).depth ≤ 64 := by simp only [PyData.depth]; omega
  simp only [SeqAt.shaped, PyData.canLay0, a, h2, decide_true, Bool.and_self]
theorem any_chain (wss : List (List Str)) (ws : List Str) : (wss.map chD).any (fun z => PyData.eqv z (chD ws)) = decide (ws ∈ wss) := by
  rw [List.any_map]
  induction wss with
  | nil => simp
  | cons w r ih =>
    rw [List.any_cons, ih]
    show (PyData.eqv (chD w) (chD ws) || _) = _
    rw [eqv_chain]
    by_cases e : w = ws
    · subst e
      simp
    · have e2 : ¬ ws = w := fun z => e z.symm
      simp [e, e2]
theorem dp_chains {K : PySem.W.Frag} {H : Hp} : ∀ {ks : List (Addr × List Str)}, (∀ q ∈ ks, SqT K H q.1 (q.2.map V.str)) → DpAll K H (ks.map fun q => V.ref q.1) ((ks.map Prod.snd).map chD)
  | [], _ => .nil
  | q :: ks, h => .cons (dpTup (h q List.mem_cons_self)) (dp_chains fun y hy => h y (List.mem_cons_of_mem _ hy))
theorem da_all {K : PySem.W.Frag} {H : Hp} : ∀ {ks : List (Addr × List Str)}, (∀ q ∈ ks, SqT K H q.1 (q.2.map V.str)) → DaAll K H (ks.map fun q => V.ref q.1) ((ks.map Prod.snd).map chD)
  | [], _ => .nil
  | q :: ks, h => .cons (.tup (h q List.mem_cons_self) (daStrs q.2)) (da_all fun y hy => h y (List.mem_cons_of_mem _ hy))
section
variable {P : Program} {w : World} {K : PySem.W.Frag} {mg : Str → Option Value} {base : Heap}
variable {fD fK fS fC fY fJ : Addr} {fdD fdK fdS fdC fdY fdJ : FuncData}
abbrev nmJ : List Str := ["_law_pen_here", "_law_people", "_law_words_here", "_law_top", "_law_found", "_law_k", "_law_some"]
theorem scSubL : FnScope nmJ ["_law_pen_here", "_law_people", "_law_words_here", "_law_top"] (defScope sSubL) := ⟨rfl, rfl, rfl, by decide +kernel, rfl, by decide +kernel, by decide +kernel⟩
theorem ok_subL {f : Addr} {fd : FuncData} (F : Fun K "_law_subject" "_law_subject" sSubL f fd) (R : mg "range" = none) (Le : mg "len" = none) (Tu : mg "tuple" = none)
    (GD : Fx P w K mg base CX0 1 "_law_draw" fD fdD ["_law_pen_here", "_law_many"] spDraw) (GC : Fx P w K mg base CX0 3 "_law_chain" fC fdC ["_law_pen_here", "_law_people", "_law_words_here", "_law_top"] spChain) :
    FnOk P w K mg base CX0 4 f fd ["_law_pen_here", "_law_people", "_law_words_here", "_law_top"] (spSubL K) := by
  refine F.ok scSubL (fun vs H Q E h => ?_) (fun cdv A outer s H vs Q E hr h => ?_)
  · obtain ⟨p, c, o1, o2, cells, t, l, tp, people, words, rfl, _⟩ := h
    rfl
  · obtain ⟨p, c, o1, o2, cells, t, l, tp, people, words, rfl, tp0, tp4, N, ht, W, k⟩ := h
    have hu : (A.deeper (PyProof.Rows.envOfC "_law_subject" (defScope sSubL) s.heap.objs.size f cdv)).units + 65 < cLine := by have := hr.un; omega
    refine ⟨_, pss_cons (ps_if (pt_cmpR op_eq (pe_call GD.ok (hr.mono (by decide)) (by rfl) GD.m GD.k GD.b .nil pass0 (pa_cons (pv 0) (pa_cons pe_int pa_nil))) pe_int (nomark _)) (pss_one (ps_ret (pe_call GC.ok hr (by rfl) GC.m GC.k GC.b .nil pass0 (pa_cons (pv 0) (pa_cons (pv 1) (pa_cons (pv 2) (pa_cons (pv 3) pa_nil))))))) pss_nil)
      (pss_cons (ps_set (i := 4) scSubL.nd rfl (Or.inl rfl) (pe_lst pa_nil))
      (pss_cons (ps_for PassesOwn.never rfl (pi_range1 rfl R (pa_cons (pe_op op_add pe_int (pe_call GD.ok (hr.mono (by decide)) (by rfl) GD.m GD.k GD.b .nil pass0 (pa_cons (pv 0) (pa_cons pe_int pa_nil)))) pa_nil)) (pg_name (i := 5) scSubL.nd rfl (Or.inl rfl))
        (pss_cons (ps_set (i := 6) scSubL.nd rfl (Or.inl rfl) (pe_call GC.ok hr (by rfl) GC.m GC.k GC.b .nil pass0 (pa_cons (pv 0) (pa_cons (pv 1) (pa_cons (pv 2) (pa_cons (pv 3) pa_nil))))))
        (pss_one (ps_if (pt_cmpR (op_notInD hu) (pv 6) (pv 4) rfl) (pss_one (ps_expr (pe_bm PySem.F.plainAttrs_list PySem.F.slot_list_append PySem.F.type_list_append mt_append (pv 4) (pa_cons (pv 6) pa_nil)))) pss_nil))))
      (pss_one (ps_ret (pe_tup (pa_cons (pe_op op_add pe_int (pe_call GD.ok (hr.mono (by decide)) (by rfl) GD.m GD.k GD.b .nil pass0 (pa_cons (pv 0) (pa_cons (pe_callB call_len (by rfl) Le PySem.boot_len (pa_cons (pv 4) pa_nil)) pa_nil)))) (pa_cons (pe_callTy call_tuple_of (by rfl) Tu (by decide +kernel) (pa_cons (pv 4) pa_nil)) pa_nil))))))), ?_⟩
    refine ⟨_, rfl, p, c, cells, t, l, 2, rfl, N, by omega, by decide, by decide, fun r t1 l1 H1 r0 r1 ht1 N1 old1 => ?_⟩
    have W1 := W.old N old1
    refine ⟨rfl, _, rfl, ?_⟩
    refine ite2 (fun _ => ?_) (fun _ => ?_)
    · refine ⟨_, rfl, _, rfl, _, rfl, _, rfl, p, c, o1, o2, cells, t1, l1, tp, people, words, rfl, N1, by omega, by omega, by omega, W1.h1, W1.h2, W1.l1, W1.u1, W1.l2, W1.u2, fun q x ws t2 l2 H2 hx hws lw gq nq ht2 N2 old2 => ?_⟩
      have ch := drawn_chain (W1.q1 _ hx) (fun y hy => W1.q2 _ (hws y hy)) (Int.le_trans lw tp4)
      refine k _ (chD (x :: ws)) t2 l2 H2 ?_ (.tup (SqT.of gq) (daStrs _)) (by omega) N2 (Old.trans old1 old2)
      unfold subjD
      rw [ch, Bool.true_or]
    · refine ⟨(by show 0 ≤ sizeLine; decide), fun D hD => ?_⟩
      have s2 := same_new (o := .lst []) hD
      have npD := N1.ne hD
      refine ⟨_, rfl, p, c, cells, t1, l1, 4, rfl, N1.same s2, by omega, by decide, by decide, fun n t3 l3 H3 n0 n1 ht3 N3 old3 => ?_⟩
      have D3 : H3 D = some (.lst []) := old3 _ _ upd_same npD
      have W3 := (W1.same s2).old (N1.same s2) old3
      have base3 : ∀ b o, H1 b = some o → b ≠ p → H3 b = some o := fun b o e nb => old3 b o (s2 _ _ e) nb
      refine ⟨_, _, rfl, rfl, 1 + n, rfl, by omega, by omega, ?_⟩
      refine for_range (n := (1 + n).toNat) (fun i σ G => ∃ (v5 v6 : Option V) (ks : List (Addr × List Str)), σ = [some (.ref p), some (.ref o1), some (.ref o2), some (.int tp), some (.ref D), v5, v6] ∧ ks.length ≤ i ∧ (1 ≤ i → 1 ≤ ks.length) ∧ (ks.map Prod.snd).Nodup ∧
          (∀ q ∈ ks, SqT K G q.1 (q.2.map V.str) ∧ isChainD (chD q.2) 4 = true) ∧ G D = some (.lst (ks.map fun q => V.ref q.1)) ∧ Words G o1 o2 people words ∧ ∃ t4 l4 : Int, PenAt G p c cells t4 l4 ∧ t4 ≤ t3 + 6 * i ∧ Old p H1 G)
        ⟨_, _, [], rfl, Nat.zero_le _, by omega, List.nodup_nil, by simp, D3, W3, t3, l3, N3, by omega, base3⟩ (fun i σ G hi h => ?_) (fun σ G h => ?_)
      · obtain ⟨v5, v6, ks, rfl, lk, lk1, nd, hk, gD, WG, t4, l4, N4, ht4, O4⟩ := h
        refine ⟨_, rfl, _, rfl, _, rfl, _, rfl, p, c, o1, o2, cells, t4, l4, tp, people, words, rfl, N4, by omega, by omega, by omega, WG.h1, WG.h2, WG.l1, WG.u1, WG.l2, WG.u2, fun q x ws t5 l5 G5 hx hws lw gq nq ht5 N5 old5 => ?_⟩
        have ch := drawn_chain (WG.q1 _ hx) (fun y hy => WG.q2 _ (hws y hy)) (Int.le_trans lw tp4)
        have k5 := N4.keep old5
        have W5 := WG.old N4 old5
        have gD5 : G5 D = some (.lst (ks.map fun q => V.ref q.1)) := old5 _ _ gD npD
        have hk5 : ∀ y ∈ ks, SqT K G5 y.1 (y.2.map V.str) ∧ isChainD (chD y.2) 4 = true := fun y hy => ⟨k5.sqT (hk y hy).1, (hk y hy).2⟩
        have sq : SqT K G5 q ((x :: ws).map V.str) := SqT.of gq
        refine ⟨_, rfl, _, rfl, chD (x :: ws), (ks.map Prod.snd).map chD, dpTup sq, .lst (SqL.of gD5) (dp_chains fun y hy => (hk5 y hy).1), shapedTup _ (words_strOk ch), shaped_list (fun ws hw => ?_), _, rfl, ?_⟩
        · obtain ⟨y, hy, rfl⟩ := List.mem_map.mp hw
          exact words_strOk (hk y hy).2
        rw [any_chain]
        by_cases m : (x :: ws) ∈ ks.map Prod.snd
        · rw [decide_eq_true m]
          refine iteF ⟨_, _, ks, rfl, by omega, fun _ => ?_, nd, hk5, gD5, W5, t5, l5, N5, by omega, Old.trans O4 old5⟩
          obtain ⟨y, hy, _⟩ := List.mem_map.mp m
          exact List.length_pos_of_mem hy
        · rw [decide_eq_false m]
          refine iteT ?_
          have s6 : Keep G5 (upd G5 D (.lst ((ks.map fun q => V.ref q.1) ++ [V.ref q]))) := Keep.put gD5
          have hne : ∀ {b : Addr} {o : HO}, G5 b = some o → H1 b = some o → b ≠ D := fun {b o} _ e z => by
            rw [z, hD] at e
            cases e
          refine ⟨_, rfl, (.inl ⟨rfl, _, SqL.of gD5⟩), _, rfl, D, _, _, rfl, rfl, gD5, by rw [List.length_map, sizeLine_eq]; omega, ?_⟩
          refine ⟨_, _, ks ++ [(q, x :: ws)], rfl, by simp; omega, fun _ => by simp, ?_, fun y hy => ?_, by rw [upd_same, List.map_append]; rfl, ?_, t5, l5, ?_, by omega, fun b o e nb => ?_⟩
          · rw [List.map_append]
            refine List.nodup_append.mpr ⟨nd, by simp, fun a ha b hb e => ?_⟩
            rw [List.map_singleton, List.mem_singleton] at hb
            rw [e, hb] at ha
            exact m ha
          · rcases List.mem_append.mp hy with hy | hy
            · exact ⟨s6.sqT (hk5 y hy).1, (hk5 y hy).2⟩
            · rw [List.mem_singleton.mp hy]
              exact ⟨s6.sqT sq, ch⟩
          · exact ⟨by rw [upd_ne (hne W5.h1 W1.h1)]; exact W5.h1, by rw [upd_ne (hne W5.h2 W1.h2)]; exact W5.h2, W5.l1, W5.l2, W5.u1, W5.u2, W5.q1, W5.q2⟩
          · exact N5.put npD (fun z => by rw [z, N1.lst] at hD; cases hD)
          · rw [upd_ne fun z => by rw [z, hD] at e; cases e]
            exact old5 _ _ (O4 _ _ e nb) nb
      · obtain ⟨v5, v6, ks, rfl, lk, lk1, nd, hk, gD, WG, t4, l4, N4, ht4, O4⟩ := h
        have kl : 1 ≤ ks.length := lk1 (by omega)
        have k4 : ks.length ≤ 4 := by omega
        refine ⟨_, rfl, _, rfl, _, ks.length, rfl, .inl ⟨_, SqL.of gD, by rw [List.length_map]⟩, p, c, cells, t4, l4, _, rfl, N4, by omega, by omega, by omega, fun m t5 l5 H5 m0 m1 ht5 N5 old5 => ?_⟩
        have k5 := N4.keep old5
        have gD5 : H5 D = some (.lst (ks.map fun q => V.ref q.1)) := old5 _ _ gD npD
        refine ⟨_, _, rfl, rfl, _, rfl, D, ks.map (fun q => V.ref q.1), rfl, .inl ⟨SqL.of gD5, fun q hq => ?_⟩⟩
        have s6 := same_new (o := .tup (ks.map fun q => V.ref q.1)) hq
        refine ⟨(by show 2 ≤ sizeLine; decide), fun z hz => ?_⟩
        have s7 := same_new (o := .tup [V.int (1 + m), .ref q]) hz
        refine k _ (.tuple [.int (1 + m), .tuple ((ks.map Prod.snd).map chD)]) t5 l5 _ ?_ ?_ (by omega) ((N5.same s6).same s7) (Old.trans old1 (Old.trans O4 (Old.trans old5 (Old.trans (Same.old s6) (Same.old s7)))))
        · exact share_subj (by simpa using kl) (by simpa using k4) (fun ws hw => by obtain ⟨y, hy, rfl⟩ := List.mem_map.mp hw; exact (hk y hy).2) (by omega) (by rw [List.length_map]; omega) nd
        · refine .tup (SqT.of upd_same) (.cons (.int _) (.cons (.tup (SqT.of (s7 _ _ upd_same)) ?_) .nil))
          exact da_all fun y hy => (k5.trans ((Keep.same s6).trans (Keep.same s7))).sqT (hk y hy).1
abbrev nmE : List Str := ["_law_pen_here", "_law_people", "_law_words_here", "_law_top", "_law_goal", "_law_often"]
theorem scLeaL : FnScope nmE ["_law_pen_here", "_law_people", "_law_words_here", "_law_top"] (defScope sLeaL) := ⟨rfl, rfl, rfl, by decide +kernel, rfl, by decide +kernel, by decide +kernel⟩
theorem ok_leaL {f : Addr} {fd : FuncData} (F : Fun K "_law_leave" "_law_leave" sLeaL f fd)
    (GK : Fx P w K mg base CX0 2 "_law_pick" fK fdK ["_law_pen_here", "_law_options"] (spPick K)) (GJ : Fx P w K mg base CX0 4 "_law_subject" fJ fdJ ["_law_pen_here", "_law_people", "_law_words_here", "_law_top"] (spSubL K))
    (GS : Fx P w K mg base CX0 4 "_law_span" fS fdS ["_law_pen_here"] spSpan) (GY : Fx P w K mg base CX0 5 "_law_days" fY fdY ["_law_pen_here"] (spDaysL K)) :
    FnOk P w K mg base CX0 6 f fd ["_law_pen_here", "_law_people", "_law_words_here", "_law_top"] (spNamL K) := by
  refine F.ok scLeaL (fun vs H Q E h => ?_) (fun cdv A outer s H vs Q E hr h => ?_)
  · obtain ⟨p, c, o1, o2, cells, t, l, tp, people, words, rfl, _⟩ := h
    rfl
  · obtain ⟨p, c, o1, o2, cells, t, l, tp, people, words, rfl, tp0, tp4, N, ht, W, k⟩ := h
    refine ⟨_, pss_cons (ps_par (i := 4) (j := 5) (by rfl) scLeaL.nd rfl rfl (by decide) rfl rfl (pa_cons (pe_call GJ.ok (hr.mono (by decide)) (by rfl) GJ.m GJ.k GJ.b .nil pass0 (pa_cons (pv 0) (pa_cons (pv 1) (pa_cons (pv 2) (pa_cons (pv 3) pa_nil)))))
        (pa_cons (pe_call GK.ok (hr.mono (by decide)) (by rfl) GK.m GK.k GK.b .nil pass0 (pa_cons (pv 0) (pa_cons (pe_lst (pa_cons pe_non (pa_cons pe_int (pa_cons pe_int (pa_cons pe_int (pa_cons pe_int (pa_cons pe_non pa_nil))))))) pa_nil))) pa_nil)) (by rfl))
      (pss_one (ps_ret (pe_tup (pa_cons pe_str (pa_cons (pe_call GK.ok (hr.mono (by decide)) (by rfl) GK.m GK.k GK.b .nil pass0 (pa_cons (pv 0) (pa_cons (pv 1) pa_nil))) (pa_cons (pv 4) (pa_cons (pe_call GS.ok (hr.mono (by decide)) (by rfl) GS.m GS.k GS.b .nil pass0 (pa_cons (pv 0) pa_nil))
        (pa_cons (pe_call GY.ok hr (by rfl) GY.m GY.k GY.b .nil pass0 (pa_cons (pv 0) pa_nil)) (pa_cons (pv 5) pa_nil))))))))), ?_⟩
    refine ⟨_, rfl, _, rfl, _, rfl, _, rfl, p, c, o1, o2, cells, t, l, tp, people, words, rfl, tp0, tp4, N, by omega, W, fun vj dj t1 l1 H1 wj hj ht1 N1 old1 => ?_⟩
    have W1 := W.old N old1
    refine ⟨_, rfl, (by show 6 ≤ sizeLine; decide), fun o ho => ?_⟩
    have s2 := same_new (o := .lst [V.non, .int 0, .int 1, .int 2, .int 9, .non]) ho
    refine ⟨p, c, o, cells, t1, l1, _, rfl, N1.same s2, by omega, upd_same, by simp, by simp, fun x t3 l3 H3 hx ht3 N3 old3 => ?_⟩
    obtain ⟨n, rfl, n9⟩ : ∃ n : Option Int, x = timesV n ∧ ∀ y, n = some y → 0 ≤ y ∧ y ≤ 9 := by
      simp only [List.mem_cons, List.not_mem_nil, or_false] at hx
      rcases hx with rfl | rfl | rfl | rfl | rfl | rfl
      · exact ⟨none, rfl, by simp⟩
      · exact ⟨some 0, rfl, by simp⟩
      · exact ⟨some 1, rfl, by simp⟩
      · exact ⟨some 2, rfl, by simp⟩
      · exact ⟨some 9, rfl, by simp⟩
      · exact ⟨none, rfl, by simp⟩
    have W3 := (W1.same s2).old (N1.same s2) old3
    have O3 : Old p H1 H3 := Old.trans (Same.old s2) old3
    refine ⟨_, _, rfl, ?_⟩
    refine ⟨_, rfl, _, rfl, p, c, o1, cells, t3, l3, _, rfl, N3, by omega, W3.h1, by rw [List.length_map]; exact W3.l1, by rw [List.length_map]; have := W3.u1; omega, fun x t4 l4 H4 hx ht4 N4 old4 => ?_⟩
    obtain ⟨who, rfl, hwho⟩ := mem_map_str hx
    refine ⟨_, rfl, _, rfl, p, c, cells, t4, l4, rfl, N4, by omega, fun q g h t5 l5 H5 g0 gh h1 gq _ ht5 N5 old5 => ?_⟩
    refine ⟨_, rfl, p, c, cells, t5, l5, rfl, N5, by omega, fun v i j t6 l6 H6 sp da ht6 N6 old6 => ?_⟩
    refine ⟨_, rfl, (by show 6 ≤ sizeLine; decide), fun r hr' => ?_⟩
    have s7 := same_new (o := .tup [V.str "l", .str who, vj, .ref q, v, timesV n]) hr'
    have k56 := (N5.keep old6).trans (Keep.same s7)
    have O6 : Old p H1 H6 := Old.trans O3 (Old.trans old4 (Old.trans old5 old6))
    have k1 := (N1.keep O6).trans (Keep.same s7)
    refine k _ (.lea who dj g h i j n) t6 l6 _ ⟨word_isWord (W.q1 _ hwho), wj, ⟨g0, gh, h1⟩, sp, n9⟩ ?_ (by omega) (N6.same s7) (Old.trans old1 (Old.trans O6 (Same.old s7)))
    refine .tup (SqT.of upd_same) (.cons (.str _) (.cons (.str _) (.cons (hj.keep k1 (subj_tupD wj)) (.cons (da_stretch (k56.sqT (SqT.of gq))) (.cons (da.same s7) (.cons ?_ .nil))))))
    cases n with
    | none => exact .non
    | some y => exact .int y
end
end LW

/-! The law's own statements: made, and their lines. -/
namespace LW
open PySem L2 G
abbrev sMadeL : Stmt := top 61
def Plain.text : Plain → Str
  | .nam p n ws i j => namT p n ws i j
  | .lea p dj g h i j t => leaveT p (subjT dj) g h i j t
def MadeAt (K : PySem.W.Frag) (H : Hp) (CN CL a : Addr) : Plain → Prop
  | .nam p n ws i j => ∃ (dx q c : Addr), H a = some (.ins CN dx (f5 (.str p) (.ref q) (.str (namT p n ws i j)) (.str n) (.ref c))) ∧ SqT K H c (ws.map V.str) ∧ SqT K H q [.int i, .int j]
  | .lea p dj g h i j t => ∃ (dx q ag : Addr) (vj : V), H a = some (.ins CL dx (g6 (.str p) (.ref q) (.str (leaveT p (subjT dj) g h i j t)) vj (.ref ag) (timesV t))) ∧ Da K H vj dj ∧ SqT K H ag [.int g, .int h] ∧ SqT K H q [.int i, .int j]
theorem MadeAt.keep {K : PySem.W.Frag} {H H' : Hp} {CN CL a : Addr} {pl : Plain} (k : Keep H H') (ok : pl.Ok) (m : MadeAt K H CN CL a pl) : MadeAt K H' CN CL a pl := by
  cases pl with
  | nam p n ws i j =>
    obtain ⟨dx, q, c, h1, h2, h3⟩ := m
    exact ⟨dx, q, c, k.ins h1, k.sqT h2, k.sqT h3⟩
  | lea p dj g h i j t =>
    obtain ⟨dx, q, ag, vj, h1, h2, h3, h4⟩ := m
    exact ⟨dx, q, ag, vj, k.ins h1, h2.keep k (subj_tupD ok.2.1), k.sqT h3, k.sqT h4⟩
def spMadeL (K : PySem.W.Frag) (CN CL : Addr) : Sp := fun vs H Q _ => ∃ (v : V) (pl : Plain), vs = [v] ∧ Da K H v pl.d ∧ pl.Ok ∧ ∀ a H', Same H H' → MadeAt K H' CN CL a pl → Q (.ref a) H'
/-- the parts of a plain statement -/
theorem da_five {K : PySem.W.Frag} {H : Hp} {v : V} {d1 d2 d3 d4 d5 : PyData} (h : Da K H v (.tuple [d1, d2, d3, d4, d5])) : ∃ a v1 v2 v3 v4 v5, v = .ref a ∧ SqT K H a [v1, v2, v3, v4, v5] ∧ Da K H v1 d1 ∧ Da K H v2 d2 ∧ Da K H v3 d3 ∧ Da K H v4 d4 ∧ Da K H v5 d5 := by
  cases h with
  | tup s a =>
    cases a with
    | cons p1 a => cases a with
      | cons p2 a => cases a with
        | cons p3 a => cases a with
          | cons p4 a => cases a with
            | cons p5 a =>
              cases a
              exact ⟨_, _, _, _, _, _, rfl, s, p1, p2, p3, p4, p5⟩
theorem da_six {K : PySem.W.Frag} {H : Hp} {v : V} {d1 d2 d3 d4 d5 d6 : PyData} (h : Da K H v (.tuple [d1, d2, d3, d4, d5, d6])) : ∃ a v1 v2 v3 v4 v5 v6, v = .ref a ∧ SqT K H a [v1, v2, v3, v4, v5, v6] ∧ Da K H v1 d1 ∧ Da K H v2 d2 ∧ Da K H v3 d3 ∧ Da K H v4 d4 ∧ Da K H v5 d5 ∧ Da K H v6 d6 := by
  cases h with
  | tup s a =>
    cases a with
    | cons p1 a => cases a with
      | cons p2 a => cases a with
        | cons p3 a => cases a with
          | cons p4 a => cases a with
            | cons p5 a => cases a with
              | cons p6 a =>
                cases a
                exact ⟨_, _, _, _, _, _, _, rfl, s, p1, p2, p3, p4, p5, p6⟩
theorem make_same {C : Addr} {H : Hp} {x dx : Addr} (nx : H x = none) (nd : H dx = none) : Same H (upd (upd H dx (.own x)) x (.ins C dx [])) := fun b o e => by
  rw [upd_ne (ne_of_none e nx), upd_ne (ne_of_none e nd)]
  exact e
theorem at_nam {K : PySem.W.Frag} {H : Hp} {q : Addr} {vd st : V} {i j : Int} (h : StAt K H vd st (stD i j)) (d : Da K H vd (stD i j)) : ∃ q, st = .ref q ∧ SqT K H q [.int i, .int j] := by
  rcases h with ⟨_, rfl⟩ | ⟨z, _⟩
  · exact da_pair d
  · cases z
section
variable {w : World} {K : PySem.W.Frag} {mg : Str → Option Value} {base : Heap}
variable {CN CL CW CC CS CJ CT fN fL fG : Addr} {fdN fdL fdG : FuncData}
abbrev psN : List Str := ["self", "person", "name", "chain", "days"]
theorem scMadeL : FnScope ["_law_plain"] ["_law_plain"] (defScope sMadeL) := ⟨rfl, rfl, rfl, by decide +kernel, rfl, by decide +kernel, by decide +kernel⟩
theorem ok_madeL {f : Addr} {fd : FuncData} (F : Fun K "_law_made" "_law_made" sMadeL f fd)
    (MN : Mk K CN fN) (GN : FnOk PySem.Challenge.pw_namechains_k79_statements_written_and_re w K mg base (L2.CX PySem.Challenge.pw_namechains_k79_statements_written_and_re w) 5 fN fdN psN (spNam K CN CW CC CS)) (mN : mg "Naming" = some (.ref CN)) (bN : Binds K fdN psN [])
    (ML : Mk K CL fL) (GL : FnOk PySem.Challenge.pw_namechains_k79_statements_written_and_re w K mg base (L2.CX PySem.Challenge.pw_namechains_k79_statements_written_and_re w) 6 fL fdL psL (spLea K CL CW CJ CS CT)) (mL : mg "Leave" = some (.ref CL)) (bL : Binds K fdL psL []) :
    FnOk PySem.Challenge.pw_namechains_k79_statements_written_and_re w K mg base CX0 8 f fd ["_law_plain"] (spMadeL K CN CL) := by
  refine F.ok scMadeL (fun vs H Q E h => ?_) (fun cdv A outer s H vs Q E hr h => ?_)
  · obtain ⟨v, pl, rfl, _⟩ := h
    rfl
  · obtain ⟨v, pl, rfl, hd, ok, k⟩ := h
    have passL : Passes (L2.CX PySem.Challenge.pw_namechains_k79_statements_written_and_re w) (cxOf CX0 PySem.Challenge.pw_namechains_k79_statements_written_and_re w K mg base ["_law_plain"] "_law_made" (defScope sMadeL) f cdv A outer s H E).nox E0 := passes_call LamX.takes0 fun _ _ _ _ h => h
    refine ⟨_, pss_cons (ps_if (pt_cmpR op_eq (pe_ix ix_tup (pv 0) pe_int (fun _ _ => rfl)) pe_str (nomark _)) (pss_one (ps_ret (pe_make MN GN (hr.mono (by decide)) (by rfl) mN bN .nil passL (pa_cons (pe_ix ix_tup (pv 0) pe_int (fun _ _ => rfl)) (pa_cons (pe_ix ix_tup (pv 0) pe_int (fun _ _ => rfl)) (pa_cons (pe_ix ix_tup (pv 0) pe_int (fun _ _ => rfl)) (pa_cons (pe_ix ix_tup (pv 0) pe_int (fun _ _ => rfl)) pa_nil))))))) pss_nil)
      (pss_one (ps_ret (pe_make ML GL hr (by rfl) mL bL .nil passL (pa_cons (pe_ix ix_tup (pv 0) pe_int (fun _ _ => rfl)) (pa_cons (pe_ix ix_tup (pv 0) pe_int (fun _ _ => rfl)) (pa_cons (pe_ix ix_tup (pv 0) pe_int (fun _ _ => rfl)) (pa_cons (pe_ix ix_tup (pv 0) pe_int (fun _ _ => rfl)) (pa_cons (pe_ix ix_tup (pv 0) pe_int (fun _ _ => rfl)) pa_nil)))))))), ?_⟩
    cases pl with
    | nam p n ws i j =>
      obtain ⟨a, v1, v2, v3, v4, v5, rfl, hS, a1, a2, a3, a4, a5⟩ := da_five hd
      cases a1
      obtain ⟨w1, w2, w3, sp⟩ := ok
      refine ⟨_, rfl, a, _, 0, _, rfl, rfl, hS, rfl, rfl, _, rfl, iteT ?_⟩
      refine ⟨_, rfl, a, _, 1, _, rfl, rfl, hS, rfl, _, rfl, a, _, 2, _, rfl, rfl, hS, rfl, _, rfl, a, _, 3, _, rfl, rfl, hS, rfl, _, rfl, a, _, 4, _, rfl, rfl, hS, rfl, fun x dx nx ndx ne => ?_⟩
      have S := make_same (C := CN) nx ndx
      refine ⟨x, dx, v2, v3, v4, v5, .str p, .str n, chD ws, stD i j, rfl, upd_same, a2.same S, a3.same S, a4.same S, a5.same S, word_okStr w1, word_okStr w2, chain_okTup (by decide) w3, fun e => ?_, fun _ e => ?_, fun _ _ e => ?_, fun _ _ _ _ e => ?_, fun _ _ _ _ st H' e1 e2 e3 => ⟨rfl, ?_⟩⟩
      · rw [w1] at e; cases e
      · rw [w2] at e; cases e
      · rw [w3] at e; cases e
      · rw [span_ok sp] at e; cases e
      · have S2 : Same H H' := fun b o e => e1 b o (S b o e) (ne_of_none e nx)
        obtain ⟨q, rfl, hq⟩ := at_nam (q := x) e3 (a5.same S2)
        obtain ⟨c, rfl, hc⟩ := da_chain (a4.same S2)
        cases a2
        cases a3
        refine k x H' S2 ⟨dx, q, c, ?_, hc, hq⟩
        have et : namTD (.str p) (.str n) (chD ws) (stD i j) = namT p n ws i j := by
          unfold namTD
          rw [wordsD_chain]
          rfl
        rw [et] at e2
        exact e2
    | lea p dj g h i j t =>
      obtain ⟨a, v1, v2, v3, v4, v5, v6, rfl, hS, a1, a2, a3, a4, a5, a6⟩ := da_six hd
      cases a1
      obtain ⟨w1, w2, sg, sp, n9⟩ := ok
      refine ⟨_, rfl, a, _, 0, _, rfl, rfl, hS, rfl, rfl, _, rfl, iteF ?_⟩
      refine ⟨_, rfl, a, _, 1, _, rfl, rfl, hS, rfl, _, rfl, a, _, 2, _, rfl, rfl, hS, rfl, _, rfl, a, _, 3, _, rfl, rfl, hS, rfl, _, rfl, a, _, 4, _, rfl, rfl, hS, rfl, _, rfl, a, _, 5, _, rfl, rfl, hS, rfl, fun x dx nx ndx ne => ?_⟩
      have S := make_same (C := CL) nx ndx
      refine ⟨x, dx, v2, v3, v4, v5, v6, .str p, dj, stD g h, stD i j, timesP t, rfl, upd_same, a2.same S, a3.same S, a4.same S, a5.same S, a6.same S, word_okStr w1, subj_okSub w2, fun e => ?_, fun _ e => ?_, fun _ _ e => ?_, fun _ _ _ _ e => ?_, fun _ _ _ _ e => ?_, fun _ _ _ _ _ st H' e1 e2 e3 => ⟨rfl, ?_⟩⟩
      · rw [w1] at e; cases e
      · rw [w2] at e; cases e
      · rw [span_ok sg] at e; cases e
      · rw [span_ok sp] at e; cases e
      · rw [times_ok n9] at e; cases e
      · have S2 : Same H H' := fun b o e => e1 b o (S b o e) (ne_of_none e nx)
        obtain ⟨q, rfl, hq⟩ := at_nam (q := x) e3 (a5.same S2)
        obtain ⟨c, rfl, hc⟩ := da_pair (a4.same S2)
        obtain ⟨en, _⟩ := times_inv (times_ok n9) a6
        have to : timesO (timesP t) = t := by cases t <;> rfl
        rw [to] at en
        subst en
        cases a2
        refine k x H' S2 ⟨dx, q, c, v3, ?_, a3.same S2, hc, hq⟩
        have et : leaTD (.str p) dj (stD g h) (stD i j) (timesP t) = leaveT p (subjT dj) g h i j t := by
          unfold leaTD
          rw [to]
          rfl
        rw [et] at e2
        exact e2
end
end LW

/-! A statement's text is its pieces with a blank between each two. -/
namespace LW
open PySem L2 G TL
def numS (i : Int) : Str := Str.ofString (toString i)
theorem numS_eq (i : Int) : Str.ofString (toString i) = numS i := rfl
def daysPc (i j : Int) : List Str := if i = 0 ∧ j = 10 ^ 30 then [] else [Str.ofString "@", numS i, numS j]
def timesPc : Option Int → List Str
  | none => []
  | some i => [Str.ofString "+", numS i]
def rowsPc (wss : List (List Str)) : List Str := wss.flatMap fun ws => Str.ofString "/" :: ws
def subjPc (d : PyData) : List Str := if isChainD d 4 then wordsD d else match d with
  | .tuple [.int n, .tuple cs] => numS n :: rowsPc (cs.map wordsD)
  | _ => []
def Plain.pcs : Plain → List Str
  | .nam p n ws i j => p :: n :: Str.ofString "=" :: (ws ++ daysPc i j)
  | .lea p dj g h i j t => p :: Str.ofString ">" :: (subjPc dj ++ Str.ofString ":" :: numS g :: numS h :: (daysPc i j ++ timesPc t))
/-- each piece with a blank ahead of it -/
def J (l : List Str) : List Nat := l.flatMap fun y => 32 :: tl y
theorem J_nil : J [] = [] := rfl
theorem J_cons (x : Str) (l : List Str) : J (x :: l) = 32 :: (tl x ++ J l) := by simp [J]
theorem J_app (a b : List Str) : J (a ++ b) = J a ++ J b := by simp [J]
theorem joinL_J : ∀ (x : Str) (l : List Str), joinL [32] ((x :: l).map tl) = tl x ++ J l
  | x, [] => by simp [joinL, J]
  | x, y :: l => by
    have h := joinL_J y l
    show tl x ++ ([32] ++ joinL [32] ((y :: l).map tl)) = _
    rw [h, J_cons]
    simp
theorem tl_blank : tl (Str.ofString " ") = [32] := by decide +kernel
theorem tl_chain (x : Str) (l : List Str) : tl (chainT (x :: l)) = tl x ++ J l := by
  unfold chainT
  rw [join_eq, tl_join, tl_blank, joinL_J]
theorem tl_chainJ {l : List Str} (h : l ≠ []) : 32 :: tl (chainT l) = J l := by
  cases l with
  | nil => exact absurd rfl h
  | cons x l => rw [tl_chain, J_cons]
theorem tl_empty : tl Str.empty = [] := rfl
theorem t_at : tl (Str.ofString " @ ") = [32, 64, 32] := by decide +kernel
theorem t_plus : tl (Str.ofString " + ") = [32, 43, 32] := by decide +kernel
theorem t_eq : tl (Str.ofString " = ") = [32, 61, 32] := by decide +kernel
theorem t_gt : tl (Str.ofString " > ") = [32, 62, 32] := by decide +kernel
theorem t_col : tl (Str.ofString " : ") = [32, 58, 32] := by decide +kernel
theorem t_sl : tl (Str.ofString " / ") = [32, 47, 32] := by decide +kernel
theorem t1_at : tl (Str.ofString "@") = [64] := by decide +kernel
theorem t1_plus : tl (Str.ofString "+") = [43] := by decide +kernel
theorem t1_eq : tl (Str.ofString "=") = [61] := by decide +kernel
theorem t1_gt : tl (Str.ofString ">") = [62] := by decide +kernel
theorem t1_col : tl (Str.ofString ":") = [58] := by decide +kernel
theorem t1_sl : tl (Str.ofString "/") = [47] := by decide +kernel
theorem tl_days (i j : Int) : tl (daysT i j) = J (daysPc i j) := by
  unfold daysT daysPc
  by_cases h : i = 0 ∧ j = 10 ^ 30
  · rw [if_pos h, if_pos h]
    rfl
  · rw [if_neg h, if_neg h, J_cons, J_cons, J_cons, J_nil]
    simp only [tl_append, tl_empty, t_at, tl_blank, t1_at, numS_eq]
    simp
theorem tl_times (t : Option Int) : tl (timesT t) = J (timesPc t) := by
  cases t with
  | none => rfl
  | some i =>
    unfold timesT timesPc
    simp only [J_cons, J_nil, tl_append, tl_empty, t_plus, t1_plus, numS_eq]
    simp
theorem tl_rows : ∀ {wss : List (List Str)}, wss ≠ [] → (∀ ws ∈ wss, ws ≠ []) → [32, 47, 32] ++ joinL [32, 47, 32] ((wss.map chainT).map tl) = J (rowsPc wss)
  | [], h, _ => absurd rfl h
  | [ws], _, hw => by
    have e := tl_chainJ (hw ws List.mem_cons_self)
    show [32, 47, 32] ++ tl (chainT ws) = J (Str.ofString "/" :: ws ++ [])
    rw [List.append_nil, J_cons, t1_sl, ← e]
    rfl
  | ws :: vs :: r, _, hw => by
    have e := tl_chainJ (hw ws List.mem_cons_self)
    have ih := tl_rows (wss := vs :: r) (by simp) fun x hx => hw x (List.mem_cons_of_mem _ hx)
    show [32, 47, 32] ++ (tl (chainT ws) ++ ([32, 47, 32] ++ joinL [32, 47, 32] (((vs :: r).map chainT).map tl))) = J ((Str.ofString "/" :: ws) ++ rowsPc (vs :: r))
    rw [ih, J_app, J_cons, t1_sl, ← e]
    simp
theorem tl_share (n : Int) {wss : List (List Str)} (h : wss ≠ []) (hw : ∀ ws ∈ wss, ws ≠ []) : 32 :: tl (shareT n wss) = J (numS n :: rowsPc wss) := by
  unfold shareT
  rw [J_cons, ← tl_rows h hw]
  simp only [tl_append, tl_empty, t_sl, join_eq, tl_join, numS_eq]
  simp
theorem chainD_ne {ws : List Str} {k : Int} (h : isChainD (chD ws) k = true) : ws ≠ [] := fun e => by
  subst e
  exact absurd h (by simp [isChainD, chD])
theorem words_mapR (wss : List (List Str)) : (wss.map chD).map wordsD = wss := by
  rw [List.map_map]
  exact (List.map_congr_left fun q _ => wordsD_chain q).trans (List.map_id wss)
theorem tl_subj {d : PyData} (h : subjD d = true) : 32 :: tl (subjT d) = J (subjPc d) := by
  rcases subj_cases h with ⟨ws, rfl, c⟩ | ⟨m, wss, rfl, c, l1, _, ch, _⟩
  · unfold subjT subjPc
    rw [if_pos c, if_pos c, wordsD_chain]
    exact tl_chainJ (chainD_ne c)
  · unfold subjT subjPc
    rw [if_neg (by rw [c]; decide), if_neg (by rw [c]; decide)]
    show 32 :: tl (shareT m ((wss.map chD).map wordsD)) = J (numS m :: rowsPc ((wss.map chD).map wordsD))
    rw [words_mapR]
    refine tl_share m (fun e => ?_) fun ws hw => chainD_ne (ch ws hw)
    subst e
    simp at l1
theorem text_pcs {pl : Plain} (ok : pl.Ok) : pl.text = Txt.join " " pl.pcs := by
  cases pl with
  | nam p n ws i j =>
    obtain ⟨_, _, w3, _⟩ := ok
    have e := tl_chainJ (chainD_ne w3)
    refine ext_tl ?_
    show tl (namT p n ws i j) = tl (Txt.join " " (p :: n :: Str.ofString "=" :: (ws ++ daysPc i j)))
    rw [join_eq, tl_join, tl_blank, joinL_J, J_cons, J_cons, J_app, ← e]
    unfold namT
    simp only [tl_append, tl_empty, tl_blank, t_eq, tl_days, t1_eq]
    simp
  | lea p dj g h i j t =>
    obtain ⟨_, w2, _⟩ := ok
    have e := tl_subj w2
    refine ext_tl ?_
    show tl (leaveT p (subjT dj) g h i j t) = tl (Txt.join " " (p :: Str.ofString ">" :: (subjPc dj ++ Str.ofString ":" :: numS g :: numS h :: (daysPc i j ++ timesPc t))))
    rw [join_eq, tl_join, tl_blank, joinL_J, J_cons, J_app, ← e, J_cons, J_cons, J_cons, J_app]
    unfold leaveT
    simp only [tl_append, tl_empty, tl_blank, t_gt, t_col, tl_days, tl_times, t1_gt, t1_col, numS_eq]
    simp
end LW

/-! Defs whose last parameter takes the rest; instances made without arguments by such an __init__. -/
namespace L2
open PySem PySem.Spec PyProof.Rows
section
variable {P : Program} {w : World} {K : PySem.W.Frag} {mg : Str → Option Value} {base : Heap}
/-- what a call says of a promise about the tuple of what is left over -/
def spStar (n : Nat) (sp : Sp) : Sp := fun vs H Q E => ∃ ws rest, vs = ws ++ rest ∧ ws.length = n ∧ rest.length ≤ sizeLine ∧ ∀ p, H p = Option.none → sp (ws ++ [V.ref p]) (upd H p (.tup rest)) Q E
theorem Fun.star {x qual pv : Str} {st : Stmt} {f : Addr} {fd : FuncData} {N ps : List Str} {k : Nat} {sp : Sp} (F : Fun K x qual st f fd) (S : FnScope N (ps ++ [pv]) (defScope st))
    (hb : ∀ (kV doc pm : Value) (an : Option Addr) (cdv ct : Value) (us rest : List Value), us.length = ps.length → bindArgs (PySem.W.fnOf x qual (defArgs st) (defBody st) (defScope st) .none kV doc pm an cdv ct) ⟨us ++ rest, []⟩ = (newTuple rest >>= fun t => pure (ps.zip us ++ [(pv, t)])))
    (body : ∀ (cdv : Value) (A : Around) (outer : List Env) (s : Shared) (H : Hp) (vs : List V) (Q : VK) (E : XK), Room k (A.deeper (envOfC qual (defScope st) s.heap.objs.size f cdv)) → sp vs H Q E →
      ∃ t, PSs (cxOf CX0 P w K mg base N qual (defScope st) f cdv A outer s H E).nox (defBody st) t ∧ t { nx := fun _ H' => Q .non H', rt := Q } (start N vs) H) : FnR P w K mg base CX0 (k + 1) f (spStar ps.length sp) := by
  obtain ⟨oc, od, kV, doc, pm, an, cdv, ct, osl, rfl, lk, hcd⟩ := F.ex
  refine StX.fn_star lk hcd S StX.cxUp_none (hb kV doc pm an cdv ct) fun A outer s H vs Q E hr hsp => ?_
  obtain ⟨t, h, q⟩ := body cdv A outer s H vs Q E hr hsp
  exact ⟨t, h.nox, q⟩
end
section
variable {X : Cx} {CX : CXT} {k : Nat} {f C : Addr} {sp : Sp} {E : XK} {x : Str} {p pos : Pos}
theorem pe_makeR0 (M : Mk X.K C f) (F : FnR X.prog X.w X.K X.mg X.base CX k f sp) (hr : Room (k + 1) X.A) (hg : Gl X x) (hm : X.mg x = some (.ref C)) (hx : Passes CX X E) (hdb : (x == ("__debug__" : Str)) = false := by decide) : PE X (.Call (.Name x p) [] [] pos) (StX.tMakeR C sp E tNil) := by
  refine ⟨fun pins s σ H Q I h => ?_⟩
  refine wpAny_Call_Name_kw (ld_glob I hg hm ?_ hdb)
  exact PySem.W.callWith_K0 I.kIn M.kp (StX.run_makeR (us := []) M F hr hx I .nil h)
end
end L2

/-! A reader of pieces: where it stands, what is next. -/
namespace LW
open PySem L2 G
abbrev pRdI : Stmt := inClass (top 40) 0
abbrev pNext : Stmt := inClass (top 40) 1
abbrev pWordN : Stmt := inClass (top 40) 2
abbrev pAtEnd : Stmt := inClass (top 40) 3
abbrev pTakeS : Stmt := inClass (top 40) 4
abbrev pTakeW : Stmt := inClass (top 40) 5
abbrev pTakeN : Stmt := inClass (top 40) 6
abbrev pTakeC : Stmt := inClass (top 40) 7
abbrev pFinish : Stmt := inClass (top 40) 8
abbrev pTaken : Stmt := inClass (top 40) 9
abbrev rd2 (a b : V) : List (Str × V) := [(Str.ofString "pieces", a), (Str.ofString "place", b)]
structure RdC (K : PySem.W.Frag) (C : Addr) : Prop where
  cl : Cls K C
  n1 : NoAttr K C "pieces"
  n2 : NoAttr K C "place"
/-- a reader of the pieces ps, at the place k -/
structure RdAt (H : Hp) (C r L : Addr) (ps : List Str) (k : Nat) : Prop where
  at_ : ∃ dx, H r = some (.ins C dx (rd2 (.ref L) (.int (k : Nat)))) ∧ H L = some (.lst (ps.map V.str))
  few : ps.length ≤ 1000
  ok : ∀ x ∈ ps, x.length ≤ 100 ∧ PyData.strOk x = true
theorem RdAt.same {H H' : Hp} {C r L : Addr} {ps : List Str} {k : Nat} (h : RdAt H C r L ps k) (s : Same H H') : RdAt H' C r L ps k := by
  obtain ⟨⟨dx, h1, h2⟩, h3, h4⟩ := h
  exact ⟨⟨dx, s _ _ h1, s _ _ h2⟩, h3, h4⟩
theorem rl1 {a b : V} : List.lookup (Str.ofString "pieces") (rd2 a b) = some a := by simp [List.lookup]
theorem rl2 {a b : V} : List.lookup (Str.ofString "place") (rd2 a b) = some b := by
  have h1 : (Str.ofString "place" == Str.ofString "pieces") = false := by decide +kernel
  simp [List.lookup, h1]
theorem rl0 {a b : V} {m : Str} (h1 : (m == Str.ofString "pieces") = false) (h2 : (m == Str.ofString "place") = false) : List.lookup m (rd2 a b) = none := by simp [List.lookup, h1, h2]
def nextIn (ps : List Str) (k : Nat) (qs : List Str) : Bool := match ps[k]? with
  | some x => decide (x ∈ qs)
  | none => false
def nextWord (ps : List Str) (k : Nat) : Bool := match ps[k]? with
  | some x => isWordD (.str x)
  | none => false
def spNext (K : PySem.W.Frag) (C : Addr) : Sp := fun vs H Q _ => ∃ (r p L : Addr) (ps qs : List Str) (k : Nat), vs = [.ref r, .ref p] ∧ RdAt H C r L ps k ∧ SqT K H p (qs.map V.str) ∧ Q (.bl (nextIn ps k qs)) H
def spWordN (C : Addr) : Sp := fun vs H Q _ => ∃ (r L : Addr) (ps : List Str) (k : Nat), vs = [.ref r] ∧ RdAt H C r L ps k ∧ ∀ H', Same H H' → Q (.bl (nextWord ps k)) H'
def spAtEnd (C : Addr) : Sp := fun vs H Q _ => ∃ (r L : Addr) (ps : List Str) (k : Nat), vs = [.ref r] ∧ RdAt H C r L ps k ∧ Q (.bl (decide (k = ps.length))) H
/-- a piece is taken -/
def spTaken (C : Addr) : Sp := fun vs H Q _ => ∃ (r L : Addr) (ps : List Str) (k : Nat) (x : Str), vs = [.ref r] ∧ RdAt H C r L ps k ∧ ps[k]? = some x ∧ ∀ H', RdAt H' C r L ps (k + 1) → Old r H H' → Q (.str x) H'
theorem in_strs (x : Str) : ∀ qs : List Str, inV (.str x) (qs.map V.str) = decide (x ∈ qs)
  | [] => rfl
  | q :: qs => by
    have ih := in_strs x qs
    unfold inV at ih ⊢
    rw [List.map_cons, List.any_cons, ih]
    have e : eqV (V.str q) (V.str x) = decide (x = q) := by
      show (q == x) = _
      cases h : (q == x) with
      | true => exact (decide_eq_true (eq_of_beq h).symm).symm
      | false => exact (decide_eq_false fun e => by rw [e, beq_self_eq_true] at h; cases h).symm
    rw [e]
    simp [List.mem_cons]
theorem flat_strs (qs : List Str) : (qs.map V.str).all flatV = true := by
  rw [List.all_eq_true]
  intro v hv
  obtain ⟨x, _, rfl⟩ := List.mem_map.mp hv
  rfl
section
variable {P : Program} {w : World} {K : PySem.W.Frag} {mg : Str → Option Value} {base : Heap} {C : Addr}
variable {fW : Addr} {dW : FuncData}
theorem scNext : FnScope ["self", "signs"] ["self", "signs"] (defScope pNext) := ⟨rfl, rfl, rfl, by decide +kernel, rfl, by decide +kernel, by decide +kernel⟩
theorem ok_next {f : Addr} {fd : FuncData} (F : Fun K "is_next" "Reader.is_next" pNext f fd) (ln : mg "len" = none) (c : RdC K C) : FnR P w K mg base CX0 2 f (spStar 1 (spNext K C)) := by
  refine F.star (ps := ["self"]) (pv := "signs") scNext (fun kV doc pm an cdv ct => StX.bind_star1 (B := fun l => bindArgs (PySem.W.fnOf "is_next" "Reader.is_next" (defArgs pNext) (defBody pNext) (defScope pNext) .none kV doc pm an cdv ct) ⟨l, []⟩) (p1 := "self") (pv := "signs") (fun _ => rfl) (fun _ _ _ => rfl)) (fun cdv A outer s H vs Q E hr h => ?_)
  obtain ⟨r, p, L, ps, qs, k, rfl, R, hq, kk⟩ := h
  refine ⟨_, pss_one (ps_ret (pe_and (pe_cmpR op_lt (pe_fld (pv 0) rfl) (pe_callB call_len (by rfl) ln PySem.boot_len (pa_cons (pe_fld (pv 0) rfl) pa_nil)) (nomark _))
    (pe_one (pe_cmpR op_in_seq (pe_ix ix_list (pe_fld (pv 0) rfl) (pe_fld (pv 0) rfl) (fun _ _ => rfl)) (pv 1) (by rfl))))), ?_⟩
  obtain ⟨⟨dx, h1, h2⟩, few, ok⟩ := R
  refine ⟨_, rfl, r, C, dx, _, _, rfl, h1, c.cl, c.n2, rl2, _, rfl, r, C, dx, _, _, rfl, h1, c.cl, c.n1, rl1, .ref L, ps.length, rfl, .inl ⟨_, SqL.of h2, (List.length_map ..).symm⟩, _, _, rfl, rfl, _, rfl, ?_⟩
  unfold nextIn at kk
  by_cases lt : k < ps.length
  · have e1 : decide (((k : Nat) : Int) < ((ps.length : Nat) : Int)) = true := decide_eq_true (by omega)
    refine (?_ : if decide (((k : Nat) : Int) < ((ps.length : Nat) : Int)) = true then _ else _)
    rw [e1]
    refine iteT ?_
    have e2 : ps[k]? = some ps[k] := List.getElem?_eq_getElem lt
    rw [e2] at kk
    have e3 : atI (ps.map V.str) (k : Int) = some (.str ps[k]) := L2.atI_nat (by rw [List.getElem?_map, e2]; rfl)
    refine ⟨_, rfl, r, C, dx, _, _, rfl, h1, c.cl, c.n1, rl1, _, rfl, r, C, dx, _, _, rfl, h1, c.cl, c.n2, rl2, L, _, _, _, rfl, rfl, SqL.of h2, e3, _, rfl, p, _, rfl, .inr hq, rfl, flat_strs qs, ?_⟩
    rw [in_strs]
    exact kk
  · have e1 : decide (((k : Nat) : Int) < ((ps.length : Nat) : Int)) = false := decide_eq_false (by omega)
    refine (?_ : if decide (((k : Nat) : Int) < ((ps.length : Nat) : Int)) = true then _ else _)
    rw [e1]
    rw [List.getElem?_eq_none (by omega)] at kk
    exact iteF kk
theorem scWordN : FnScope ["self"] ["self"] (defScope pWordN) := ⟨rfl, rfl, rfl, by decide +kernel, rfl, by decide +kernel, by decide +kernel⟩
theorem ok_wordN {f : Addr} {fd : FuncData} (F : Fun K "is_word_next" "Reader.is_word_next" pWordN f fd) (ln : mg "len" = none) (c : RdC K C)
    (GW : FnOk P w K mg base CX0 1 fW dW ["value"] (spIsWord K)) (mW : mg "is_word" = some (.ref fW)) (kW : PySem.W.keepIn K (.ref fW) = true) (bW : Binds K dW ["value"] []) : FnOk P w K mg base CX0 2 f fd ["self"] (spWordN C) := by
  refine F.ok scWordN (fun vs H Q E h => ?_) (fun cdv A outer s H vs Q E hr h => ?_)
  · obtain ⟨r, L, ps, k, rfl, _⟩ := h
    rfl
  · obtain ⟨r, L, ps, k, rfl, R, kk⟩ := h
    refine ⟨_, pss_one (ps_ret (pe_and (pe_cmpR op_lt (pe_fld (pv 0) rfl) (pe_callB call_len (by rfl) ln PySem.boot_len (pa_cons (pe_fld (pv 0) rfl) pa_nil)) (nomark _))
      (pe_one (pe_call GW hr (by rfl) mW kW bW .nil pass0 (pa_cons (pe_ix ix_list (pe_fld (pv 0) rfl) (pe_fld (pv 0) rfl) (fun _ _ => rfl)) pa_nil))))), ?_⟩
    obtain ⟨⟨dx, h1, h2⟩, few, ok⟩ := R
    refine ⟨_, rfl, r, C, dx, _, _, rfl, h1, c.cl, c.n2, rl2, _, rfl, r, C, dx, _, _, rfl, h1, c.cl, c.n1, rl1, .ref L, ps.length, rfl, .inl ⟨_, SqL.of h2, (List.length_map ..).symm⟩, _, _, rfl, rfl, _, rfl, ?_⟩
    unfold nextWord at kk
    by_cases lt : k < ps.length
    · have e1 : decide (((k : Nat) : Int) < ((ps.length : Nat) : Int)) = true := decide_eq_true (by omega)
      refine (?_ : if decide (((k : Nat) : Int) < ((ps.length : Nat) : Int)) = true then _ else _)
      rw [e1]
      refine iteT ?_
      have e2 : ps[k]? = some ps[k] := List.getElem?_eq_getElem lt
      rw [e2] at kk
      have e3 : atI (ps.map V.str) (k : Int) = some (.str ps[k]) := L2.atI_nat (by rw [List.getElem?_map, e2]; rfl)
      obtain ⟨o1, o2⟩ := ok ps[k] (List.getElem_mem lt)
      refine ⟨_, rfl, r, C, dx, _, _, rfl, h1, c.cl, c.n1, rl1, _, rfl, r, C, dx, _, _, rfl, h1, c.cl, c.n2, rl2, L, _, _, _, rfl, rfl, SqL.of h2, e3, .str ps[k], .str ps[k], rfl, .str _, ?_, kk⟩
      exact fun z e => by
        cases e
        exact ⟨by rw [sizeLine_eq]; omega, o2⟩
    · have e1 : decide (((k : Nat) : Int) < ((ps.length : Nat) : Int)) = false := decide_eq_false (by omega)
      refine (?_ : if decide (((k : Nat) : Int) < ((ps.length : Nat) : Int)) = true then _ else _)
      rw [e1]
      rw [List.getElem?_eq_none (by omega)] at kk
      exact iteF (kk H (fun _ _ e => e))
theorem scAtEnd : FnScope ["self"] ["self"] (defScope pAtEnd) := ⟨rfl, rfl, rfl, by decide +kernel, rfl, by decide +kernel, by decide +kernel⟩
theorem ok_atEnd {f : Addr} {fd : FuncData} (F : Fun K "is_at_end" "Reader.is_at_end" pAtEnd f fd) (ln : mg "len" = none) (c : RdC K C) : FnOk P w K mg base CX0 1 f fd ["self"] (spAtEnd C) := by
  refine F.ok scAtEnd (fun vs H Q E h => ?_) (fun cdv A outer s H vs Q E hr h => ?_)
  · obtain ⟨r, L, ps, k, rfl, _⟩ := h
    rfl
  · obtain ⟨r, L, ps, k, rfl, R, kk⟩ := h
    refine ⟨_, pss_one (ps_ret (pe_cmpR op_eq (pe_fld (pv 0) rfl) (pe_callB call_len (by rfl) ln PySem.boot_len (pa_cons (pe_fld (pv 0) rfl) pa_nil)) (nomark _))), ?_⟩
    obtain ⟨⟨dx, h1, h2⟩, few, ok⟩ := R
    refine ⟨_, rfl, r, C, dx, _, _, rfl, h1, c.cl, c.n2, rl2, _, rfl, r, C, dx, _, _, rfl, h1, c.cl, c.n1, rl1, .ref L, ps.length, rfl, .inl ⟨_, SqL.of h2, (List.length_map ..).symm⟩, rfl, ?_⟩
    have e : decide (V.int ((k : Nat) : Int) = V.int ((ps.length : Nat) : Int)) = decide (k = ps.length) := decide_eq_decide.mpr ⟨fun z => by have := V.int.inj z; omega, fun z => by rw [z]⟩
    rw [e]
    exact kk
theorem scTaken : FnScope ["self"] ["self"] (defScope pTaken) := ⟨rfl, rfl, rfl, by decide +kernel, rfl, by decide +kernel, by decide +kernel⟩
theorem ok_taken {f : Addr} {fd : FuncData} (F : Fun K "_taken" "Reader._taken" pTaken f fd) (c : RdC K C) : FnOk P w K mg base CX0 1 f fd ["self"] (spTaken C) := by
  refine F.ok scTaken (fun vs H Q E h => ?_) (fun cdv A outer s H vs Q E hr h => ?_)
  · obtain ⟨r, L, ps, k, x, rfl, _⟩ := h
    rfl
  · obtain ⟨r, L, ps, k, x, rfl, R, hx, kk⟩ := h
    refine ⟨_, pss_cons (ps_fldaug (pv 0) pe_int in_add) (pss_one (ps_ret (pe_ix ix_list (pe_fld (pv 0) rfl) (pe_op op_sub (pe_fld (pv 0) rfl) pe_int) (fun _ _ => rfl)))), ?_⟩
    obtain ⟨⟨dx, h1, h2⟩, few, ok⟩ := R
    have lt : k < ps.length := (List.getElem?_eq_some_iff.mp hx).1
    refine ⟨_, rfl, r, C, dx, _, _, rfl, h1, c.cl, c.n2, rl2, _, _, rfl, rfl, dx, _, h1, by show 2 < 1000; decide, ?_⟩
    have e1 : putF (Str.ofString "place") (.int ((k : Nat) + 1 : Int)) (rd2 (.ref L) (.int (k : Nat))) = rd2 (.ref L) (.int ((k + 1 : Nat) : Int)) := by
      have z2 : ¬ Str.ofString "pieces" = Str.ofString "place" := by decide +kernel
      simp [putF, z2]
    rw [e1]
    have Lr : L ≠ r := fun z => by rw [z, h1] at h2; cases h2
    have g1 : (upd H r (.ins C dx (rd2 (.ref L) (.int ((k + 1 : Nat) : Int))))) r = some (.ins C dx (rd2 (.ref L) (.int ((k + 1 : Nat) : Int)))) := upd_same
    have g2 : (upd H r (.ins C dx (rd2 (.ref L) (.int ((k + 1 : Nat) : Int))))) L = some (.lst (ps.map V.str)) := by rw [upd_ne Lr]; exact h2
    have o : Old r H (upd H r (.ins C dx (rd2 (.ref L) (.int ((k + 1 : Nat) : Int))))) := fun b o e nb => by rw [upd_ne nb]; exact e
    show _
    generalize upd H r (.ins C dx (rd2 (.ref L) (.int ((k + 1 : Nat) : Int)))) = H1 at g1 g2 o ⊢
    have e2 : (((k + 1 : Nat) : Int) - 1) = (k : Int) := by omega
    have e3 : atI (ps.map V.str) (k : Int) = some (.str x) := L2.atI_nat (by rw [List.getElem?_map, hx]; rfl)
    refine ⟨_, rfl, r, C, dx, _, _, rfl, g1, c.cl, c.n1, rl1, _, rfl, r, C, dx, _, _, rfl, g1, c.cl, c.n2, rl2, _, _, rfl, rfl, L, _, _, _, rfl, rfl, SqL.of g2, ?_, kk H1 ⟨⟨dx, g1, g2⟩, few, ok⟩ o⟩
    rw [e2]
    exact e3
end
end LW

/-! A reader of pieces: made; signs, words, numbers are taken. -/
namespace LW
open PySem L2 G TL
abbrev pIsNum : Stmt := top 41
theorem tl_numS {n : Nat} : tl (numS (n : Int)) = numL n := tl_num n
theorem numL_head {n : Nat} (h : 0 < n) : ∃ c r, numL n = c :: r ∧ 49 ≤ c := by
  induction n using Nat.strongRecOn with
  | ind n ih =>
    by_cases lt : n < 10
    · exact ⟨48 + n, [], numL_lt lt, by omega⟩
    · have ge : 10 ≤ n := by omega
      obtain ⟨c, r, e, hc⟩ := ih (n / 10) (by omega) (by omega)
      exact ⟨c, r ++ [48 + n % 10], by rw [numL_step ge, e]; rfl, hc⟩
theorem numS_ne0 {n : Nat} (h : 0 < n) : numS (n : Int) ≠ Str.ofString "0" := fun z => by
  have e := congrArg tl z
  rw [tl_numS] at e
  obtain ⟨c, r, e2, hc⟩ := numL_head h
  rw [e2] at e
  have e3 : tl (Str.ofString "0") = [48] := by decide +kernel
  rw [e3] at e
  injection e with e4 _
  omega
theorem numS_0 : numS ((0 : Nat) : Int) = Str.ofString "0" := by decide +kernel
theorem numS_len {n k : Nat} (hk : 0 < k) (h : n < 10 ^ k) : (numS (n : Int)).length ≤ k := by
  have e := numL_len hk h
  rw [← tl_numS, len_list] at e
  exact e
/-- a right number between two -/
def spIsNum : Sp := fun vs H Q _ => ∃ (n : Nat) (lo hi : Int), vs = [.str (numS (n : Int)), .int lo, .int hi] ∧ n < 10 ^ 31 ∧ ∀ H', Same H H' → Q (.bl (decide (lo ≤ (n : Int)) && decide ((n : Int) ≤ hi))) H'
def spRdI (C : Addr) : Sp := fun vs H Q _ => ∃ (a dx : Addr) (t : Str) (ps : List Str), vs = [.ref a, .str t] ∧ H a = some (.ins C dx []) ∧ Txt.split t " " = ps ∧ t.length ≤ 100000 ∧ ps.length ≤ 1000 ∧ (∀ x ∈ ps, x.length ≤ 100 ∧ PyData.strOk x = true) ∧
  ∀ L H', H L = none → (∀ b o, H b = some o → b ≠ a → H' b = some o) → RdAt H' C a L ps 0 → Q .non H'
def spTakeS (K : PySem.W.Frag) (C : Addr) : Sp := fun vs H Q _ => ∃ (r p L : Addr) (ps qs : List Str) (k : Nat) (x : Str), vs = [.ref r, .ref p] ∧ RdAt H C r L ps k ∧ SqT K H p (qs.map V.str) ∧ qs.length ≤ 100 ∧ ps[k]? = some x ∧ x ∈ qs ∧ ∀ H', RdAt H' C r L ps (k + 1) → Old r H H' → Q (.str x) H'
def spTakeW (C : Addr) : Sp := fun vs H Q _ => ∃ (r L : Addr) (ps : List Str) (k : Nat) (x : Str), vs = [.ref r] ∧ RdAt H C r L ps k ∧ ps[k]? = some x ∧ isWordD (.str x) = true ∧ ∀ H', RdAt H' C r L ps (k + 1) → Old r H H' → Q (.str x) H'
def spTakeN (C : Addr) : Sp := fun vs H Q _ => ∃ (r L : Addr) (ps : List Str) (k n : Nat) (lo hi : Int), vs = [.ref r, .int lo, .int hi] ∧ RdAt H C r L ps k ∧ ps[k]? = some (numS (n : Int)) ∧ n < 10 ^ 31 ∧ lo ≤ (n : Int) ∧ (n : Int) ≤ hi ∧ ∀ H', RdAt H' C r L ps (k + 1) → Old r H H' → Q (.int (n : Nat)) H'
theorem nextIn_yes {ps qs : List Str} {k : Nat} {x : Str} (h : ps[k]? = some x) (m : x ∈ qs) : nextIn ps k qs = true := by
  unfold nextIn
  rw [h]
  exact decide_eq_true m
theorem nextIn_no {ps qs : List Str} {k : Nat} (h : ∀ x, ps[k]? = some x → x ∉ qs) : nextIn ps k qs = false := by
  unfold nextIn
  cases e : ps[k]? with
  | none => rfl
  | some x => exact decide_eq_false (h x e)
theorem nextWord_yes {ps : List Str} {k : Nat} {x : Str} (h : ps[k]? = some x) (m : isWordD (.str x) = true) : nextWord ps k = true := by
  unfold nextWord
  rw [h]
  exact m
theorem nextWord_no {ps : List Str} {k : Nat} (h : ∀ x, ps[k]? = some x → isWordD (.str x) = false) : nextWord ps k = false := by
  unfold nextWord
  cases e : ps[k]? with
  | none => rfl
  | some x => exact h x e
theorem psc_dead {X : Cx} {st : List PySem.Stmt} : PSs X st (fun _ _ _ => False) := ⟨fun _ _ _ _ _ _ h => h.elim⟩
section
variable {P : Program} {w : World} {K : PySem.W.Frag} {mg : Str → Option Value} {base : Heap} {C : Addr}
variable {fN fW fE fT fU : Addr} {dN dW dE dT dU : FuncData}
theorem scRdI : FnScope ["self", "text"] ["self", "text"] (defScope pRdI) := ⟨rfl, rfl, rfl, by decide +kernel, rfl, by decide +kernel, by decide +kernel⟩
theorem ok_rdI {f : Addr} {fd : FuncData} (F : Fun K "__init__" "Reader.__init__" pRdI f fd) (c : RdC K C) : FnOk P w K mg base CX0 1 f fd ["self", "text"] (spRdI C) := by
  refine F.ok scRdI (fun vs H Q E h => ?_) (fun cdv A outer s H vs Q E hr h => ?_)
  · obtain ⟨a, dx, t, ps, rfl, _⟩ := h
    rfl
  · obtain ⟨a, dx, t, ps, rfl, ha, hs, lt, few, ok, k⟩ := h
    refine ⟨_, pss_cons (ps_fld (pv 0) (pe_split (pv 1) pe_str) rfl) (pss_one (ps_fld (pv 0) pe_int rfl)), ?_⟩
    have szl : sizeLine = 16777216 := sizeLine_eq
    refine ⟨_, rfl, ⟨_, rfl⟩, _, _, rfl, rfl, by decide +kernel, by rw [szl]; omega, fun L hL => ?_⟩
    rw [hs]
    have Lr : L ≠ a := fun z => by rw [z, ha] at hL; cases hL
    refine ⟨_, rfl, a, C, dx, _, rfl, by rw [upd_ne (Ne.symm Lr)]; exact ha, c.cl, c.n1, by show 0 < 1000; decide, ?_⟩
    show _
    have g1 : (upd (upd H L (.lst (ps.map V.str))) a (.ins C dx (putF "pieces" (.ref L) []))) a = some (.ins C dx [(Str.ofString "pieces", V.ref L)]) := upd_same
    have g2 : (upd (upd H L (.lst (ps.map V.str))) a (.ins C dx (putF "pieces" (.ref L) []))) L = some (.lst (ps.map V.str)) := by rw [upd_ne Lr]; exact upd_same
    have o : ∀ b o, H b = some o → b ≠ a → (upd (upd H L (.lst (ps.map V.str))) a (.ins C dx (putF "pieces" (.ref L) []))) b = some o := fun b o e nb => by rw [upd_ne nb, upd_ne (ne_of_none e hL)]; exact e
    show _
    generalize upd (upd H L (.lst (ps.map V.str))) a (.ins C dx (putF "pieces" (.ref L) [])) = H1 at g1 g2 o ⊢
    refine ⟨_, rfl, a, C, dx, _, rfl, g1, c.cl, c.n2, by show 1 < 1000; decide, ?_⟩
    have z2 : ¬ Str.ofString "pieces" = Str.ofString "place" := by decide +kernel
    have e1 : putF (Str.ofString "place") (.int 0) [(Str.ofString "pieces", V.ref L)] = rd2 (.ref L) (.int ((0 : Nat) : Int)) := by simp [putF, z2]
    refine k L _ hL (fun b u e nb => ?_) ⟨⟨dx, ?_, ?_⟩, few, ok⟩
    · rw [upd_ne nb]; exact o b u e nb
    · rw [← e1]; exact upd_same
    · rw [upd_ne Lr]; exact g2
theorem scTakeS : FnScope ["self", "signs"] ["self", "signs"] (defScope pTakeS) := ⟨rfl, rfl, rfl, by decide +kernel, rfl, by decide +kernel, by decide +kernel⟩
theorem ok_takeS {f : Addr} {fd : FuncData} (F : Fun K "take_sign" "Reader.take_sign" pTakeS f fd) (c : RdC K C) (oN : BMeth K C "is_next" fN) (GN : FnR P w K mg base CX0 2 fN (spStar 1 (spNext K C)))
    (oT : Meth K C "_taken" fT) (GT : FnOk P w K mg base CX0 1 fT dT ["self"] (spTaken C)) (bT : Binds K dT ["self"] []) : FnR P w K mg base CX0 3 f (spStar 1 (spTakeS K C)) := by
  refine F.star (ps := ["self"]) (pv := "signs") scTakeS (fun kV doc pm an cdv ct => StX.bind_star1 (B := fun l => bindArgs (PySem.W.fnOf "take_sign" "Reader.take_sign" (defArgs pTakeS) (defBody pTakeS) (defScope pTakeS) .none kV doc pm an cdv ct) ⟨l, []⟩) (p1 := "self") (pv := "signs") (fun _ => rfl) (fun _ _ _ => rfl)) (fun cdv A outer s H vs Q E hr h => ?_)
  obtain ⟨r, p, L, ps, qs, k, x, rfl, R, hq, few, hx, m, kk⟩ := h
  refine ⟨_, pss_cons (ps_if (pt_not (pt_val (pe_methS (pv 0) c.cl oN GN hr pass0 (pv 1)))) psc_dead pss_nil) (pss_one (ps_ret (pe_meth0 (pv 0) c.cl oT GT (hr.mono (by decide)) bT .nil pass0))), ?_⟩
  obtain ⟨dx, h1, h2⟩ := id R.at_
  have n1 : List.lookup (Str.ofString "is_next") (rd2 (.ref L) (.int (k : Nat))) = none := rl0 (by decide +kernel) (by decide +kernel)
  refine ⟨_, rfl, r, dx, _, rfl, h1, n1, fun q hq0 => ?_⟩
  have S1 : Same H (upd H q (.met fN r)) := same_new hq0
  have hq1 := sqT_same S1 hq
  have hb := hq1
  refine ⟨_, rfl, p, _, rfl, hq1, upd_same, ?_⟩
  show _
  generalize upd H q (.met fN r) = H1 at S1 hq1 ⊢
  refine ⟨[.ref r], qs.map V.str, rfl, rfl, by rw [List.length_map, sizeLine_eq]; omega, fun t ht => ?_⟩
  have S2 : Same H1 (upd H1 t (.tup (qs.map V.str))) := same_new ht
  have S12 := S1.trans S2
  refine ⟨r, t, L, ps, qs, k, rfl, R.same S12, SqT.of upd_same, ?_⟩
  rw [nextIn_yes hx m]
  refine ⟨_, rfl, iteF ?_⟩
  unfold tNext
  dsimp only
  refine ⟨_, rfl, r, dx, _, rfl, S12 _ _ h1, rl0 (by decide +kernel) (by decide +kernel), r, L, ps, k, x, rfl, R.same S12, hx, fun H' R' o => kk H' R' (Old.trans (Same.old S12) o)⟩
theorem scTakeW : FnScope ["self"] ["self"] (defScope pTakeW) := ⟨rfl, rfl, rfl, by decide +kernel, rfl, by decide +kernel, by decide +kernel⟩
theorem ok_takeW {f : Addr} {fd : FuncData} (F : Fun K "take_word" "Reader.take_word" pTakeW f fd) (c : RdC K C) (oW : Meth K C "is_word_next" fW) (GW : FnOk P w K mg base CX0 2 fW dW ["self"] (spWordN C)) (bW : Binds K dW ["self"] [])
    (oT : Meth K C "_taken" fT) (GT : FnOk P w K mg base CX0 1 fT dT ["self"] (spTaken C)) (bT : Binds K dT ["self"] []) : FnOk P w K mg base CX0 3 f fd ["self"] (spTakeW C) := by
  refine F.ok scTakeW (fun vs H Q E h => ?_) (fun cdv A outer s H vs Q E hr h => ?_)
  · obtain ⟨r, L, ps, k, x, rfl, _⟩ := h
    rfl
  · obtain ⟨r, L, ps, k, x, rfl, R, hx, m, kk⟩ := h
    refine ⟨_, pss_cons (ps_if (pt_not (pt_val (pe_meth0 (pv 0) c.cl oW GW hr bW .nil pass0))) psc_dead pss_nil) (pss_one (ps_ret (pe_meth0 (pv 0) c.cl oT GT (hr.mono (by decide)) bT .nil pass0))), ?_⟩
    obtain ⟨dx, h1, h2⟩ := id R.at_
    refine ⟨_, rfl, r, dx, _, rfl, h1, rl0 (by decide +kernel) (by decide +kernel), r, L, ps, k, rfl, R, fun H1 S1 => ?_⟩
    rw [nextWord_yes hx m]
    refine ⟨_, rfl, iteF ?_⟩
    unfold tNext
    dsimp only
    refine ⟨_, rfl, r, dx, _, rfl, S1 _ _ h1, rl0 (by decide +kernel) (by decide +kernel), r, L, ps, k, x, rfl, R.same S1, hx, fun H' R' o => kk H' R' (Old.trans (Same.old S1) o)⟩
theorem scIsNum : FnScope ["text", "low", "high", "digit"] ["text", "low", "high"] (defScope pIsNum) := ⟨rfl, rfl, rfl, by decide +kernel, rfl, by decide +kernel, by decide +kernel⟩
theorem ok_isNum {f : Addr} {fd : FuncData} (F : Fun K "is_number" "is_number" pIsNum f fd) (ln : mg "len" = none) (al : mg "all" = none) (it : mg "int" = none) (mM : ∃ t, mg "MAX_DIGITS" = some (.int 31 t)) : FnOk P w K mg base CX0 1 f fd ["text", "low", "high"] spIsNum := by
  obtain ⟨tM, mM⟩ := mM
  refine F.ok scIsNum (fun vs H Q E h => ?_) (fun cdv A outer s H vs Q E hr h => ?_)
  · obtain ⟨n, lo, hi, rfl, _⟩ := h
    rfl
  · obtain ⟨n, lo, hi, rfl, few, k⟩ := h
    have nd := scIsNum.nd
    refine ⟨_, pss_cons (ps_if (PW.pt (pw_or (pt_not (pt_chain op_le op_le pe_int (pe_callB call_len (by rfl) ln PySem.boot_len (pa_cons (pv 0) pa_nil)) (pe_glob (v := .int 31) (by rfl) mM ⟨_, rfl⟩)))
        (pw_or1 (pt_not (pt_val (pe_callB (cr_all rfl) (by rfl) al (by decide +kernel) (pa_cons (pe_lc (own := [("digit", 3)]) (g := gName 3) (tt := tYes) rfl nd (pi_str (pv 0))
        (blkOk_by (own := [("digit", 3)]) (N := ["text", "low", "high", "digit"]) (sc := defScope pIsNum) (by decide +kernel))
        (fun _ _ _ _ _ => pg_name (i := 3) nd rfl (Or.inl rfl)) (fun _ _ _ _ _ => pts_nil) (fun _ _ _ _ _ => pe_chain op_le_str op_le_str pe_str (pv 3) pe_str)) pa_nil))))))) psc_dead pss_nil)
      (pss_one (ps_ret (pe_and (pe_or (pe_cmpR op_eq (pv 0) pe_str (nomark _)) (pe_one (pe_cmpR op_ne (pe_ix ix_str (pv 0) pe_int (fun _ _ => rfl)) pe_str (nomark _))))
        (pe_one (pe_chain op_le op_le (pv 1) (pe_callTy call_int_str (by rfl) it (by decide +kernel) (pa_cons (pv 0) pa_nil)) (pv 2)))))), ?_⟩
    have ln1 := numS_len (k := 31) (by decide) few
    have ln0 : 1 ≤ (numS (n : Int)).length := by
      rw [← len_list]
      have e : (numS (n : Int)).cps.toList = numL n := tl_numS
      rw [e]
      exact List.length_pos_iff.mpr (numL_ne n)
    refine ⟨_, rfl, _, _, rfl, ⟨by rw [sizeLine_eq]; omega, rfl⟩, _, _, rfl, rfl, _, rfl, ?_⟩
    have d1 : decide ((1 : Int) ≤ (((numS (n : Int)).length : Nat) : Int)) = true := decide_eq_true (by omega)
    have d2 : decide ((((numS (n : Int)).length : Nat) : Int) ≤ (31 : Int)) = true := decide_eq_true (by omega)
    refine (?_ : if decide ((1 : Int) ≤ (((numS (n : Int)).length : Nat) : Int)) = true then _ else _)
    rw [d1]
    refine iteT ?_
    refine ⟨_, _, rfl, rfl, _, rfl, ?_⟩
    rw [d2]
    refine iteF ?_
    have tlz : (numS (n : Int)).cps.toList = numL n := tl_numS
    refine ⟨_, rfl, _, rfl, fun D hD => ?_⟩
    refine lc_it walk_str (fun i G => G D = some (.lst (((numL n).take i).map fun _ => V.bl true)) ∧ Same H G)
        ⟨by rw [upd_same]; rfl, same_new hD⟩ (fun _ _ _ _ => True.intro) (fun i x G G' hi pv y => ?_) (fun G pv => ?_)
    · obtain ⟨rfl, c, hc, rfl⟩ := y
      obtain ⟨gD, S⟩ := pv
      have hc2 : (numL n)[i]? = some c := by rw [← tlz, Array.getElem?_toList]; exact hc
      have tk : (numL n).take (i + 1) = (numL n).take i ++ [c] := by rw [List.take_add_one, hc2]; rfl
      have ll : (numL n).length ≤ 31 := by rw [← tlz, len_list]; exact ln1
      have few2 : ((numL n).take i).length ≤ 31 := by
        rw [List.length_take]
        omega
      have dg := numL_digits n c (List.mem_of_getElem? hc2)
      have ea : (Str.ofString "0").cps.toList = [48] := by decide +kernel
      have ez : (Str.ofString "9").cps.toList = [57] := by decide +kernel
      have cl : (⟨#[c]⟩ : Str).cps.toList = [c] := rfl
      refine ⟨rfl, _, rfl, _, _, rfl, rfl, _, rfl, ?_⟩
      rw [ea, cl]
      have h1 : ¬ (([c] : List Nat) < [48]) := by
        rw [List.cons_lt_cons_iff]
        simp
        omega
      have h2 : ¬ (([57] : List Nat) < [c]) := by
        rw [List.cons_lt_cons_iff]
        simp
        omega
      rw [decide_eq_false h1]
      refine iteT ?_
      refine ⟨_, _, rfl, rfl, ?_⟩
      rw [ez, cl, decide_eq_false h2]
      refine ⟨_, gD, by rw [List.length_map, sizeLine_eq]; omega, by rw [upd_same, tk, List.map_append]; rfl, fun b o e => by rw [upd_ne (ne_of_none e hD)]; exact S _ _ e⟩
    obtain ⟨gD, S⟩ := pv
    have ft : (numL n).take (numS (n : Int)).cps.size = numL n := List.take_of_length_le (by rw [← tlz, len_list]; exact Nat.le_refl _)
    rw [ft] at gD
    refine ⟨D, (numL n).map fun _ => true, rfl, SqL.of (by rw [gD, List.map_map]; rfl), ?_⟩
    have e : ((numL n).map fun _ => true).all id = true := by
      rw [List.all_map]
      exact List.all_eq_true.mpr fun _ _ => rfl
    rw [e]
    refine ⟨_, rfl, iteF ?_⟩
    unfold tNext
    dsimp only
    have inum : intText? (numS (n : Int)) = some (n : Int) := by
      refine int_num ?_
      have z := numL_len (k := 31) (by decide) few
      omega
    have last : ∀ (b : Bool), ((if decide (lo ≤ (n : Int)) = true then decide ((n : Int) ≤ hi) else false) = b) → Q (.bl b) G := fun b hb => by
      have e : (decide (lo ≤ (n : Int)) && decide ((n : Int) ≤ hi)) = b := by
        rw [← hb]
        cases decide (lo ≤ (n : Int)) <;> rfl
      rw [← e]
      exact k G S
    rcases Nat.eq_zero_or_pos n with n0 | n0
    · have e1 : decide (V.str (numS (n : Int)) = V.str (Str.ofString "0")) = true := by
        subst n0
        exact decide_eq_true (by rw [numS_0])
      refine ⟨_, rfl, (show scal (V.str _) (V.str _) = true from rfl), ?_⟩
      rw [e1]
      refine ⟨_, rfl, iteT ?_⟩
      refine ⟨_, rfl, iteT ?_⟩
      refine ⟨_, rfl, _, rfl, _, _, rfl, inum, by omega, _, _, rfl, rfl, _, rfl, ?_⟩
      refine ite2 (fun c1 => ?_) fun c1 => ?_
      · refine ⟨_, rfl, _, _, rfl, rfl, last _ (if_pos c1)⟩
      · exact last _ ((if_neg c1).trans (by simpa using c1))
    · have e1 : decide (V.str (numS (n : Int)) = V.str (Str.ofString "0")) = false := decide_eq_false fun z => numS_ne0 n0 (V.str.inj z)
      refine ⟨_, rfl, (show scal (V.str _) (V.str _) = true from rfl), ?_⟩
      rw [e1]
      refine ⟨_, rfl, iteF ?_⟩
      obtain ⟨c, r, ec, c49⟩ := numL_head n0
      have e2 : atI (numS (n : Int)).cps.toList 0 = some c := by
        rw [tlz, ec]
        exact L2.atI_nat (j := 0) rfl
      have e3 : decide (V.str ⟨#[c]⟩ = V.str (Str.ofString "0")) = false := decide_eq_false fun z => by
        have z2 := congrArg tl (V.str.inj z)
        have z3 : tl (Str.ofString "0") = [48] := by decide +kernel
        rw [z3] at z2
        have z4 : ([c] : List Nat) = [48] := z2
        injection z4 with z5 _
        omega
      refine ⟨_, rfl, _, 0, c, rfl, rfl, by rw [sizeLine_eq]; omega, e2, (show scal (V.str _) (V.str _) = true from rfl), ?_⟩
      rw [e3]
      refine ⟨_, rfl, iteT ?_⟩
      refine ⟨_, rfl, _, rfl, _, _, rfl, inum, by omega, _, _, rfl, rfl, _, rfl, ?_⟩
      refine ite2 (fun c1 => ?_) fun c1 => ?_
      · refine ⟨_, rfl, _, _, rfl, rfl, last _ (if_pos c1)⟩
      · exact last _ ((if_neg c1).trans (by simpa using c1))
theorem scTakeN : FnScope ["self", "low", "high"] ["self", "low", "high"] (defScope pTakeN) := ⟨rfl, rfl, rfl, by decide +kernel, rfl, by decide +kernel, by decide +kernel⟩
theorem ok_takeN {f : Addr} {fd : FuncData} (F : Fun K "take_number" "Reader.take_number" pTakeN f fd) (it : mg "int" = none) (c : RdC K C) (oE : Meth K C "is_at_end" fE) (GE : FnOk P w K mg base CX0 1 fE dE ["self"] (spAtEnd C)) (bE : Binds K dE ["self"] [])
    (GU : FnOk P w K mg base CX0 1 fU dU ["text", "low", "high"] spIsNum) (mU : mg "is_number" = some (.ref fU)) (kU : PySem.W.keepIn K (.ref fU) = true) (bU : Binds K dU ["text", "low", "high"] [])
    (oT : Meth K C "_taken" fT) (GT : FnOk P w K mg base CX0 1 fT dT ["self"] (spTaken C)) (bT : Binds K dT ["self"] []) : FnOk P w K mg base CX0 2 f fd ["self", "low", "high"] (spTakeN C) := by
  refine F.ok scTakeN (fun vs H Q E h => ?_) (fun cdv A outer s H vs Q E hr h => ?_)
  · obtain ⟨r, L, ps, k, n, lo, hi, rfl, _⟩ := h
    rfl
  · obtain ⟨r, L, ps, k, n, lo, hi, rfl, R, hx, few, l1, l2, kk⟩ := h
    refine ⟨_, pss_cons (ps_if (PW.pt (pw_or (pt_val (pe_meth0 (pv 0) c.cl oE GE hr bE .nil pass0)) (pw_or1 (pt_not (pt_val (pe_call GU hr (by rfl) mU kU bU .nil pass0 (pa_cons (pe_ix ix_list (pe_fld (pv 0) rfl) (pe_fld (pv 0) rfl) (fun _ _ => rfl)) (pa_cons (pv 1) (pa_cons (pv 2) pa_nil))))))))) psc_dead pss_nil)
      (pss_one (ps_ret (pe_callTy call_int_str (by rfl) it (by decide +kernel) (pa_cons (pe_meth0 (pv 0) c.cl oT GT hr bT .nil pass0) pa_nil)))), ?_⟩
    obtain ⟨dx, h1, h2⟩ := id R.at_
    have lt : k < ps.length := (List.getElem?_eq_some_iff.mp hx).1
    refine ⟨_, rfl, r, dx, _, rfl, h1, rl0 (by decide +kernel) (by decide +kernel), r, L, ps, k, rfl, R, ?_⟩
    rw [decide_eq_false (by omega : ¬ k = ps.length)]
    refine ⟨_, rfl, iteF ?_⟩
    have e3 : atI (ps.map V.str) (k : Int) = some (.str (numS (n : Int))) := L2.atI_nat (by rw [List.getElem?_map, hx]; rfl)
    refine ⟨_, rfl, r, C, dx, _, _, rfl, h1, c.cl, c.n1, rl1, _, rfl, r, C, dx, _, _, rfl, h1, c.cl, c.n2, rl2, L, _, _, _, rfl, rfl, SqL.of h2, e3, _, rfl, _, rfl, n, lo, hi, rfl, few, fun H1 S1 => ?_⟩
    rw [decide_eq_true l1, decide_eq_true l2]
    refine ⟨_, rfl, iteF ?_⟩
    unfold tNext
    dsimp only
    refine ⟨_, rfl, r, dx, _, rfl, S1 _ _ h1, rl0 (by decide +kernel) (by decide +kernel), r, L, ps, k, _, rfl, R.same S1, hx, fun H' R' o => ?_⟩
    have z := numL_len (k := 31) (by decide) few
    exact ⟨_, _, rfl, int_num (by omega), by have := numS_len (k := 31) (by decide) few; omega, kk H' R' (Old.trans (Same.old S1) o)⟩
end
end LW

/-! Defs whose last parameter takes the rest and that may raise; o.m() of such. -/
namespace L2
open PySem PySem.Spec PyProof.Rows
section
variable {P : Program} {w : World} {K : PySem.W.Frag} {mg : Str → Option Value} {base : Heap}
theorem Fun.starX {x qual pv : Str} {st : Stmt} {f : Addr} {fd : FuncData} {N ps : List Str} {k : Nat} {sp : Sp} (F : Fun K x qual st f fd) (S : FnScope N (ps ++ [pv]) (defScope st))
    (hb : ∀ (kV doc pm : Value) (an : Option Addr) (cdv ct : Value) (us rest : List Value), us.length = ps.length → bindArgs (PySem.W.fnOf x qual (defArgs st) (defBody st) (defScope st) .none kV doc pm an cdv ct) ⟨us ++ rest, []⟩ = (newTuple rest >>= fun t => pure (ps.zip us ++ [(pv, t)])))
    (body : ∀ (cdv : Value) (A : Around) (outer : List Env) (s : Shared) (H : Hp) (vs : List V) (Q : VK) (E : XK), Room k (A.deeper (envOfC qual (defScope st) s.heap.objs.size f cdv)) → sp vs H Q E →
      ∃ t, PSs (cxOf (L2.CX P w) P w K mg base N qual (defScope st) f cdv A outer s H E) (defBody st) t ∧ t { nx := fun _ H' => Q .non H', rt := Q } (start N vs) H) : FnR P w K mg base (L2.CX P w) (k + 1) f (spStar ps.length sp) := by
  obtain ⟨oc, od, kV, doc, pm, an, cdv, ct, osl, rfl, lk, hcd⟩ := F.ex
  exact StX.fn_star lk hcd S StX.cxUp (hb kV doc pm an cdv ct) fun A outer s H vs Q E hr hsp => body cdv A outer s H vs Q E hr hsp
end
theorem pe_methR0 {X : Cx} {CX : CXT} {k : Nat} {C f : Addr} {m : Str} {sp : Sp} {E : XK} {o : Expr} {ta : TE} {apos pos : Pos} {pl : Sem Bool} (he : PE X o ta) (c : Cls X.K C) (hm : Meth X.K C m f)
    (F : FnR X.prog X.w X.K X.mg X.base CX k f sp) (hr : Room k X.A) (hx : Passes CX X E)
    (ht : eval (.Call (.Attribute o m apos) [] [] pos) X.env = (do
      let ov ← eval o X.env
      standAt apos.atName
      let (f, first) ← holding [ov] (getMethod ov m pl)
      callWith pos f first (backTo pos (starEach [] X.env)) (backToKw pos (keywordEach [] X.env))) := by rfl) :
    PE X (.Call (.Attribute o m apos) [] [] pos) (tMethR C m sp E ta tNil) := by
  refine ⟨fun pins s σ H Q I h => ?_⟩
  refine PySem.W.methodCall_KW (pl := pl) (thn (he.run pins s σ H _ I h) fun u s1 ⟨x, H1, I1, rx, a, dx, fs, ex, ea, l, q⟩ => ?_) ht
  subst ex
  obtain rfl : u = Value.ref a := rx
  refine getmeth_ok I1 ea c hm l ?_
  exact PySem.W.callWith_K0 (first := [.ref a]) I1.kIn hm.kp (wpAny_call (run_fnR (us := [.ref a]) (vs := [.ref a]) F hr hx I1 (.cons rfl .nil) q))
end L2

/-! raise C(..) of an own exception class with any built-in base. -/
namespace G
open PySem PySem.Spec PyProof.Rows L2
open PySem.W (Frag)
section
variable {X : Cx} {e : Expr} {es : List Expr} {ta : TA} {x : Str} {p pos : Pos}
theorem pmk_exk {k : Nat} {C fI : Addr} {T : List Value} {fd : FuncData} {ps : List Str} {sp : Sp} {CX : CXT} (R : ExK X.K C fI T) (ty : PySem.W.typeIn X.K (.ref C) = some (.type "type")) (F1 : FnOk X.prog X.w X.K X.mg X.base CX k fI fd ps sp) (hr : Room (k + 1) X.A) (hb : Binds X.K fd ps []) (hx : Passes CX X (fun _ _ _ => False)) (hg : Gl X x) (hm : X.mg x = some (.ref C)) (ha : PA X (e :: es) ta)
    (hdb : (x == ("__debug__" : Str)) = false := by decide) (he : starEach (e :: es) X.env = (false, eval e X.env) :: starEach es X.env := by rfl) (hpl : (backTo pos (starEach es X.env)).any (·.1) = false := by rfl) :
    PMk X (.Call (.Name x p) (e :: es) [] pos) (tMkO C sp [] ta) := by
  intro pins s σ H Q I h
  obtain ⟨B, newId, initId, F, SF, q0⟩ := R.base
  refine wpAny_Call_Name_kw (ld_glob I hg hm ?_ hdb)
  refine PySem.W.callWith_K (h₀ := X.base) I.ok.mod.kin R.kp (wpAny_mono (ha.run pos pins s σ H _ I h) (fun us s1 z => ?_) fun _ _ z => z) he hpl
  obtain ⟨vs, H1, I1, r1, few, q1⟩ := z
  refine ⟨I1.kIn, ?_⟩
  obtain ⟨nm, N', qn, bs, bm, hdct, sn, sub, ab, col, dd, k0, k1, k2, k3, k5, hC, hT⟩ := PySem.W.excInit_of I1.kIn q0
  obtain ⟨oI, hoI, hcI⟩ := Option.map_eq_some_iff.mp (show (X.K.lookup fI).map (·.cls) = some (.type "function") from beq_iff_eq.mp R.iF)
  have look := PySem.W.looks_findIn (M := model X.prog X.w) I1.kIn R.iC
  have bnd := fun self => PySem.W.exc_bind (M := model X.prog X.w) (I1.kIn _ _ hoI) hcI self
  obtain ⟨hp, g, dr, tk, os⟩ := s1
  have hsz : hp.objs.size ≤ hp.objs.size + 1 := Nat.le_succ _
  have new : H1 (hp.objs.size + 1) = none := I1.hok.fresh hsz
  have q2 := q1 _ new
  rw [List.append_nil] at q2
  have kk : ∀ b o, hp.get? b = some o → ((hp.push (PySem.W.kdv_tup us)).push (PX.excO C hp.objs.size)).get? b = some o := fun b o e => Heap.get?_push_of_some _ (Heap.get?_push_of_some _ e)
  have I2 : Inv X pins σ (upd H1 (hp.objs.size + 1) (exo (hp.objs.size + 1) C none)) ⟨(hp.push (PySem.W.kdv_tup us)).push (PX.excO C hp.objs.size), g, dr, tk, os⟩ :=
    I1.laid (t' := tk) (o := exo (hp.objs.size + 1) C none) (h' := (hp.push (PySem.W.kdv_tup us)).push (PX.excO C hp.objs.size)) kk hsz (exo_ok (t1 := hp.objs.size) (by heap_get))
  have r2 : Vals (V.ref (hp.objs.size + 1) :: vs) (Value.ref (hp.objs.size + 1) :: us) := .cons rfl r1
  have len : (Value.ref (hp.objs.size + 1) :: us).length = ps.length := by
    rw [← r2.length]
    exact F1.len _ _ _ _ q2
  have size : us.length ≤ sizeLine := by
    rw [← r1.length, sizeLine_eq]
    omega
  have hbd := hb ⟨(hp.push (PySem.W.kdv_tup us)).push (PX.excO C hp.objs.size), g, dr, tk, os⟩ (Value.ref (hp.objs.size + 1) :: us) I2.kIn (by simpa using len)
  rw [List.append_nil] at hbd
  refine wpAny_call (PX.call_own F hT hC look bnd size (codeAny_mono (F1.run _ X.stack _ _ ⟨Value.ref (hp.objs.size + 1) :: us, []⟩ (Value.ref (hp.objs.size + 1) :: us) _ _ (fun _ _ _ => False) (hr.make C us []) (I2.env0.make C us []) hbd r2 q2) fun r s2 z => ?_))
  match r, z with
  | .error er, z => exact hx pins σ _ _ er s2 I2 z
  | .ok (.ret u), ⟨v, H2, os2, bare2, un2, hok2, rv, ev, d, fs, ea, ed, hd1, q3⟩ =>
    subst ev
    obtain ⟨h2, g2, d2, t2, os'⟩ := s2
    exact ⟨rv, mk_end (raises_own R.exC ty) I1 hsz kk un2 hok2 os2 bare2 ea ed hd1 q3⟩
  | .ok .next, z => exact z.elim
  | .ok .brk, z => exact z.elim
  | .ok .cont, z => exact z.elim
end
end G

/-! sorted(xs), xs a list of pairs of texts. -/
namespace G
open PySem PySem.Spec PyProof.Rows L2
abbrev ordTx := PyProof.Rows.listOrd PyProof.Rows.itemOrd
/-- a pair of texts before another one -/
def txLt (a b : Str × Str) : Bool := ordTx.blt [.inr a.1.cps.toList, .inr a.2.cps.toList] [.inr b.1.cps.toList, .inr b.2.cps.toList]
theorem txLt_total {a b : Str × Str} (h1 : txLt a b = false) (h2 : txLt b a = false) : a = b := by
  have z := ordTx.total _ _ h1 h2
  simp only [List.cons.injEq, Sum.inr.injEq, and_true] at z
  obtain ⟨⟨x1⟩, ⟨x2⟩⟩ := a
  obtain ⟨⟨y1⟩, ⟨y2⟩⟩ := b
  have e1 : x1 = y1 := Array.toList_inj.mp z.1
  have e2 : x2 = y2 := Array.toList_inj.mp z.2
  rw [e1, e2]
theorem perm_map_back {α β : Type} {f : α → β} {l m : List β} (p : l.Perm m) : ∀ {bs : List α}, m = bs.map f → ∃ cs : List α, l = cs.map f ∧ cs.Perm bs := by
  induction p with
  | nil =>
    intro bs e
    exact ⟨[], rfl, by cases bs with | nil => exact List.Perm.refl _ | cons => exact nomatch e⟩
  | cons x p ih =>
    intro bs e
    cases bs with
    | nil => exact nomatch e
    | cons b bs =>
      rw [List.map_cons] at e
      injection e with e1 e2
      obtain ⟨cs, h1, h2⟩ := ih e2
      exact ⟨b :: cs, by rw [List.map_cons, h1, e1], h2.cons b⟩
  | swap x y t =>
    intro bs e
    cases bs with
    | nil => exact nomatch e
    | cons b bs =>
      cases bs with
      | nil => simp at e
      | cons c bs =>
        rw [List.map_cons, List.map_cons] at e
        injection e with e1 e2
        injection e2 with e2 e3
        exact ⟨c :: b :: bs, by rw [List.map_cons, List.map_cons, e1, e2, e3], List.Perm.swap b c bs⟩
  | trans p1 p2 ih1 ih2 =>
    intro bs e
    obtain ⟨c2, h1, h2⟩ := ih2 e
    obtain ⟨c1, h3, h4⟩ := ih1 h1
    exact ⟨c1, h3, h4.trans h2⟩
section
variable {X : Cx}
/-- sorted(xs), xs a list of pairs of texts -/
def rSortTx (K : PySem.W.Frag) : List V → Hp → VK → Prop := fun vs H Q => ∃ (l : Addr) (bs : List (Addr × Str × Str)), vs = [.ref l] ∧ SqL K H l (bs.map fun q => V.ref q.1) ∧ (∀ q ∈ bs, SqT K H q.1 [.str q.2.1, .str q.2.2]) ∧
  ∀ (cs : List (Addr × Str × Str)) (p : Addr), cs.Perm bs → cs.Pairwise (fun x y => txLt y.2 x.2 = false) → H p = none → Q (.ref p) (upd H p (.lst (cs.map fun q => V.ref q.1)))
theorem refs_val {bs : List (Addr × Str × Str)} : ∀ {us : List Value}, Vals (bs.map fun q => V.ref q.1) us → us = bs.map fun q => Value.ref q.1 := by
  induction bs with
  | nil => intro us r; cases r; rfl
  | cons b bs ih =>
    intro us r
    cases r with
    | cons r t =>
      cases r
      rw [ih t]
      rfl
theorem val_refs : ∀ (bs : List (Addr × Str × Str)), Vals (bs.map fun q => V.ref q.1) (bs.map fun q => Value.ref q.1)
  | [] => .nil
  | _ :: r => .cons rfl (val_refs r)
theorem cr_sortTx : CallR X (.builtin "sorted") (rSortTx X.K) := by
  intro pins s σ H vs us Q I r h
  obtain ⟨l, bs, rfl, hs, hb, q⟩ := h
  obtain ⟨its, rv, hl, hz⟩ := I.list hs
  rw [Vals.ref1 r]
  obtain rfl := refs_val rv
  have tup : ∀ b ∈ bs, ∃ o n t u, s.heap.get? b.1 = some o ∧ o.cls = .type "tuple" ∧ o.data = .seq #[.str b.2.1 t, .str b.2.2 u] n := fun b hbm => by
    obtain ⟨its, r, ⟨o, ho, hc, n, hd⟩, _⟩ := I.tuple (hb b hbm)
    obtain ⟨u, u2, rfl, e1, e2⟩ := r.two
    obtain ⟨t1, rfl⟩ := e1
    obtain ⟨t2, rfl⟩ := e2
    exact ⟨o, n, t1, t2, ho, hc, hd⟩
  have key : ∀ b ∈ bs, PyProof.Rows.G.tupKeyC s.heap (fun _ => true) (.ref b.1) = some [.inr b.2.1.cps.toList, .inr b.2.2.cps.toList] := fun b hbm => by
    obtain ⟨o, n, t, u, ho, hc, hd⟩ := tup b hbm
    simp [PyProof.Rows.G.tupKeyC, PyProof.Rows.G.isTupObj, ho, hc, PyProof.Rows.tupKey, hd, PyProof.Rows.tupItems]
  have ht : ∀ l : List (Addr × Str × Str), (∀ b ∈ l, b ∈ bs) → ∃ fs, PyProof.Rows.TupsOf s.heap (fun _ => true) (l.map fun q => Value.ref q.1) fs := by
    intro l
    induction l with
    | nil => exact fun _ => ⟨[], .nil⟩
    | cons b l ih =>
      intro hm
      obtain ⟨fs, t⟩ := ih fun x hx => hm x (List.mem_cons_of_mem _ hx)
      obtain ⟨o, n, t1, u1, ho, hc, hd⟩ := tup b (hm b List.mem_cons_self)
      exact ⟨_, .cons ⟨b.1, o, _, n, rfl, ho, hc, hd, rfl, (fun z => nomatch z), fun _ => ⟨_, _, rfl⟩⟩ t⟩
  obtain ⟨fs, hfs⟩ := ht bs fun b h => h
  rw [List.length_map] at hz
  refine PyProof.Rows.G.sorted_tups (shape := fun _ => true) hl.isList hfs (fun v hv => ?_) (by rw [List.length_map]; exact hz) fun st pm so _ => ?_
  · obtain ⟨b, hbm, rfl⟩ := List.mem_map.mp hv
    exact ⟨_, key b hbm⟩
  · have eP : (arrOf st).toList.Perm ((bs.map fun q => Value.ref q.1).zip (bs.map fun q => Value.ref q.1)) := by
      have z := Array.perm_iff_toList_perm.mp pm
      rw [pairsOf_toList] at z
      exact z
    have ez : (bs.map fun q => Value.ref q.1).zip (bs.map fun q => Value.ref q.1) = bs.map fun q => (Value.ref q.1, Value.ref q.1) := by
      rw [List.zip_map']
    rw [ez] at eP
    obtain ⟨cs, e1, e2⟩ := perm_map_back eP rfl
    have out : ((arrOf st).map (·.2)).toList = cs.map fun q => Value.ref q.1 := by
      rw [Array.toList_map, e1, List.map_map]
      rfl
    have pw : cs.Pairwise (fun x y => txLt y.2 x.2 = false) := by
      rw [List.pairwise_iff_getElem]
      intro i j hi hj lt
      have sz : (arrOf st).size = cs.length := by
        have z := congrArg List.length e1
        simpa using z
      have sz2 : (pairsOf (bs.map fun q => Value.ref q.1)).size = cs.length := by rw [pairsOf_size, List.length_map, e2.length_eq]
      have k := so i j (by omega) (by rw [sz2]; exact hj)
      have at_ : ∀ (i : Nat) (hi : i < cs.length), KK (PyProof.Rows.G.tupKindC s.heap fun _ => true) (arrOf st) i = [.inr cs[i].2.1.cps.toList, .inr cs[i].2.2.cps.toList] := fun i hi => by
        have e3 : (arrOf st)[i]? = some (Value.ref cs[i].1, Value.ref cs[i].1) := by
          rw [← Array.getElem?_toList, e1, List.getElem?_map, List.getElem?_eq_getElem hi]
          rfl
        unfold KK
        rw [e3]
        dsimp only
        rw [key _ (e2.mem_iff.mp (List.getElem_mem hi))]
        rfl
      rw [at_ i hi, at_ j hj] at k
      exact k
    obtain ⟨ep, he'⟩ := PyProof.Rows.sortedAll_at s.heap (bs.map fun q => Value.ref q.1) ((arrOf st).map (·.2))
    have hlen : (cs.map fun q => V.ref q.1).length ≤ sizeLine := by rw [List.length_map, e2.length_eq]; exact hz
    refine ⟨.ref _, upd H (s.heap.objs.size + 1) (.lst (cs.map fun q => V.ref q.1)), I.laid (t' := s.toks) (fun _ _ => PyProof.Rows.sortedAll_old) (Nat.le_succ _) ⟨hlen, ((arrOf st).map (·.2)).toList, ep, by rw [out]; exact val_refs cs, he'⟩, rfl, q cs _ e2 pw (I.hok.fresh (Nat.le_succ _))⟩
end
end G

/-! t[::-1], t a pair. -/
namespace G
open PySem PySem.Spec PyProof.Rows L2
section
variable {prog : Program} {w : World} {A : Around} {E : Value → Shared → Prop} {s : Shared}
theorem applied_back {sl : Addr} {tk : Tok} {Q : Int × Int × Nat → Shared → Prop} (hs : s.heap.IsSliceOf sl .none .none (.int (-1) tk)) (h : Q (1, -1, 2) s) : wpAny (model prog w) A (Builtin.Slice.sliceApplied (.ref sl) (pure (2 : Int))) Q E s := by
  obtain ⟨os, hos, _, hds⟩ := hs
  unfold Builtin.Slice.sliceApplied Builtin.Slice.sliceFields
  refine wpAny_bind (wpAny_bind (wpAny_field hos hds (x := .none) rfl (wpAny_bind (wpAny_field hos hds (x := .none) rfl (wpAny_bind (wpAny_field hos hds (x := .int (-1) tk) rfl (wpAny_pure ?_)))))))
  refine wpAny_bind (HT.slicePart_ (.int (-1) tk) ?_)
  show wpAny _ _ (if ((-1 : Int) == 0) = true then _ else _) _ _ s
  rw [if_neg (by decide)]
  refine wpAny_bind (HT.slicePart_ .none (wpAny_bind (HT.slicePart_ .none (wpAny_bind (wpAny_pure ?_)))))
  show wpAny _ _ (match Builtin.Slice.sliceAdjust none none (-1) (2 : Int) with | (lo, hi) => pure (lo, (-1 : Int), Builtin.Slice.slicePlaces lo hi (-1))) _ _ s
  have e : Builtin.Slice.sliceAdjust none none (-1) (2 : Int) = (1, -1) := by decide
  rw [e]
  exact wpAny_pure h
theorem pair_back {t sl : Addr} {u v : Value} {tk : Tok} {Q : Value → Shared → Prop} (ht : IsTup s.heap t [u, v].toArray) (hs : s.heap.IsSliceOf sl .none .none (.int (-1) tk))
    (h : Q (.ref s.heap.objs.size) { s with heap := s.heap.push { cls := .type "tuple", data := .seq [v, u].toArray } }) : wpAny (model prog w) A (getItem (.ref t) (.ref sl)) Q E s := by
  have hTs : s.TypeIs (.ref sl) "slice" := by
    obtain ⟨os, hos, hcs, _⟩ := hs
    exact ⟨os, hos, hcs⟩
  have room : sizeOk (.seq [v, u].toArray) := by
    show 2 ≤ sizeLine
    decide
  unfold getItem
  try with_reducible refine wpAny_holding ?_
  first | refine wpAny_bind (wpAny_pure ?_) | skip
  refine wpAny_bind (wpAny_sequenceKey ht.typeIs (by decide) (wpAny_bind (wpAny_callSpecial?_slot (name := Str.ofString "__getitem__") ht.typeIs PyProof.Rows.slot_tuple_getitem (wpAny_call_entry PyProof.Rows.slot_tuple_getitem ht.typeIs entry_tuple_getitem ?_ (args_tuple_getitem _ _)))))
  show wpAny _ _ (Builtin.Tuple.tupleItemsOf (.ref t) >>= _) _ _ s
  refine wpAny_bind (tupleItemsOf_ ht (wpAny_bind (wpAny_typeOf hTs ?_)))
  rw [if_pos (by decide)]
  refine wpAny_bind (applied_back hs ?_)
  show wpAny _ _ (if (((1 : Int) == 0 && (-1 : Int) == 1 && 2 == 2)) = true then _ else _) _ _ s
  rw [if_neg (by decide)]
  have e : ((List.range 2).filterMap fun (k : Nat) => [u, v].toArray[((1 : Int) + (k : Int) * (-1)).toNat]?).toArray = [v, u].toArray := by rfl
  rw [e]
  first
    | exact wpAny_bind (m := Builtin.Tuple.tupleExact _) (wpAny_newObj_type (wpAny_pure ⟨_, rfl, wpAny_pure h⟩) room)
    | exact wpAny_bind (m := Builtin.Tuple.tupleExact _) (wpAny_newObj_type (wpAny_bind (wpAny_pure (wpAny_pure ⟨_, rfl, wpAny_pure h⟩))) room)
    | exact wpAny_bind (wpAny_bind (m := Builtin.Tuple.tupleExact _) (wpAny_newObj_type (wpAny_pure (wpAny_pure ⟨_, rfl, wpAny_pure h⟩)) room))
    | exact wpAny_bind (wpAny_bind (m := Builtin.Tuple.tupleExact _) (wpAny_newObj_type (wpAny_pure ⟨_, rfl, wpAny_pure h⟩) room))
end
def tRevP (K : PySem.W.Frag) (te : TE) : TE := fun σ H Q => te σ H fun x H1 => ∃ a u v, x = .ref a ∧ SqT K H1 a [u, v] ∧ ∀ p, H1 p = none → Q (.ref p) (upd H1 p (.tup [v, u]))
theorem pe_revP {X : Cx} {e : Expr} {te : TE} {k : Nat} {p1 p2 p3 pos : Pos} (he : PE X e te) : PE X (.Subscript e (.Slice none none (some (.UnaryOp .USub (.Constant (.int 1) k p1) p2)) p3) pos) (tRevP X.K te) := by
  constructor
  intro pins s σ H Q I h
  refine Subscript_ (wpAny_mono (he.run pins s σ H _ I h) (fun v s1 hv => ?_) fun _ _ z => z)
  obtain ⟨x, H1, I1, r1, a, u1, u2, rfl, hx, q⟩ := hv
  cases r1
  have back : PO X (some (.UnaryOp .USub (.Constant (.int 1) k p1) p2)) (tPart (tUn (rU fun i => .int (-i)) (tC (.int 1)))) := po_some (pe_un un_neg pe_int)
  refine wpAny_Slice (wpAny_mono (po_none.run pins s1 σ H1 (fun o G => o = none ∧ G = H1) I1 ⟨rfl, rfl⟩) (fun vl s2 z2 => ?_) fun _ _ z => z)
  obtain ⟨l, H2, I2, pl, rfl, rfl⟩ := z2
  refine wpAny_mono (po_none.run pins s2 σ H2 (fun o G => o = none ∧ G = H2) I2 ⟨rfl, rfl⟩) (fun vu s3 z3 => ?_) fun _ _ z => z
  obtain ⟨uu, H3, I3, pu, rfl, rfl⟩ := z3
  refine wpAny_mono (back.run pins s3 σ H3 (fun o G => o = some (-1) ∧ G = H3) I3 ⟨1, rfl, -1, rfl, rfl, rfl⟩) (fun vs s4 z4 => ?_) fun _ _ z => z
  obtain ⟨o, H4, I4, ps, rfl, rfl⟩ := z4
  cases pl
  cases pu
  cases ps with
  | int i tk =>
  have I5 : Inv X pins σ H4 { s4 with heap := s4.heap.push { cls := .type "slice", data := .fields #[.none, .none, .int (-1) tk] } } := I4.kept (t' := s4.toks) fun b ob q => Heap.get?_push_of_some _ q
  obtain ⟨its, r, ht, hz⟩ := I5.tuple hx
  obtain ⟨w1, w2, rfl, r1, r2⟩ : ∃ w1 w2, its = [w1, w2] ∧ RelV u1 w1 ∧ RelV u2 w2 := by
    cases r with
    | cons a b =>
      cases b with
      | cons a' b' =>
        cases b'
        exact ⟨_, _, rfl, a, a'⟩
  refine tail_any (ops := [.ref a, .ref s4.heap.objs.size]) ht.typeIs (PyProof.Rows.slot_tuple_getitem.lookup) ?_ (by with_unfolding_all rfl)
  refine pair_back ht (Heap.IsSliceOf.new _ _ _ _) ?_
  refine ⟨.ref _, _, I5.laid (t' := s4.toks) (o := .tup [u2, u1]) (fun b ob q => Heap.get?_push_of_some _ q) (Nat.le_refl _) ?_, rfl, q _ (I5.hok.fresh (Nat.le_refl _))⟩
  exact ⟨by show 2 ≤ sizeLine; decide, [w2, w1], .cons r2 (.cons r1 .nil), IsTup.new _ _⟩
/-- list(t), t a tuple: the new list, not where sys.modules stands -/
theorem call_listT {X : Cx} : CallR X (.type "list") (fun xs H Q => ∃ p ys, xs = [.ref p] ∧ SqT X.K H p ys ∧ ∀ l, H l = none → l ≠ sysModules → Q (.ref l) (upd H l (.lst ys))) := by
  intro pins s σ H xs us Q I r h
  obtain ⟨p, ys, rfl, hq, q⟩ := h
  cases r with
  | cons rx rr =>
  cases rr
  cases rx
  obtain ⟨its, r2, pl, hz⟩ := I.tuple hq
  have len := r2.length
  obtain ⟨o, ho, hc, n, hd⟩ := pl
  refine call_list_seq p (.inr rfl) ho hc hd (fun h2 c2 kp e => ?_) (by simp only [List.size_toArray]; omega)
  refine ⟨.ref s.heap.objs.size, _, I.laid (t' := s.toks) kp (Nat.le_refl _) (show ObjOk X.prog X.w _ h2 _ (.lst ys) from ⟨hz, its, c2, r2, e⟩), rfl, q _ (I.hok.fresh (Nat.le_refl _)) (Nat.ne_of_gt I.big)⟩
end G

/-! Readings that make data of what stands in the heap and in the names. -/
namespace G
open PySem PySem.Spec L2
open PySem.W (Frag)
def Evd (K : Frag) (H0 : Hp) (σ : L2.St) (te : TE) (d : PyData) : Prop := ∀ (H : Hp) (Q : VK), Same H0 H → (∀ v H', Same H H' → Da K H' v d → Q v H') → te σ H Q
def EvdA (K : Frag) (H0 : Hp) (σ : L2.St) (ta : TA) (ds : List PyData) : Prop := ∀ (H : Hp) (Q : List V → Hp → Prop), Same H0 H → (∀ xs H', Same H H' → DaAll K H' xs ds → Q xs H') → ta σ H Q
theorem sIx_at2 {n : Nat} {i : Int} (h0 : 0 ≤ i) (h1 : i ≤ n) (d : Nat) : HT.sIx n d (some i) = i.toNat := by
  have e := HT.sIx_nat n d i.toNat
  rw [show ((i.toNat : Nat) : Int) = i by omega] at e
  rw [e]
  omega
theorem cutF {xs : List V} {i : Int} (h0 : 0 ≤ i) (h1 : i ≤ xs.length) : cutV xs none (some i) = xs.take i.toNat := by
  have e0 : HT.sIx xs.length 0 none = 0 := rfl
  unfold cutV
  rw [e0, sIx_at2 h0 h1, List.drop_zero, Nat.sub_zero]
theorem cutB {xs : List V} {i : Int} (h0 : 0 ≤ i) (h1 : i ≤ xs.length) : cutV xs (some i) none = xs.drop i.toNat := by
  have e0 : HT.sIx xs.length xs.length none = xs.length := rfl
  unfold cutV
  rw [e0, sIx_at2 h0 h1]
  exact List.take_of_length_le (by rw [List.length_drop]; exact Nat.le_refl _)
theorem DaAll.takeN {K : Frag} {H : Hp} : ∀ {xs : List V} {ds : List PyData} (n : Nat), DaAll K H xs ds → DaAll K H (xs.take n) (ds.take n)
  | _, _, 0, _ => .nil
  | _, _, _ + 1, .nil => .nil
  | _, _, n + 1, .cons a b => .cons a (DaAll.takeN n b)
theorem DaAll.dropN {K : Frag} {H : Hp} : ∀ {xs : List V} {ds : List PyData} (n : Nat), DaAll K H xs ds → DaAll K H (xs.drop n) (ds.drop n)
  | _, _, 0, h => h
  | _, _, _ + 1, .nil => .nil
  | _, _, n + 1, .cons _ b => DaAll.dropN n b
theorem DaAll.rep {K : Frag} {H : Hp} {xs : List V} {ds : List PyData} (h : DaAll K H xs ds) : ∀ n : Nat, DaAll K H (List.replicate n xs).flatten (List.replicate n ds).flatten
  | 0 => .nil
  | n + 1 => by
    rw [List.replicate_succ, List.replicate_succ, List.flatten_cons, List.flatten_cons]
    exact h.append (DaAll.rep h n)
theorem da_tup {K : Frag} {H : Hp} {v : V} {ds : List PyData} (h : Da K H v (.tuple ds)) : ∃ a xs, v = .ref a ∧ SqT K H a xs ∧ DaAll K H xs ds := by
  cases h with
  | tup s a => exact ⟨_, _, rfl, s, a⟩
section
variable {K : Frag} {H0 : Hp} {σ : L2.St} {te tf : TE} {ta : TA} {d : PyData} {ds es : List PyData}
theorem Evd.of (h : Dt K te d) : Evd K H0 σ te d := fun H Q _ k => h σ H Q k
theorem Evd.var {i : Nat} {v : V} (e : σ[i]? = some (some v)) (h : Da K H0 v d) : Evd K H0 σ (tVar i) d := fun H Q S k => ⟨v, e, k v H (Same.refl H) (h.same S)⟩
theorem EvdA.nil : EvdA K H0 σ tNil [] := fun H Q _ k => k [] H (Same.refl H) .nil
theorem EvdA.cons (a : Evd K H0 σ te d) (b : EvdA K H0 σ ta ds) : EvdA K H0 σ (tCons te ta) (d :: ds) := fun H Q S k => by
  refine a H _ S fun v H1 s1 h1 => ?_
  refine b H1 _ (S.trans s1) fun xs H2 s2 h2 => ?_
  exact k _ H2 (s1.trans s2) (.cons (h1.same s2) h2)
theorem Evd.tup (a : EvdA K H0 σ ta ds) (few : ds.length ≤ 1000 := by simp) : Evd K H0 σ (tTup ta) (.tuple ds) := fun H Q S h => by
  refine a H _ S fun xs H1 s1 h1 => ⟨?_, fun p hp => ?_⟩
  · rw [h1.length, sizeLine_eq]
    omega
  · exact h _ _ (s1.trans (same_new hp)) (.tup (Or.inl (Or.inl upd_same)) (h1.same (same_new hp)))
theorem Evd.lst (a : EvdA K H0 σ ta ds) (few : ds.length ≤ 1000 := by simp) : Evd K H0 σ (tLstS ta) (.list ds) := fun H Q S h => by
  refine a H _ S fun xs H1 s1 h1 => ⟨?_, fun p hp np => ?_⟩
  · rw [h1.length, sizeLine_eq]
    omega
  · exact h _ _ (s1.trans (same_new hp)) (.lst np (Or.inl (Or.inl upd_same)) (h1.same (same_new hp)))
theorem Evd.cat (a : Evd K H0 σ te (.tuple ds)) (b : Evd K H0 σ tf (.tuple es)) (few : ds.length + es.length ≤ 1000) : Evd K H0 σ (tOp (rCatA K) te tf) (.tuple (ds ++ es)) := fun H Q S k => by
  refine a H _ S fun v H1 s1 h1 => ?_
  refine b H1 _ (S.trans s1) fun w H2 s2 h2 => ?_
  obtain ⟨a1, xs, rfl, ha, dx⟩ := da_tup (h1.same s2)
  obtain ⟨b1, ys, rfl, hb, dy⟩ := da_tup h2
  have S12 := s1.trans s2
  refine ⟨a1, b1, xs, ys, rfl, rfl, ha, hb, by rw [dx.length, dy.length, sizeLine_eq]; omega, fun e => ?_, fun n e => ?_, fun n m p hp => ?_⟩
  · subst e
    cases dx
    exact k _ H2 S12 (.tup hb dy)
  · subst e
    cases dy
    rw [List.append_nil] at k
    exact k _ H2 S12 (.tup ha dx)
  · exact k _ _ (S12.trans (same_new hp)) (.tup (Or.inl (Or.inl upd_same)) ((dx.same (same_new hp)).append (dy.same (same_new hp))))
theorem Evd.front {i : Int} (a : Evd K H0 σ te (.tuple ds)) (b : Evd K H0 σ tf (.int i)) (h0 : 0 ≤ i) (h1 : i ≤ ds.length) : Evd K H0 σ (L2.tSl (rSlA K) te tNoPart (tPart tf)) (.tuple (ds.take i.toNat)) := fun H Q S k => by
  refine a H _ S fun v H1 s1 d1 => ?_
  unfold tNoPart tPart
  dsimp only
  refine b H1 _ (S.trans s1) fun w H2 s2 d2 => ?_
  cases d2
  obtain ⟨a1, xs, rfl, ha, dx⟩ := da_tup (d1.same s2)
  have S12 := s1.trans s2
  have L := dx.length
  refine ⟨i, rfl, a1, xs, rfl, ha, fun z => ?_, fun _ p hp => ?_⟩
  · have e := sIx_at2 (n := xs.length) h0 (by omega) xs.length
    rw [e] at z
    have e2 : ds.take i.toNat = ds := List.take_of_length_le (by omega)
    rw [e2] at k
    exact k _ H2 S12 (.tup ha dx)
  · rw [cutF h0 (by omega)]
    exact k _ _ (S12.trans (same_new hp)) (.tup (Or.inl (Or.inl upd_same)) ((dx.takeN i.toNat).same (same_new hp)))
theorem Evd.back {i : Int} (a : Evd K H0 σ te (.tuple ds)) (b : Evd K H0 σ tf (.int i)) (h0 : 1 ≤ i) (h1 : i ≤ ds.length) : Evd K H0 σ (L2.tSl (rSlA K) te (tPart tf) tNoPart) (.tuple (ds.drop i.toNat)) := fun H Q S k => by
  refine a H _ S fun v H1 s1 d1 => ?_
  unfold tNoPart tPart
  dsimp only
  refine b H1 _ (S.trans s1) fun w H2 s2 d2 => ?_
  cases d2
  obtain ⟨a1, xs, rfl, ha, dx⟩ := da_tup (d1.same s2)
  have S12 := s1.trans s2
  have L := dx.length
  refine ⟨i, rfl, a1, xs, rfl, ha, fun z => ?_, fun _ p hp => ?_⟩
  · have e := sIx_at2 (n := xs.length) (i := i) (by omega) (by omega) 0
    rw [e] at z
    omega
  · rw [cutB (by omega) (by omega)]
    exact k _ _ (S12.trans (same_new hp)) (.tup (Or.inl (Or.inl upd_same)) ((dx.dropN i.toNat).same (same_new hp)))
theorem Evd.rep {k0 : Int} (a : Evd K H0 σ te (.tuple ds)) (ne : ds ≠ []) (few : ds.length ≤ 1000) (h2 : 2 ≤ k0) (h3 : k0 ≤ 1000) : Evd K H0 σ (tOp (rRepT K) te (tC (.int k0))) (.tuple (List.replicate k0.toNat ds).flatten) := fun H Q S k => by
  refine a H _ S fun v H1 s1 d1 => ?_
  obtain ⟨a1, xs, rfl, ha, dx⟩ := da_tup d1
  have L := dx.length
  refine ⟨a1, k0, xs, rfl, rfl, ha, fun z => ne ?_, h2, h3, by omega, fun p hp => ?_⟩
  · subst z
    cases dx
    rfl
  · exact k _ _ (s1.trans (same_new hp)) (.tup (Or.inl (Or.inl upd_same)) ((dx.rep k0.toNat).same (same_new hp)))
theorem Evd.list (a : Evd K H0 σ te (.tuple ds)) : Evd K H0 σ (tCB (fun xs H Q => ∃ p ys, xs = [.ref p] ∧ SqT K H p ys ∧ ∀ l, H l = none → l ≠ sysModules → Q (.ref l) (upd H l (.lst ys))) (tCons te tNil)) (.list ds) := fun H Q S k => by
  refine a H _ S fun v H1 s1 d1 => ?_
  obtain ⟨a1, xs, rfl, ha, dx⟩ := da_tup d1
  refine ⟨a1, xs, rfl, ha, fun l hl nl => ?_⟩
  exact k _ _ (s1.trans (same_new hl)) (.lst nl (Or.inl (Or.inl upd_same)) (dx.same (same_new hl)))
theorem Evd.ix {i : Int} {n : Nat} (a : Evd K H0 σ te (.tuple ds)) (e : ds[n]? = some d) (hi : i = (n : Int)) : Evd K H0 σ (tOp (rIxT K) te (tC (.int i))) d := fun H Q S k => by
  refine a H _ S fun v H1 s1 d1 => ?_
  obtain ⟨a1, xs, rfl, ha, dx⟩ := da_tup d1
  have L := dx.length
  have ln : n < xs.length := by
    rw [L]
    exact (List.getElem?_eq_some_iff.mp e).1
  have hx : xs[n]? = some xs[n] := List.getElem?_eq_getElem ln
  have at_ : atI xs i = some xs[n] := by
    subst hi
    unfold atI ixN
    rw [if_pos (by omega), if_pos (by omega)]
    simpa using hx
  refine ⟨a1, xs, i, xs[n], rfl, rfl, ha, at_, ?_⟩
  have : ∀ {xs : List V} {ds : List PyData} {m : Nat} {x : V} {y : PyData}, DaAll K H1 xs ds → xs[m]? = some x → ds[m]? = some y → Da K H1 x y := by
    intro xs ds m
    induction m generalizing xs ds with
    | zero =>
      intro x y q e1 e2
      cases q with
      | nil => cases e1
      | cons b c =>
        cases e1
        cases e2
        exact b
    | succ m ih =>
      intro x y q e1 e2
      cases q with
      | nil => cases e1
      | cons b c => exact ih c e1 e2
  exact k _ H1 s1 (this dx hx e)
theorem Evd.len (a : Evd K H0 σ te (.tuple ds)) : Evd K H0 σ (tCB (fun xs H Q => ∃ x n, xs = [x] ∧ LenV K x H n ∧ Q (.int n) H) (tCons te tNil)) (.int ds.length) := fun H Q S k => by
  refine a H _ S fun v H1 s1 d1 => ?_
  obtain ⟨a1, xs, rfl, ha, dx⟩ := da_tup d1
  refine ⟨_, xs.length, rfl, .inr ⟨xs, ha, rfl⟩, ?_⟩
  rw [dx.length]
  exact k _ H1 s1 (.int _)
theorem ev_lst_run (R : EvdA K H0 σ ta ds) {H : Hp} {Q : VK} (S : Same H0 H) (few : ds.length ≤ 1000) (h : ∀ xs H1 q, Same H H1 → DaAll K H1 xs ds → H1 q = none → Q (.ref q) (upd H1 q (.lst xs))) : tLstS ta σ H Q :=
  R H _ S fun xs H1 s1 d1 => ⟨by rw [d1.length, sizeLine_eq]; omega, fun q hq _ => h xs H1 q s1 d1 hq⟩
theorem ev_seq_lst {H : Hp} (R : EvdA K H σ ta ds) {i : Nat} {u : TS} {D : Ends} (few : ds.length ≤ 1000) (h : ∀ xs H1 q, Same H H1 → DaAll K H1 xs ds → H1 q = none → u D (σ.set i (some (.ref q))) (upd H1 q (.lst xs))) :
    tSeq (tAsg (tLstS ta) (gName i)) u D σ H := by
  unfold tSeq tAsg
  exact ev_lst_run (Q := fun x H1 => gName i x σ H1 (u D)) R (Same.refl H) few h
theorem ev_seq_cat {H : Hp} (R : EvdA K H σ ta ds) {i j : Nat} {u : TS} {D : Ends} {q1 : Addr} {xs1 : List V} (few : ds.length ≤ 1000) (f1 : xs1.length ≤ 1000) (hσ : σ[j]? = some (some (.ref q1))) (h1 : H q1 = some (.lst xs1))
    (h : ∀ xs H1 q, Same H H1 → DaAll K H1 xs ds → H1 q = none → u D (σ.set i (some (.ref q))) (upd H1 q (.lst (xs1 ++ xs)))) : tSeq (tAsg (tOp rCat (tVar j) (tLstS ta)) (gName i)) u D σ H := by
  refine ⟨_, hσ, ev_lst_run R (Same.refl H) few fun xs H1 q s1 d1 hq => ?_⟩
  have t1 := same_new (o := .lst xs) hq
  refine ⟨q1, q, xs1, xs, rfl, rfl, t1 _ _ (s1 _ _ h1), upd_same, ?_, fun q3 hq3 => ?_⟩
  · rw [d1.length, sizeLine_eq]
    omega
  · exact h xs _ q3 (s1.trans t1) (d1.same t1) hq3
theorem ev_ret_pick {H : Hp} {sp : Sp} {D : Ends} (R : EvdA K H σ ta ds) {j : Nat} {q1 : Addr} {xs1 : List V} {v : V} (few : ds.length ≤ 1000) (f1 : xs1.length ≤ 1000) (h0 : σ[0]? = some (some v)) (hσ : σ[j]? = some (some (.ref q1))) (h1 : H q1 = some (.lst xs1))
    (h : ∀ xs H1 q, Same H H1 → DaAll K H1 xs ds → H1 q = none → sp [v, .ref q] (upd H1 q (.lst (xs1 ++ xs))) D.rt (fun _ _ _ => False)) :
    tRet (tCall sp [] (fun _ _ _ => False) (tCons (tVar 0) (tCons (tOp rCat (tVar j) (tLstS ta)) tNil))) D σ H := by
  refine ⟨_, h0, _, hσ, ev_lst_run R (Same.refl H) few fun xs H1 q s1 d1 hq => ?_⟩
  have t1 := same_new (o := .lst xs) hq
  refine ⟨q1, q, xs1, xs, rfl, rfl, t1 _ _ (s1 _ _ h1), upd_same, ?_, fun q3 hq3 => ?_⟩
  · rw [d1.length, sizeLine_eq]
    omega
  · exact h xs _ q3 (s1.trans t1) (d1.same t1) hq3
theorem Evd.add {i j : Int} (a : Evd K H0 σ te (.int i)) (b : Evd K H0 σ tf (.int j)) : Evd K H0 σ (tOp (rI0 fun i j => .int (i + j)) te tf) (.int (i + j)) := fun H Q S k => by
  refine a H _ S fun v H1 s1 d1 => ?_
  refine b H1 _ (S.trans s1) fun w H2 s2 d2 => ?_
  cases d1
  cases d2
  exact ⟨_, _, rfl, rfl, k _ H2 (s1.trans s2) (.int _)⟩
theorem ev_seq {H : Hp} (R : Evd K H σ te d) {i : Nat} {u : TS} {D : Ends} (h : ∀ v H1, Same H H1 → Da K H1 v d → u D (σ.set i (some v)) H1) : tSeq (tAsg te (gName i)) u D σ H := R H _ (Same.refl H) h
theorem seq_case {H : Hp} {i : Nat} {u : TS} {D : Ends} (C : V → Hp → Prop) (a : ∀ Q : VK, (∀ x H1, C x H1 → Q x H1) → te σ H Q) (b : ∀ x H1, C x H1 → u D (σ.set i (some x)) H1) : tSeq (tAsg te (gName i)) u D σ H := a _ b
end
end G

/-! A reader of pieces: chains are taken; its end; days. -/
namespace LW
open PySem L2 G TL
abbrev pDaysR : Stmt := top 47
abbrev eTxt : Stmt := inClass (top 21) 0
def WantsF (E : XK) (C : Addr) (f : Str) (v : V) (H : Hp) : Prop := ∀ (d : Addr) (H' : Hp), Same H H' → H d = none → H' d = some (.xd [(f, v)]) → E (.ref C) (some d) H'
theorem mk_erF {σ : L2.St} {H : Hp} {Q : XK} {C : Addr} {f : Str} {ta : TA} {v : V} (ht : ∀ R : List V → Hp → Prop, R [v] H → ta σ H R) (h : WantsF Q C f v H) : tMkO C (spF1 C f) [] ta σ H Q := by
  refine ht _ ⟨by show 1 ≤ 1000; decide, fun a na => ?_⟩
  refine ⟨a, v, rfl, upd_same, fun d nd ne => ⟨rfl, d, [(f, v)], upd_same, by rw [upd_ne ne, upd_same], ?_, ?_⟩⟩
  · rw [upd_ne ne] at nd
    exact nd
  · have nd' : H d = none := by
      rw [upd_ne ne] at nd
      exact nd
    refine h d _ (fun b o e => ?_) nd' upd_same
    have b1 : b ≠ a := ne_of_none e na
    have b2 : b ≠ d := ne_of_none e nd'
    rw [upd_ne b2, del_ne b1, upd_ne b1, upd_ne b2, upd_ne b1]
    exact e
structure ErF (P : Program) (w : World) (K : PySem.W.Frag) (mg : Str → Option Value) (base : Heap) (x f : Str) (C fI : Addr) (fd : FuncData) (T : List Value) : Prop where
  g : mg x = some (.ref C)
  R : ExK K C fI T
  ty : PySem.W.typeIn K (.ref C) = some (.type "type")
  I : FnOk P w K mg base CX0 1 fI fd ["self", f] (spF1 C f)
  b : Binds K fd ["self", f] []
def spTakeC (K : PySem.W.Frag) (C : Addr) : Sp := fun vs H Q _ => ∃ (r L : Addr) (ps ws : List Str) (k : Nat), vs = [.ref r, .int 4] ∧ RdAt H C r L ps k ∧ 1 ≤ ws.length ∧ ws.length ≤ 5 ∧ (∀ i x, ws[i]? = some x → ps[k + i]? = some x ∧ isWordD (.str x) = true) ∧ (ws.length = 5 ∨ nextWord ps (k + ws.length) = false) ∧
  ∀ c H', SqT K H' c (ws.map V.str) → RdAt H' C r L ps (k + ws.length) → Old r H H' → Q (.ref c) H'
def spFinish (C CE : Addr) : Sp := fun vs H Q E => ∃ (r L : Addr) (ps : List Str) (k : Nat), vs = [.ref r] ∧ RdAt H C r L ps k ∧ ((k = ps.length ∧ Q .non H) ∨ (k ≠ ps.length ∧ WantsF E CE "index" (.int (k : Nat)) H))
def spDaysR (K : PySem.W.Frag) (C : Addr) : Sp := fun vs H Q _ => ∃ (r L : Addr) (ps : List Str) (k : Nat), vs = [.ref r] ∧ RdAt H C r L ps k ∧
  (((∀ x, ps[k]? = some x → x ≠ Str.ofString "@") ∧ ∀ H', Same H H' → Q .non H') ∨
   ∃ i j : Nat, ps[k]? = some (Str.ofString "@") ∧ ps[k + 1]? = some (numS (i : Int)) ∧ ps[k + 2]? = some (numS (j : Int)) ∧ i ≤ j ∧ j ≤ 10 ^ 30 ∧ ¬ (i = 0 ∧ j = 10 ^ 30) ∧
    ∀ q H', SqT K H' q [.int (i : Nat), .int (j : Nat)] → RdAt H' C r L ps (k + 3) → Old r H H' → Q (.ref q) H')
section
variable {P : Program} {w : World} {K : PySem.W.Frag} {mg : Str → Option Value} {base : Heap} {C CE : Addr}
variable {fN fW fE fT fU fS fM fI : Addr} {dN dW dE dT dU dS dM dI : FuncData} {TE' : List Value}
theorem scTxt : FnScope ["self", "index"] ["self", "index"] (defScope eTxt) := ⟨rfl, rfl, rfl, by decide +kernel, rfl, by decide +kernel, by decide +kernel⟩
theorem er_txt {C fI : Addr} {fd : FuncData} {T : List Value} (g : mg "InvalidText" = some (.ref C)) (R : ExK K C fI T) (ty : PySem.W.typeIn K (.ref C) = some (.type "type")) (tk : PySem.W.takerIn K C "index" = some none)
    (F : Fun K "__init__" "InvalidText.__init__" eTxt fI fd) : ErF P w K mg base "InvalidText" "index" C fI fd T := by
  refine ⟨g, R, ty, F.ok scTxt (fun vs H Q E h => ?_) (fun cdv A outer s H vs Q E hr h => ?_), F.binds fun _ _ _ _ _ _ us hl => match us, hl with | [_, _], _ => rfl⟩
  · obtain ⟨a, v, rfl, _⟩ := h
    rfl
  · obtain ⟨a, v, rfl, ea, q⟩ := h
    exact ⟨_, pss_one (ps_set_ex (pv 0) (pv 1)), ⟨_, rfl, _, rfl, a, C, _, _, rfl, R, tk, .inl ⟨ea, fun d n ne => q d n ne⟩⟩⟩
theorem scFinish : FnScope ["self"] ["self"] (defScope pFinish) := ⟨rfl, rfl, rfl, by decide +kernel, rfl, by decide +kernel, by decide +kernel⟩
theorem ok_finish {f : Addr} {fd : FuncData} (F : Fun K "finish" "Reader.finish" pFinish f fd) (c : RdC K C) (oE : Meth K C "is_at_end" fE) (GE : FnOk P w K mg base CX0 1 fE dE ["self"] (spAtEnd C)) (bE : Binds K dE ["self"] [])
    (RI : ErF P w K mg base "InvalidText" "index" CE fI dI TE') : FnOk P w K mg base (L2.CX P w) 3 f fd ["self"] (spFinish C CE) := by
  refine F.okX scFinish (fun vs H Q E h => ?_) (fun cdv A outer s H vs Q E hr h => ?_)
  · obtain ⟨r, L, ps, k, rfl, _⟩ := h
    rfl
  · obtain ⟨r, L, ps, k, rfl, R, q⟩ := h
    refine ⟨_, pss_one (ps_if (pt_not (pt_val (pe_meth0 (pv 0) c.cl oE GE (hr.mono (by decide)) bE .nil pass0))) (pss_one (ps_raise rfl (takes_of rfl rfl rfl rfl) (pmk_exk RI.R RI.ty RI.I (hr.mono (by decide)) RI.b pass0 (by rfl) RI.g (pa_cons (pe_fld (pv 0) rfl) pa_nil)))) pss_nil), ?_⟩
    obtain ⟨dx, h1, h2⟩ := id R.at_
    refine ⟨_, rfl, r, dx, _, rfl, h1, rl0 (by decide +kernel) (by decide +kernel), r, L, ps, k, rfl, R, ?_⟩
    rcases q with ⟨e, q⟩ | ⟨ne, q⟩
    · rw [decide_eq_true e]
      exact ⟨_, rfl, iteF q⟩
    · rw [decide_eq_false ne]
      refine ⟨_, rfl, iteT ?_⟩
      exact mk_erF (fun R hR => ⟨_, rfl, r, C, dx, _, _, rfl, h1, c.cl, c.n2, rl2, hR⟩) q
theorem scTakeC : FnScope ["self", "most", "words"] ["self", "most"] (defScope pTakeC) := ⟨rfl, rfl, rfl, by decide +kernel, rfl, by decide +kernel, by decide +kernel⟩
theorem ok_takeC {f : Addr} {fd : FuncData} (F : Fun K "take_chain" "Reader.take_chain" pTakeC f fd) (ln : mg "len" = none) (tu : mg "tuple" = none) (c : RdC K C) (oW : Meth K C "is_word_next" fW) (GW : FnOk P w K mg base CX0 2 fW dW ["self"] (spWordN C)) (bW : Binds K dW ["self"] [])
    (oT : Meth K C "_taken" fT) (GT : FnOk P w K mg base CX0 1 fT dT ["self"] (spTaken C)) (bT : Binds K dT ["self"] []) (oS : Meth K C "take_word" fS) (GS : FnOk P w K mg base CX0 3 fS dS ["self"] (spTakeW C)) (bS : Binds K dS ["self"] []) : FnOk P w K mg base CX0 4 f fd ["self", "most"] (spTakeC K C) := by
  refine F.ok scTakeC (fun vs H Q E h => ?_) (fun cdv A outer s H vs Q E hr h => ?_)
  · obtain ⟨r, L, ps, ws, k, rfl, _⟩ := h
    rfl
  · obtain ⟨r, L, ps, ws, k, rfl, R, l1, l5, hw, stop, kk⟩ := h
    have nd := scTakeC.nd
    have szl : sizeLine = 16777216 := sizeLine_eq
    refine ⟨_, pss_cons (ps_set (i := 2) nd rfl (Or.inl rfl) (pe_lst (pa_cons (pe_meth0 (pv 0) c.cl oS GS hr bS .nil pass0) pa_nil)))
      (pss_cons (ps_while PassesOwn.never (PW.pt (pw_and (pt_cmpR op_le (pe_callB call_len (by rfl) ln PySem.boot_len (pa_cons (pv 2) pa_nil)) (pv 1) (nomark _)) (pw_and1 (pt_val (pe_meth0 (pv 0) c.cl oW GW (hr.mono (by decide)) bW .nil pass0)))))
        (pss_one (ps_expr (pe_bm PySem.F.plainAttrs_list PySem.F.slot_list_append PySem.F.type_list_append mt_append (pv 2) (pa_cons (pe_meth0 (pv 0) c.cl oT GT (hr.mono (by decide)) bT .nil pass0) pa_nil)))))
      (pss_one (ps_ret (pe_callTy call_tuple_of (by rfl) tu (by decide +kernel) (pa_cons (pv 2) pa_nil))))), ?_⟩
    obtain ⟨dx, h1, h2⟩ := id R.at_
    obtain ⟨w0, hw0⟩ : ∃ w0, ws[0]? = some w0 := ⟨ws[0], List.getElem?_eq_getElem (by omega)⟩
    obtain ⟨p0, m0⟩ := hw 0 w0 hw0
    refine ⟨_, rfl, r, dx, _, rfl, h1, rl0 (by decide +kernel) (by decide +kernel), r, L, ps, k, w0, rfl, R, p0, m0, fun H1 R1 o1 => ?_⟩
    refine ⟨by show 1 ≤ sizeLine; omega, fun Lw hL => ?_⟩
    have S2 : Same H1 (upd H1 Lw (.lst [V.str w0])) := same_new hL
    have gL : (upd H1 Lw (.lst [V.str w0])) Lw = some (.lst [V.str w0]) := upd_same
    have LL : L ≠ Lw := fun z => by obtain ⟨dx1, _, g1⟩ := R1.at_; rw [z, hL] at g1; cases g1
    have frees : H Lw = none := by
      cases e : H Lw with
      | none => rfl
      | some u =>
        have n : Lw ≠ r := fun z => by obtain ⟨dx1, g1, _⟩ := R1.at_; rw [z, g1] at hL; cases hL
        rw [o1 _ _ e n] at hL
        cases hL
    dsimp only
    generalize upd H1 Lw (.lst [V.str w0]) = H2 at S2 gL ⊢
    have tk1 : ws.take 1 = [w0] := by
      cases ws with
      | nil => cases hw0
      | cons a b => simp at hw0; subst hw0; rfl
    refine ⟨fun m σ G => ∃ j, 1 ≤ j ∧ j ≤ ws.length ∧ m = ws.length - j ∧ σ = [some (.ref r), some (.int 4), some (.ref Lw)] ∧ G Lw = some (.lst ((ws.take j).map V.str)) ∧ RdAt G C r L ps (k + j) ∧ Old r H G,
      ⟨_, 1, Nat.le_refl _, l1, rfl, rfl, by rw [tk1]; exact gL, R1.same S2, Old.trans o1 (Same.old S2)⟩, fun m σ G hW => ?_⟩
    obtain ⟨j, j1, jw, rfl, rfl, g, RG, o⟩ := hW
    have lt : (ws.take j).length = j := by rw [List.length_take]; omega
    obtain ⟨dxg, hg1, hg2⟩ := id RG.at_
    have Lr : Lw ≠ r := fun z => by rw [z, hg1] at g; cases g
    refine ⟨_, rfl, .ref Lw, j, rfl, .inl ⟨_, SqL.of g, by rw [List.length_map, lt]⟩, _, rfl, _, _, rfl, rfl, _, rfl, ?_⟩
    have ret : ∀ (G' : Hp), Same G G' → j = ws.length → tRet (tCB (fun xs H Q => ∃ p ys, xs = [V.ref p] ∧ ((SqL K H p ys ∧ ∀ l, H l = none → Q (V.ref l) (upd H l (.tup ys))) ∨ SqT K H p ys ∧ Q (V.ref p) H)) (tCons (tVar 2) tNil)) { nx := fun x H' => Q V.non H', rt := Q } [some (.ref r), some (.int 4), some (.ref Lw)] G' := by
      intro G' S' e
      subst e
      rw [List.take_of_length_le (Nat.le_refl _)] at g
      refine ⟨_, rfl, Lw, _, rfl, .inl ⟨SqL.of (S' _ _ g), fun t ht => ?_⟩⟩
      have S3 := S'.trans (same_new (o := .tup (ws.map V.str)) ht)
      exact kk t _ (SqT.of upd_same) (RG.same S3) (Old.trans o (Same.old S3))
    by_cases l4 : j ≤ 4
    rotate_left
    · refine (?_ : if decide (((j : Nat) : Int) ≤ 4) = true then _ else _)
      rw [decide_eq_false (by omega : ¬ ((j : Nat) : Int) ≤ 4)]
      exact iteF (iteF (ret G (fun _ _ e => e) (by omega)))
    · refine (?_ : if decide (((j : Nat) : Int) ≤ 4) = true then _ else _)
      rw [decide_eq_true (by omega : ((j : Nat) : Int) ≤ 4)]
      refine iteT ?_
      refine ⟨_, rfl, r, dxg, _, rfl, hg1, rl0 (by decide +kernel) (by decide +kernel), r, L, ps, k + j, rfl, RG, fun G' S' => ?_⟩
      by_cases jl : j = ws.length
      · have nw : nextWord ps (k + j) = false := by
          rcases stop with z | z
          · omega
          · rw [jl]; exact z
        rw [nw]
        exact ⟨_, rfl, iteF (ret G' S' jl)⟩
      · obtain ⟨x, hx⟩ : ∃ x, ws[j]? = some x := ⟨ws[j], List.getElem?_eq_getElem (by omega)⟩
        obtain ⟨px, mx⟩ := hw j x hx
        rw [nextWord_yes px mx]
        refine ⟨_, rfl, iteT ?_⟩
        refine ⟨fun σ' G2 => ∃ m', m' < ws.length - j ∧ ∃ j', 1 ≤ j' ∧ j' ≤ ws.length ∧ m' = ws.length - j' ∧ σ' = [some (.ref r), some (.int 4), some (.ref Lw)] ∧ G2 Lw = some (.lst ((ws.take j').map V.str)) ∧ RdAt G2 C r L ps (k + j') ∧ Old r H G2, fun σ' G2 h => h, ?_⟩
        refine ⟨_, rfl, .inl ⟨rfl, _, SqL.of (S' _ _ g)⟩, _, rfl, r, dxg, _, rfl, S' _ _ hg1, rl0 (by decide +kernel) (by decide +kernel), r, L, ps, k + j, x, rfl, RG.same S', px, fun G2 R2 o2 => ?_⟩
        have g2 := o2 _ _ (S' _ _ g) Lr
        refine ⟨Lw, _, _, rfl, rfl, g2, by rw [List.length_map, lt, szl]; omega, ?_⟩
        obtain ⟨⟨dx2, h21, h22⟩, few2, ok2⟩ := id R2
        refine ⟨ws.length - (j + 1), by omega, j + 1, by omega, by omega, rfl, rfl, ?_, ?_, ?_⟩
        · rw [upd_same, List.take_add_one, hx, List.map_append]
          rfl
        · exact ⟨⟨dx2, by rw [upd_ne (Ne.symm Lr)]; exact h21, by rw [upd_ne LL]; exact h22⟩, few2, ok2⟩
        · intro b u e nb
          have nw : b ≠ Lw := fun z => by rw [z, frees] at e; cases e
          rw [upd_ne nw]
          exact o2 _ _ (S' _ _ (o _ _ e nb)) nb
end
end LW

/-! Days, and chains unlike those before, are read. -/
namespace LW
open PySem L2 G TL
abbrev pUnl2 : Stmt := top 46
theorem setIt {i : Nat} {v : V} {σ : L2.St} {H : Hp} {Q : L2.St → Hp → Prop} (h : Q (σ.set i (some v)) H) : gName i v σ H Q := h
theorem asgIt {te : TE} {tg : TG} {D : Ends} {σ : L2.St} {H : Hp} (h : te σ H fun v H1 => tg v σ H1 D.nx) : tAsg te tg D σ H := h
structure Rdr (P : Program) (w : World) (K : PySem.W.Frag) (mg : Str → Option Value) (base : Heap) (C : Addr) : Prop where
  c : RdC K C
  nx : ∃ f, BMeth K C "is_next" f ∧ FnR P w K mg base CX0 2 f (spStar 1 (spNext K C))
  ts : ∃ f, Meth K C "take_sign" f ∧ FnR P w K mg base CX0 3 f (spStar 1 (spTakeS K C))
  tw : ∃ f d, Meth K C "take_word" f ∧ FnOk P w K mg base CX0 3 f d ["self"] (spTakeW C) ∧ Binds K d ["self"] []
  wn : ∃ f d, Meth K C "is_word_next" f ∧ FnOk P w K mg base CX0 2 f d ["self"] (spWordN C) ∧ Binds K d ["self"] []
  tn : ∃ f d, Meth K C "take_number" f ∧ FnOk P w K mg base CX0 2 f d ["self", "low", "high"] (spTakeN C) ∧ Binds K d ["self", "low", "high"] []
  tc : ∃ f d, Meth K C "take_chain" f ∧ FnOk P w K mg base CX0 4 f d ["self", "most"] (spTakeC K C) ∧ Binds K d ["self", "most"] []
/-- r.is_next(z) -/
theorem isNext {K : PySem.W.Frag} {C r L : Addr} {ps : List Str} {k : Nat} {z : Str} {H : Hp} {Q : VK} {E : XK} (R : RdAt H C r L ps k) (q : ∀ H', Same H H' → Q (.bl (nextIn ps k [z])) H') : spStar 1 (spNext K C) [.ref r, .str z] H Q E := by
  refine ⟨[.ref r], [.str z], rfl, rfl, by show 1 ≤ sizeLine; rw [sizeLine_eq]; decide, fun p hp => ?_⟩
  have S : Same H (upd H p (.tup [V.str z])) := same_new hp
  exact ⟨r, p, L, ps, [z], k, rfl, R.same S, SqT.of upd_same, q _ S⟩
/-- r.take_sign(z) -/
theorem takeS {K : PySem.W.Frag} {C r L : Addr} {ps : List Str} {k : Nat} {z : Str} {H : Hp} {Q : VK} {E : XK} (R : RdAt H C r L ps k) (h : ps[k]? = some z) (q : ∀ H', RdAt H' C r L ps (k + 1) → Old r H H' → Q (.str z) H') : spStar 1 (spTakeS K C) [.ref r, .str z] H Q E := by
  refine ⟨[.ref r], [.str z], rfl, rfl, by show 1 ≤ sizeLine; rw [sizeLine_eq]; decide, fun p hp => ?_⟩
  have S : Same H (upd H p (.tup [V.str z])) := same_new hp
  exact ⟨r, p, L, ps, [z], k, z, rfl, R.same S, SqT.of upd_same, by show 1 ≤ 100; decide, h, List.mem_singleton.mpr rfl, fun H' R' o => q H' R' (Old.trans (Same.old S) o)⟩
section
variable {P : Program} {w : World} {K : PySem.W.Frag} {mg : Str → Option Value} {base : Heap} {C CE : Addr}
theorem scDaysR : FnScope ["reader", "first"] ["reader"] (defScope pDaysR) := ⟨rfl, rfl, rfl, by decide +kernel, rfl, by decide +kernel, by decide +kernel⟩
theorem ok_daysR {f : Addr} {fd : FuncData} (F : Fun K "_days" "_days" pDaysR f fd) (mM : ∃ t, mg "LIMIT" = some (.int (10 ^ 30) t)) (Z : Rdr P w K mg base C) : FnOk P w K mg base CX0 4 f fd ["reader"] (spDaysR K C) := by
  obtain ⟨tM, mM⟩ := mM
  obtain ⟨fN, oN, GN⟩ := Z.nx
  obtain ⟨fS, oS, GS⟩ := Z.ts
  obtain ⟨fU, dU, oU, GU, bU⟩ := Z.tn
  have c := Z.c
  refine F.ok scDaysR (fun vs H Q E h => ?_) (fun cdv A outer s H vs Q E hr h => ?_)
  · obtain ⟨r, L, ps, k, rfl, _⟩ := h
    rfl
  · obtain ⟨r, L, ps, k, rfl, R, q⟩ := h
    have nd := scDaysR.nd
    have szl : sizeLine = 16777216 := sizeLine_eq
    refine ⟨_, pss_cons (ps_if (pt_not (pt_val (pe_methR (pv 0) c.cl oN.mt GN (hr.mono (by decide)) pass0 (pa_cons pe_str pa_nil)))) (pss_one (ps_ret pe_non)) pss_nil)
      (pss_cons (ps_expr (pe_methR (pv 0) c.cl oS GS hr pass0 (pa_cons pe_str pa_nil)))
      (pss_cons (ps_set (i := 1) nd rfl (Or.inl rfl) (pe_meth (pv 0) c.cl oU GU (hr.mono (by decide)) bU .nil pass0 (pa_cons pe_int (pa_cons (pe_glob (v := .int (10 ^ 30)) (by rfl) mM ⟨tM, rfl⟩) pa_nil))))
      (pss_one (ps_ret (pe_tup (pa_cons (pv 1) (pa_cons (pe_meth (pv 0) c.cl oU GU (hr.mono (by decide)) bU .nil pass0 (pa_cons (pv 1) (pa_cons (pe_ifExp (pt_truth (pv 1) (fun _ => rfl)) (pe_glob (v := .int (10 ^ 30)) (by rfl) mM ⟨tM, rfl⟩) (pe_op op_sub (pe_glob (v := .int (10 ^ 30)) (by rfl) mM ⟨tM, rfl⟩) pe_int)) pa_nil))) pa_nil))))))), ?_⟩
    obtain ⟨dx, h1, h2⟩ := id R.at_
    refine ⟨_, rfl, r, dx, _, rfl, h1, rl0 (by decide +kernel) (by decide +kernel), isNext R fun H1 S1 => ?_⟩
    rcases q with ⟨no, q⟩ | ⟨i, j, p0, p1, p2, ij, jl, nij, q⟩
    · rw [nextIn_no fun x hx => by simpa using no x hx]
      exact ⟨_, rfl, iteT (q H1 S1)⟩
    · rw [nextIn_yes p0 (List.mem_singleton.mpr rfl)]
      refine ⟨_, rfl, iteF ?_⟩
      unfold tNext
      dsimp only
      refine ⟨_, rfl, r, dx, _, rfl, S1 _ _ h1, rl0 (by decide +kernel) (by decide +kernel), takeS (R.same S1) p0 fun H2 R2 o2 => ?_⟩
      obtain ⟨dx2, h21, h22⟩ := id R2.at_
      refine ⟨_, rfl, r, dx2, _, rfl, h21, rl0 (by decide +kernel) (by decide +kernel), r, L, ps, k + 1, i, 0, 10 ^ 30, rfl, R2, p1, by omega, by omega, by omega, fun H3 R3 o3 => ?_⟩
      refine setIt ?_
      dsimp only
      obtain ⟨dx3, h31, h32⟩ := id R3.at_
      refine ⟨_, rfl, _, rfl, r, dx3, _, rfl, h31, rl0 (by decide +kernel) (by decide +kernel), _, rfl, _, rfl, ?_⟩
      have o123 := Old.trans (Same.old S1) (Old.trans o2 o3)
      have go : ∀ hi : Int, (j : Int) ≤ hi → spTakeN C [.ref r, .int (i : Nat), .int hi] H3 (fun v H4 => 2 ≤ sizeLine ∧ ∀ p, H4 p = none → Q (.ref p) (upd H4 p (.tup [.int (i : Nat), v]))) E0 := by
        intro hi hj
        refine ⟨r, L, ps, k + 2, j, _, hi, rfl, R3, p2, by omega, by omega, hj, fun H4 R4 o4 => ⟨by omega, fun p hp => ?_⟩⟩
        have S5 : Same H4 (upd H4 p (.tup [V.int (i : Nat), .int (j : Nat)])) := same_new hp
        exact q p _ (SqT.of upd_same) (R4.same S5) (Old.trans o123 (Old.trans o4 (Same.old S5)))
      refine ⟨_, rfl, ?_⟩
      by_cases i0 : i = 0
      · have e : (((i : Nat) : Int) != 0) = false := by subst i0; rfl
        refine (?_ : if (((i : Nat) : Int) != 0) = true then _ else _)
        rw [e]
        refine iteF ?_
        refine ⟨_, _, rfl, rfl, ?_⟩
        exact go _ (by omega)
      · have e : (((i : Nat) : Int) != 0) = true := by simp; omega
        refine (?_ : if (((i : Nat) : Int) != 0) = true then _ else _)
        rw [e]
        refine iteT ?_
        exact go _ (by omega)
end
end LW

/-! is_of, and the property text. -/
namespace LW
open PySem L2 G
abbrev sText : Stmt := inClass (top 32) 3
abbrev sIsOf : Stmt := inClass (top 32) 4
/-- the days at q hold the number -/
def spIsOf (K : PySem.W.Frag) (C : Addr) : Sp := fun vs H Q _ => ∃ (a dx q : Addr) (fs : List (Str × V)) (d i j : Int), vs = [.ref a, .int d] ∧ H a = some (.ins C dx fs) ∧ fs.lookup (Str.ofString "_days") = some (.ref q) ∧ SqT K H q [.int i, .int j] ∧ Q (.bl (decide (i ≤ d) && decide (d ≤ j))) H
section
variable {P : Program} {w : World} {K : PySem.W.Frag} {mg : Str → Option Value} {base : Heap} {C : Addr}
theorem scGT : FnScope ["self"] ["self"] (defScope sText) := ⟨rfl, rfl, rfl, by decide +kernel, rfl, by decide +kernel, by decide +kernel⟩
theorem scIsOf : FnScope ["self", "number", "first", "last"] ["self", "number"] (defScope sIsOf) := ⟨rfl, rfl, rfl, by decide +kernel, rfl, by decide +kernel, by decide +kernel⟩
theorem ok_gT {f : Addr} {fd : FuncData} (F : Fun K "text" "Statement.text" sText f fd) (c : Cls K C) (n : NoAttr K C "_text") : FnOk P w K mg base CX0 1 f fd ["self"] (spGet C "_text") := by
  refine F.ok scGT (fun vs H Q E h => ?_) (fun cdv A outer s H vs Q E hr h => ?_)
  · obtain ⟨a, dx, fs, v, rfl, _⟩ := h
    rfl
  · obtain ⟨a, dx, fs, v, rfl, ea, l, k⟩ := h
    exact ⟨_, pss_one (ps_ret (pe_fld (pv 0) rfl)), ⟨_, rfl, a, C, dx, fs, v, rfl, ea, c, n, l, k⟩⟩
end
end LW

/-! A Leave's properties and its ==. -/
namespace LW
open PySem L2 G
abbrev sSubject : Stmt := inClass (top 34) 1
abbrev sTags : Stmt := inClass (top 34) 2
abbrev sTimes : Stmt := inClass (top 34) 3
abbrev sEqL : Stmt := inClass (top 34) 4
theorem ll1 {p d t j g n : V} : List.lookup (Str.ofString "_person") (g6 p d t j g n) = some p := by simp [List.lookup]
theorem ll2 {p d t j g n : V} : List.lookup (Str.ofString "_days") (g6 p d t j g n) = some d := by
  have h1 : (Str.ofString "_days" == Str.ofString "_person") = false := by decide +kernel
  simp [List.lookup, h1]
theorem ll3 {p d t j g n : V} : List.lookup (Str.ofString "_text") (g6 p d t j g n) = some t := by
  have h1 : (Str.ofString "_text" == Str.ofString "_person") = false := by decide +kernel
  have h2 : (Str.ofString "_text" == Str.ofString "_days") = false := by decide +kernel
  simp [List.lookup, h1, h2]
theorem ll4 {p d t j g n : V} : List.lookup (Str.ofString "_subject") (g6 p d t j g n) = some j := by
  have h1 : (Str.ofString "_subject" == Str.ofString "_person") = false := by decide +kernel
  have h2 : (Str.ofString "_subject" == Str.ofString "_days") = false := by decide +kernel
  have h3 : (Str.ofString "_subject" == Str.ofString "_text") = false := by decide +kernel
  simp [List.lookup, h1, h2, h3]
theorem ll5 {p d t j g n : V} : List.lookup (Str.ofString "_tags") (g6 p d t j g n) = some g := by
  have h1 : (Str.ofString "_tags" == Str.ofString "_person") = false := by decide +kernel
  have h2 : (Str.ofString "_tags" == Str.ofString "_days") = false := by decide +kernel
  have h3 : (Str.ofString "_tags" == Str.ofString "_text") = false := by decide +kernel
  have h4 : (Str.ofString "_tags" == Str.ofString "_subject") = false := by decide +kernel
  simp [List.lookup, h1, h2, h3, h4]
theorem ll6 {p d t j g n : V} : List.lookup (Str.ofString "_times") (g6 p d t j g n) = some n := by
  have h1 : (Str.ofString "_times" == Str.ofString "_person") = false := by decide +kernel
  have h2 : (Str.ofString "_times" == Str.ofString "_days") = false := by decide +kernel
  have h3 : (Str.ofString "_times" == Str.ofString "_text") = false := by decide +kernel
  have h4 : (Str.ofString "_times" == Str.ofString "_subject") = false := by decide +kernel
  have h5 : (Str.ofString "_times" == Str.ofString "_tags") = false := by decide +kernel
  simp [List.lookup, h1, h2, h3, h4, h5]
theorem lk3 {p d t n c : V} : List.lookup (Str.ofString "_text") (f5 p d t n c) = some t := by
  have h1 : (Str.ofString "_text" == Str.ofString "_person") = false := by decide +kernel
  have h2 : (Str.ofString "_text" == Str.ofString "_days") = false := by decide +kernel
  simp [List.lookup, h1, h2]
theorem chain_lay {ws : List Str} (h : isChainD (chD ws) 4 = true) : (chD ws).canLay0 = true ∧ (chD ws).depth ≤ 1 := by
  refine ⟨by simp only [chD, PyData.canLay0, layStrs ws (words_strOk h)], ?_⟩
  simp only [chD, PyData.depth, depStrs]
  omega
theorem rows_lay : ∀ {wss : List (List Str)}, (∀ ws ∈ wss, isChainD (chD ws) 4 = true) → PyData.canLayAll0 (wss.map chD) = true ∧ PyData.depthAll (wss.map chD) ≤ 1
  | [], _ => by simp [PyData.canLayAll0, PyData.depthAll]
  | w :: r, h => by
    obtain ⟨a, b⟩ := chain_lay (h w List.mem_cons_self)
    obtain ⟨c, d⟩ := rows_lay fun ws hw => h ws (List.mem_cons_of_mem _ hw)
    simp only [List.map_cons, PyData.canLayAll0, PyData.depthAll, a, c, Bool.and_self, true_and]
    omega
theorem subj_lay {d : PyData} (h : subjD d = true) : d.canLay0 = true ∧ d.depth ≤ 3 := by
  rcases subj_cases h with ⟨ws, rfl, c⟩ | ⟨m, wss, rfl, _, _, _, ch, _⟩
  · obtain ⟨a, b⟩ := chain_lay c
    exact ⟨a, by omega⟩
  · obtain ⟨a, b⟩ := rows_lay ch
    refine ⟨by simp only [PyData.canLay0, PyData.canLayAll0, a, Bool.and_self], ?_⟩
    simp only [PyData.depth, PyData.depthAll]
    omega
theorem subj_shaped {d : PyData} (h : subjD d = true) : SeqAt.shaped d = true := by
  rcases subj_cases h with ⟨ws, rfl, c⟩ | ⟨m, wss, rfl, _, _, _, ch, _⟩
  · exact shapedTup _ (words_strOk c)
  · obtain ⟨a, b⟩ := subj_lay h
    simp only [SeqAt.shaped, a, Bool.true_and, decide_eq_true_eq]
    omega
def eqvL (p p2 : Str) (dj dj2 : PyData) (g h g2 h2 i j i2 j2 : Int) (t t2 : Option Int) : Bool := decide (p = p2) && (PyData.eqv dj dj2 && (decide (g = g2 ∧ h = h2) && (decide (i = i2 ∧ j = j2) && decide (t = t2))))
/-- Leave's == -/
def spEqL (K : PySem.W.Frag) (C : Addr) : Sp := fun vs H Q _ => ∃ (a : Addr) (y : V) (p : Str) (dj : PyData) (g h i j : Int) (t : Option Int), vs = [.ref a, y] ∧ MadeAt K H C C a (.lea p dj g h i j t) ∧ subjD dj = true ∧
  ((∃ (b : Addr) (p2 : Str) (dj2 : PyData) (g2 h2 i2 j2 : Int) (t2 : Option Int), y = .ref b ∧ MadeAt K H C C b (.lea p2 dj2 g2 h2 i2 j2 t2) ∧ subjD dj2 = true ∧ Q (.bl (eqvL p p2 dj dj2 g h g2 h2 i j i2 j2 t t2)) H) ∨ ∃ tb, TyX K H y tb ∧ PySem.W.kitOne K tb (.ref C) = some false ∧ Q (.bl false) H)
section
variable {P : Program} {w : World} {K : PySem.W.Frag} {mg : Str → Option Value} {base : Heap} {C : Addr}
theorem scHS : FnScope ["self"] ["self"] (defScope sSubject) := ⟨rfl, rfl, rfl, by decide +kernel, rfl, by decide +kernel, by decide +kernel⟩
theorem scHG : FnScope ["self"] ["self"] (defScope sTags) := ⟨rfl, rfl, rfl, by decide +kernel, rfl, by decide +kernel, by decide +kernel⟩
theorem scHN : FnScope ["self"] ["self"] (defScope sTimes) := ⟨rfl, rfl, rfl, by decide +kernel, rfl, by decide +kernel, by decide +kernel⟩
theorem scEqL : FnScope ["self", "other"] ["self", "other"] (defScope sEqL) := ⟨rfl, rfl, rfl, by decide +kernel, rfl, by decide +kernel, by decide +kernel⟩
theorem ok_hP {f : Addr} {fd : FuncData} (F : Fun K "person" "Statement.person" sPerson f fd) (c : Cls K C) (n : NoAttr K C "_person") : FnOk P w K mg base CX0 1 f fd ["self"] (spGet C "_person") := by
  refine F.ok scGP (fun vs H Q E h => ?_) (fun cdv A outer s H vs Q E hr h => ?_)
  · obtain ⟨a, dx, fs, v, rfl, _⟩ := h
    rfl
  · obtain ⟨a, dx, fs, v, rfl, ea, l, k⟩ := h
    exact ⟨_, pss_one (ps_ret (pe_fld (pv 0) rfl)), ⟨_, rfl, a, C, dx, fs, v, rfl, ea, c, n, l, k⟩⟩
theorem ok_hD {f : Addr} {fd : FuncData} (F : Fun K "days" "Statement.days" sDays f fd) (c : Cls K C) (n : NoAttr K C "_days") : FnOk P w K mg base CX0 1 f fd ["self"] (spGet C "_days") := by
  refine F.ok scGD (fun vs H Q E h => ?_) (fun cdv A outer s H vs Q E hr h => ?_)
  · obtain ⟨a, dx, fs, v, rfl, _⟩ := h
    rfl
  · obtain ⟨a, dx, fs, v, rfl, ea, l, k⟩ := h
    exact ⟨_, pss_one (ps_ret (pe_fld (pv 0) rfl)), ⟨_, rfl, a, C, dx, fs, v, rfl, ea, c, n, l, k⟩⟩
theorem ok_hS {f : Addr} {fd : FuncData} (F : Fun K "subject" "Leave.subject" sSubject f fd) (c : LeaC K C) : FnOk P w K mg base CX0 1 f fd ["self"] (spGet C "_subject") := by
  refine F.ok scHS (fun vs H Q E h => ?_) (fun cdv A outer s H vs Q E hr h => ?_)
  · obtain ⟨a, dx, fs, v, rfl, _⟩ := h
    rfl
  · obtain ⟨a, dx, fs, v, rfl, ea, l, k⟩ := h
    exact ⟨_, pss_one (ps_ret (pe_fld (pv 0) rfl)), ⟨_, rfl, a, C, dx, fs, v, rfl, ea, c.cl, c.n4, l, k⟩⟩
theorem ok_hG {f : Addr} {fd : FuncData} (F : Fun K "tags" "Leave.tags" sTags f fd) (c : LeaC K C) : FnOk P w K mg base CX0 1 f fd ["self"] (spGet C "_tags") := by
  refine F.ok scHG (fun vs H Q E h => ?_) (fun cdv A outer s H vs Q E hr h => ?_)
  · obtain ⟨a, dx, fs, v, rfl, _⟩ := h
    rfl
  · obtain ⟨a, dx, fs, v, rfl, ea, l, k⟩ := h
    exact ⟨_, pss_one (ps_ret (pe_fld (pv 0) rfl)), ⟨_, rfl, a, C, dx, fs, v, rfl, ea, c.cl, c.n5, l, k⟩⟩
theorem ok_hN {f : Addr} {fd : FuncData} (F : Fun K "times" "Leave.times" sTimes f fd) (c : LeaC K C) : FnOk P w K mg base CX0 1 f fd ["self"] (spGet C "_times") := by
  refine F.ok scHN (fun vs H Q E h => ?_) (fun cdv A outer s H vs Q E hr h => ?_)
  · obtain ⟨a, dx, fs, v, rfl, _⟩ := h
    rfl
  · obtain ⟨a, dx, fs, v, rfl, ea, l, k⟩ := h
    exact ⟨_, pss_one (ps_ret (pe_fld (pv 0) rfl)), ⟨_, rfl, a, C, dx, fs, v, rfl, ea, c.cl, c.n6, l, k⟩⟩
variable {pP gP pD gD pS gS pG gG pN gN : Addr} {dP dD dS dG dN : FuncData}
theorem ok_eqL {f : Addr} {fd : FuncData} (F : Fun K "__eq__" "Leave.__eq__" sEqL f fd) (is : mg "isinstance" = none) (gLe : mg "Leave" = some (.ref C)) (c : LeaC K C) (k : InsK K C)
    (rP : Pr P w K mg base C "person" "_person" pP gP dP) (rD : Pr P w K mg base C "days" "_days" pD gD dD) (rS : Pr P w K mg base C "subject" "_subject" pS gS dS) (rG : Pr P w K mg base C "tags" "_tags" pG gG dG) (rN : Pr P w K mg base C "times" "_times" pN gN dN) :
    FnOk P w K mg base CX0 3 f fd ["self", "other"] (spEqL K C) := by
  refine F.ok scEqL (fun vs H Q E h => ?_) (fun cdv A outer s H vs Q E hr h => ?_)
  · obtain ⟨a, y, p, dj, g, h, i, j, t, rfl, _⟩ := h
    rfl
  · obtain ⟨a, y, p, dj, g, h, i, j, t, rfl, N, ok, q⟩ := h
    have hu := hr.units
    refine ⟨_, pss_one (ps_ret (pe_and (pe_callB call_isi (by rfl) is (by decide +kernel) (pa_cons (pv 1) (pa_cons (pe_glob (v := .ref C) (by rfl) gLe rfl) pa_nil)))
      (pe_and (pe_cmpR op_eq (pe_prop (pv 0) c.cl rP.of rP.ok hr rP.b .nil pass0 rfl) (pe_prop (pv 1) c.cl rP.of rP.ok hr rP.b .nil pass0 rfl) (nomark _))
      (pe_and (pe_cmpR (op_eqD hu) (pe_prop (pv 0) c.cl rS.of rS.ok hr rS.b .nil pass0 rfl) (pe_prop (pv 1) c.cl rS.of rS.ok hr rS.b .nil pass0 rfl) (nomark _))
      (pe_and (pe_cmpR (op_eqD hu) (pe_prop (pv 0) c.cl rG.of rG.ok hr rG.b .nil pass0 rfl) (pe_prop (pv 1) c.cl rG.of rG.ok hr rG.b .nil pass0 rfl) (nomark _))
      (pe_and (pe_cmpR (op_eqD hu) (pe_prop (pv 0) c.cl rD.of rD.ok hr rD.b .nil pass0 rfl) (pe_prop (pv 1) c.cl rD.of rD.ok hr rD.b .nil pass0 rfl) (nomark _))
      (pe_one (pe_cmpR op_eq (pe_prop (pv 0) c.cl rN.of rN.ok hr rN.b .nil pass0 rfl) (pe_prop (pv 1) c.cl rN.of rN.ok hr rN.b .nil pass0 rfl) (nomark _))))))))), ?_⟩
    rcases q with ⟨b, p2, dj2, g2, h2, i2, j2, t2, rfl, N2, ok2, q⟩ | ⟨tb, ty, kf, q⟩
    · obtain ⟨dx, aq, ag, vj, a1, a2, a3, a4⟩ := N
      obtain ⟨dx2, aq2, ag2, vj2, b1, b2, b3, b4⟩ := N2
      have tyb : TyX K H (.ref b) (.ref C) := .base (.ins b1 c.cl k.ha k.hn k.ht k.hm)
      refine ⟨_, rfl, .ref b, .ref C, _, _, true, rfl, .own C, tyb, k.self, _, rfl, iteT ?_⟩
      unfold eqvL at q
      refine ⟨_, rfl, a, dx, _, rfl, a1, a, dx, _, _, rfl, a1, ll1, _, rfl, b, dx2, _, rfl, b1, b, dx2, _, _, rfl, b1, ll1, (show scal (V.str p) (V.str p2) = true from rfl), _, rfl, ?_⟩
      by_cases ep : p = p2
      rotate_left
      · rw [decide_eq_false (show ¬ V.str p = V.str p2 from fun z => ep (V.str.inj z))]
        rw [decide_eq_false ep, Bool.false_and] at q
        exact iteF q
      rw [decide_eq_true (show V.str p = V.str p2 by rw [ep])]
      rw [decide_eq_true ep, Bool.true_and] at q
      refine iteT ⟨_, rfl, a, dx, _, rfl, a1, a, dx, _, _, rfl, a1, ll4, _, rfl, b, dx2, _, rfl, b1, b, dx2, _, _, rfl, b1, ll4, _, _, a2.dp (subj_tupD ok), b2.dp (subj_tupD ok2), subj_shaped ok, subj_shaped ok2, _, rfl, ?_⟩
      cases ej : PyData.eqv dj dj2 with
      | false =>
        rw [ej, Bool.false_and] at q
        exact iteF q
      | true =>
      rw [ej, Bool.true_and] at q
      refine iteT ⟨_, rfl, a, dx, _, rfl, a1, a, dx, _, _, rfl, a1, ll5, _, rfl, b, dx2, _, rfl, b1, b, dx2, _, _, rfl, b1, ll5, _, _, dpPair a3, dpPair b3, shapedPair _ _, shapedPair _ _, _, rfl, ?_⟩
      rw [eqvPair]
      cases eg : decide (g = g2 ∧ h = h2) with
      | false =>
        rw [eg, Bool.false_and] at q
        exact iteF q
      | true =>
      rw [eg, Bool.true_and] at q
      refine iteT ⟨_, rfl, a, dx, _, rfl, a1, a, dx, _, _, rfl, a1, ll2, _, rfl, b, dx2, _, rfl, b1, b, dx2, _, _, rfl, b1, ll2, _, _, dpPair a4, dpPair b4, shapedPair _ _, shapedPair _ _, _, rfl, ?_⟩
      rw [eqvPair]
      cases ed : decide (i = i2 ∧ j = j2) with
      | false =>
        rw [ed, Bool.false_and] at q
        exact iteF q
      | true =>
      rw [ed, Bool.true_and] at q
      have sc : scal (timesV t) (timesV t2) = true := by cases t <;> cases t2 <;> rfl
      refine iteT ⟨_, rfl, a, dx, _, rfl, a1, a, dx, _, _, rfl, a1, ll6, _, rfl, b, dx2, _, rfl, b1, b, dx2, _, _, rfl, b1, ll6, sc, ?_⟩
      have e : decide (timesV t = timesV t2) = decide (t = t2) := decide_eq_decide.mpr ⟨fun z => by
        cases t with
        | none => cases t2 with
          | none => rfl
          | some _ => cases z
        | some x => cases t2 with
          | none => cases z
          | some x2 => rw [V.int.inj z], fun z => by rw [z]⟩
      rw [e]
      exact q
    · exact ⟨_, rfl, y, .ref C, _, _, false, rfl, .own C, ty, kf, _, rfl, iteF q⟩
end
end LW

/-! Chains unlike those before. -/
namespace LW
open PySem L2 G TL
def WordsAt (ps ws : List Str) (k : Nat) : Prop := ∀ i x, ws[i]? = some x → ps[k + i]? = some x ∧ isWordD (.str x) = true
def spUnl (K : PySem.W.Frag) (C : Addr) : Sp := fun vs H Q _ => ∃ (r L Le : Addr) (ps ws : List Str) (k : Nat) (es : List Addr) (wss : List (List Str)), vs = [.ref r, .ref Le] ∧ RdAt H C r L ps k ∧ H Le = some (.lst (es.map V.ref)) ∧ ChainsAt K H es wss ∧ wss.length ≤ 8 ∧ (∀ vs ∈ wss, isChainD (chD vs) 4 = true) ∧ isChainD (chD ws) 4 = true ∧ ws ∉ wss ∧
  WordsAt ps ws k ∧ (ws.length = 5 ∨ nextWord ps (k + ws.length) = false) ∧ ∀ c H', SqT K H' c (ws.map V.str) → RdAt H' C r L ps (k + ws.length) → Old r H H' → Q (.ref c) H'
theorem dp_chain {K : PySem.W.Frag} {H : Hp} {c : Addr} {ws : List Str} (h : SqT K H c (ws.map V.str)) : Dp K H (.ref c) (chD ws) := dpTup h
theorem dp_chainsU {K : PySem.W.Frag} {H : Hp} : ∀ {es : List Addr} {wss : List (List Str)}, ChainsAt K H es wss → DpAll K H (es.map V.ref) (wss.map chD)
  | [], [], _ => .nil
  | [], _ :: _, h => by have := h.1; simp at this
  | _ :: _, [], h => by have := h.1; simp at this
  | e :: es, ws :: wss, h => .cons (dp_chain (h.2 0 e ws rfl rfl)) (dp_chainsU ⟨by have := h.1; simpa using this, fun i a vs ha hv => h.2 (i + 1) a vs (by simpa using ha) (by simpa using hv)⟩)
theorem sqT_old {K : PySem.W.Frag} {H H' : Hp} {r a C dx : Addr} {fs : List (Str × V)} {xs : List V} (h : SqT K H a xs) (hr : H r = some (.ins C dx fs)) (o : Old r H H') : SqT K H' a xs := by
  rcases h with (h | ⟨b, h⟩) | h
  · exact .inl (.inl (o _ _ h fun z => by rw [z, hr] at h; cases h))
  · exact .inl (.inr ⟨b, o _ _ h fun z => by rw [z, hr] at h; cases h⟩)
  · exact .inr h
theorem no_chain {wss : List (List Str)} {ws : List Str} (h : ws ∉ wss) : ((wss.map chD).any fun z => PyData.eqv z (chD ws)) = false := by
  rw [List.any_eq_false]
  intro z hz
  obtain ⟨vs, hv, rfl⟩ := List.mem_map.mp hz
  rw [eqv_chain, decide_eq_true_iff]
  exact fun e => h (e ▸ hv)
theorem shaped_chains {wss : List (List Str)} (h : ∀ vs ∈ wss, isChainD (chD vs) 4 = true) : SeqAt.shaped (.list (wss.map chD)) = true := by
  obtain ⟨a, b⟩ := rows_lay h
  have c : (PyData.list (wss.map chD)).canLay0 = true := by simp only [PyData.canLay0, a]
  have d : (PyData.list (wss.map chD)).depth ≤ 64 := by simp only [PyData.depth]; omega
  simp only [SeqAt.shaped, c, d, decide_true, Bool.and_self]
theorem chain_len {ws : List Str} (h : isChainD (chD ws) 4 = true) : 1 ≤ ws.length ∧ ws.length ≤ 5 := by
  have h2 : (decide (1 ≤ (ws.map PyData.str).length) && decide (((ws.map PyData.str).length : Int) ≤ 4 + 1) && (ws.map PyData.str).all isWordD) = true := h
  simp only [Bool.and_eq_true, decide_eq_true_eq, List.length_map] at h2
  omega
section
variable {P : Program} {w : World} {K : PySem.W.Frag} {mg : Str → Option Value} {base : Heap} {C CE : Addr}
abbrev nmUn : List Str := ["reader", "earlier", "chain", "place"]
theorem scUnl2 : FnScope nmUn ["reader", "earlier"] (defScope pUnl2) := ⟨rfl, rfl, rfl, by decide +kernel, rfl, by decide +kernel, by decide +kernel⟩
theorem ok_unl2 {f : Addr} {fd : FuncData} (F : Fun K "_unlike_chain" "_unlike_chain" pUnl2 f fd) (ln : mg "len" = none) (mM : ∃ t, mg "MAX_NAMES" = some (.int 4 t)) (Z : Rdr P w K mg base C) : FnOk P w K mg base CX0 4 f fd ["reader", "earlier"] (spUnl K C) := by
  obtain ⟨tM, mM⟩ := mM
  obtain ⟨fW, dW, oW, GW, bW⟩ := Z.tw
  obtain ⟨fN, dN, oN, GN, bN⟩ := Z.wn
  have c := Z.c
  refine F.ok scUnl2 (fun vs H Q E h => ?_) (fun cdv A outer s H vs Q E hr h => ?_)
  · obtain ⟨r, L, Le, ps, ws, k, es, wss, rfl, _⟩ := h
    rfl
  · obtain ⟨r, L, Le, ps, ws, k, es, wss, rfl, R, hL, hc, few, okc, okw, nin, hw, stop, kk⟩ := h
    have nd := scUnl2.nd
    have szl : sizeLine = 16777216 := sizeLine_eq
    have hu1 : (A.deeper (PyProof.Rows.envOfC "_unlike_chain" (defScope pUnl2) s.heap.objs.size f cdv)).units + 65 < cLine := by
      have := hr.un
      omega
    obtain ⟨l1, l5⟩ := chain_len okw
    refine ⟨_, pss_cons (ps_set (i := 2) nd rfl (Or.inl rfl) (pe_tup (pa_cons (pe_meth0 (pv 0) c.cl oW GW hr bW .nil pass0) pa_nil)))
      (pss_cons (ps_while PassesOwn.never (PW.pt (pw_and (pt_cmpR op_le (pe_callB call_len (by rfl) ln PySem.boot_len (pa_cons (pv 2) pa_nil)) (pe_glob (v := .int 4) (by rfl) mM ⟨tM, rfl⟩) (nomark _)) (pw_and1 (pt_val (pe_meth0 (pv 0) c.cl oN GN (hr.mono (by decide)) bN .nil pass0)))))
        (pss_cons (ps_set (i := 3) nd rfl (Or.inl rfl) (pe_fld (pv 0) rfl))
        (pss_cons (ps_set (i := 2) nd rfl (Or.inl rfl) (pe_tup (StX.pa_star (pv 2) (pa_cons (pe_meth0 (pv 0) c.cl oW GW hr bW .nil pass0) pa_nil))))
        (pss_one (ps_if (PW.pt (pw_and (pt_cmpR op_gt (pe_callB call_len (by rfl) ln PySem.boot_len (pa_cons (pv 2) pa_nil)) (pe_glob (v := .int 4) (by rfl) mM ⟨tM, rfl⟩) (nomark _)) (pw_and1 (pt_cmpR (op_inD hu1) (pv 2) (pv 1) (by rfl))))) psc_dead pss_nil)))))
      (pss_cons (ps_if (pt_cmpR (op_inD hu1) (pv 2) (pv 1) (by rfl)) psc_dead pss_nil)
      (pss_one (ps_ret (pv 2))))), ?_⟩
    obtain ⟨dx, h1, h2⟩ := id R.at_
    obtain ⟨w0, hw0⟩ : ∃ w0, ws[0]? = some w0 := ⟨ws[0], List.getElem?_eq_getElem (by omega)⟩
    obtain ⟨p0, m0⟩ := hw 0 w0 hw0
    have Ler : Le ≠ r := fun z => by rw [z, h1] at hL; cases hL
    refine ⟨_, rfl, r, dx, _, rfl, h1, rl0 (by decide +kernel) (by decide +kernel), r, L, ps, k, w0, rfl, R, p0, m0, fun H1 R1 o1 => ?_⟩
    refine ⟨by show 1 ≤ sizeLine; omega, fun t0 ht0 => ?_⟩
    have S2 : Same H1 (upd H1 t0 (.tup [V.str w0])) := same_new ht0
    have g0 : SqT K (upd H1 t0 (.tup [V.str w0])) t0 [V.str w0] := SqT.of upd_same
    dsimp only
    generalize upd H1 t0 (.tup [V.str w0]) = H2 at S2 g0 ⊢
    have tk1 : ws.take 1 = [w0] := by
      cases ws with
      | nil => cases hw0
      | cons a b => simp at hw0; subst hw0; rfl
    have same_ch : ∀ {G : Hp}, Old r H G → ChainsAt K G es wss := fun {G} o => ⟨hc.1, fun i a vs ha hv => sqT_old (hc.2 i a vs ha hv) h1 o⟩
    have okws : ∀ j, ∀ z ∈ ws.take j, PyData.strOk z = true := fun j z hz => words_strOk okw z (List.mem_of_mem_take hz)
    refine ⟨fun m σ G => ∃ (j : Nat) (ch : Addr) (u : Option V), 1 ≤ j ∧ j ≤ ws.length ∧ m = ws.length - j ∧ σ = [some (.ref r), some (.ref Le), some (.ref ch), u] ∧ SqT K G ch ((ws.take j).map V.str) ∧ RdAt G C r L ps (k + j) ∧ Old r H G,
      ⟨_, 1, t0, _, Nat.le_refl _, l1, rfl, rfl, by rw [tk1]; exact g0, R1.same S2, Old.trans o1 (Same.old S2)⟩, fun m σ G hW => ?_⟩
    obtain ⟨j, ch, u, j1, jw, rfl, rfl, g, RG, o⟩ := hW
    have lt : (ws.take j).length = j := by rw [List.length_take]; omega
    obtain ⟨dxg, hg1, hg2⟩ := id RG.at_
    refine ⟨_, rfl, .ref ch, j, rfl, .inr ⟨_, g, by rw [List.length_map, lt]⟩, _, _, rfl, rfl, _, rfl, ?_⟩
    have inq : ∀ (G' : Hp) (j' : Nat) (ch' : Addr) (Q' : VK), j' ≤ ws.length → Old r H G' → SqT K G' ch' ((ws.take j').map V.str) → (j' = ws.length → Q' (.bl false) G') → (j' = ws.length) → rInD K (.ref ch') (.ref Le) G' Q' := by
      intro G' j' ch' Q' _ o' g' q' e
      subst e
      rw [List.take_of_length_le (Nat.le_refl _)] at g'
      refine ⟨chD ws, wss.map chD, dp_chain g', .lst (SqL.of (o' _ _ hL Ler)) (dp_chainsU (same_ch o')), shapedTup _ (words_strOk okw), shaped_chains okc, ?_⟩
      rw [no_chain nin]
      exact q' rfl
    have ret : ∀ (G' : Hp) (ch' : Addr) (u' : Option V), Old r H G' → SqT K G' ch' (ws.map V.str) → RdAt G' C r L ps (k + ws.length) → tSeq (tIfS (tTest (tOp (rInD K) (tVar 2) (tVar 1))) (fun _ _ _ => False) tNext) (tRet (tVar 2)) { nx := fun x H' => Q V.non H', rt := Q } [some (.ref r), some (.ref Le), some (.ref ch'), u'] G' := by
      intro G' ch' u' o' g' R'
      refine ⟨_, rfl, _, rfl, inq G' ws.length ch' _ (Nat.le_refl _) o' (by rw [List.take_of_length_le (Nat.le_refl _)]; exact g') (fun _ => ?_) rfl⟩
      refine ⟨_, rfl, iteF ?_⟩
      exact ⟨_, rfl, kk ch' G' g' R' o'⟩
    have Lw : ∀ (G' : Hp), Same G G' → SqT K G' ch ((ws.take j).map V.str) := fun G' S' => sqT_same S' g
    by_cases l4 : j ≤ 4
    rotate_left
    · refine (?_ : if decide (((j : Nat) : Int) ≤ 4) = true then _ else _)
      rw [decide_eq_false (by omega : ¬ ((j : Nat) : Int) ≤ 4)]
      have e : j = ws.length := by omega
      refine iteF (iteF (ret G ch u o ?_ ?_))
      · rw [e, List.take_of_length_le (Nat.le_refl _)] at g
        exact g
      · rw [← e]
        exact RG
    · refine (?_ : if decide (((j : Nat) : Int) ≤ 4) = true then _ else _)
      rw [decide_eq_true (by omega : ((j : Nat) : Int) ≤ 4)]
      refine iteT ?_
      refine ⟨_, rfl, r, dxg, _, rfl, hg1, rl0 (by decide +kernel) (by decide +kernel), r, L, ps, k + j, rfl, RG, fun G' S' => ?_⟩
      have o' := Old.trans o (Same.old (p := r) S')
      by_cases jl : j = ws.length
      · have nw : nextWord ps (k + j) = false := by
          rcases stop with z | z
          · omega
          · rw [jl]; exact z
        rw [nw]
        refine ⟨_, rfl, iteF (ret G' ch u o' ?_ ?_)⟩
        · have := Lw G' S'
          rw [jl, List.take_of_length_le (Nat.le_refl _)] at this
          exact this
        · rw [← jl]
          exact RG.same S'
      · obtain ⟨x, hx⟩ : ∃ x, ws[j]? = some x := ⟨ws[j], List.getElem?_eq_getElem (by omega)⟩
        obtain ⟨px, mx⟩ := hw j x hx
        rw [nextWord_yes px mx]
        refine ⟨_, rfl, iteT ?_⟩
        refine ⟨fun σ' G2 => ∃ m', m' < ws.length - j ∧ ∃ (j' : Nat) (ch : Addr) (u : Option V), 1 ≤ j' ∧ j' ≤ ws.length ∧ m' = ws.length - j' ∧ σ' = [some (.ref r), some (.ref Le), some (.ref ch), u] ∧ SqT K G2 ch ((ws.take j').map V.str) ∧ RdAt G2 C r L ps (k + j') ∧ Old r H G2, fun σ' G2 h => h, ?_⟩
        refine ⟨_, rfl, r, C, dxg, _, _, rfl, S' _ _ hg1, c.cl, c.n2, rl2, ?_⟩
        refine setIt ?_
        dsimp only
        refine ⟨_, rfl, ch, _, rfl, .inl (Lw G' S'), _, rfl, r, dxg, _, rfl, S' _ _ hg1, rl0 (by decide +kernel) (by decide +kernel), r, L, ps, k + j, x, rfl, RG.same S', px, mx, fun G2 R2 o2 => ?_⟩
        refine ⟨by rw [List.length_append, List.length_map, lt, szl]; simp; omega, fun t hT => ?_⟩
        have e1 : (ws.take j).map V.str ++ [V.str x] = (ws.take (j + 1)).map V.str := by
          rw [List.take_add_one, hx, List.map_append]
          rfl
        have S3 : Same G2 (upd G2 t (.tup ((ws.take j).map V.str ++ [V.str x]))) := same_new hT
        have g3 : SqT K (upd G2 t (.tup ((ws.take j).map V.str ++ [V.str x]))) t ((ws.take (j + 1)).map V.str) := by rw [← e1]; exact SqT.of upd_same
        refine setIt ?_
        dsimp only
        show _
        generalize upd G2 t (.tup ((ws.take j).map V.str ++ [V.str x])) = G3 at S3 g3 ⊢
        have o3 := Old.trans o' (Old.trans o2 (Same.old S3))
        have lt3 : (ws.take (j + 1)).length = j + 1 := by rw [List.length_take]; omega
        have done : ∃ m', m' < ws.length - j ∧ ∃ (j' : Nat) (ch : Addr) (u : Option V), 1 ≤ j' ∧ j' ≤ ws.length ∧ m' = ws.length - j' ∧ [some (.ref r), some (.ref Le), some (.ref t), some (V.int ((k + j : Nat) : Int))] = [some (.ref r), some (.ref Le), some (.ref ch), u] ∧ SqT K G3 ch ((ws.take j').map V.str) ∧ RdAt G3 C r L ps (k + j') ∧ Old r H G3 :=
          ⟨ws.length - (j + 1), by omega, j + 1, t, _, by omega, by omega, rfl, rfl, g3, R2.same S3, o3⟩
        refine ⟨_, rfl, .ref t, j + 1, rfl, .inr ⟨_, g3, by rw [List.length_map, lt3]⟩, _, _, rfl, rfl, _, rfl, ?_⟩
        by_cases l5' : j + 1 = 5
        · refine (?_ : if decide ((4 : Int) < ((j + 1 : Nat) : Int)) = true then _ else _)
          rw [decide_eq_true (by omega : (4 : Int) < ((j + 1 : Nat) : Int))]
          refine iteT ?_
          refine ⟨_, rfl, _, rfl, inq G3 (j + 1) t _ (by omega) o3 g3 (fun _ => ?_) (by omega)⟩
          exact ⟨_, rfl, iteF done⟩
        · refine (?_ : if decide ((4 : Int) < ((j + 1 : Nat) : Int)) = true then _ else _)
          rw [decide_eq_false (by omega : ¬ (4 : Int) < ((j + 1 : Nat) : Int))]
          exact iteF (iteF done)
end
end LW

/-! Shares are read. -/
namespace LW
open PySem L2 G TL
abbrev pShareR : Stmt := top 45
/-- the pieces from k on begin with l -/
def Seg (ps : List Str) (k : Nat) (l : List Str) : Prop := ∀ i x, l[i]? = some x → ps[k + i]? = some x
theorem Seg.left {ps : List Str} {k : Nat} {a b : List Str} (h : Seg ps k (a ++ b)) : Seg ps k a := fun i x hx => h i x (by rw [List.getElem?_append_left (List.getElem?_eq_some_iff.mp hx).1]; exact hx)
theorem Seg.right {ps : List Str} {k : Nat} {a b : List Str} (h : Seg ps k (a ++ b)) : Seg ps (k + a.length) b := fun i x hx => by
  have := h (a.length + i) x (by rw [List.getElem?_append_right (by omega), Nat.add_sub_cancel_left]; exact hx)
  rw [Nat.add_assoc]
  exact this
theorem Seg.head {ps : List Str} {k : Nat} {a : Str} {l : List Str} (h : Seg ps k (a :: l)) : ps[k]? = some a := h 0 a rfl
theorem Seg.tail {ps : List Str} {k : Nat} {a : Str} {l : List Str} (h : Seg ps k (a :: l)) : Seg ps (k + 1) l := fun i x hx => by
  have := h (i + 1) x (by simpa using hx)
  rw [show k + 1 + i = k + (i + 1) by omega]
  exact this
theorem chain_words {ws : List Str} (h : isChainD (chD ws) 4 = true) : ∀ z ∈ ws, isWordD (.str z) = true := fun z hz => by
  have h2 : (decide (1 ≤ (ws.map PyData.str).length) && decide (((ws.map PyData.str).length : Int) ≤ 4 + 1) && (ws.map PyData.str).all isWordD) = true := h
  simp only [Bool.and_eq_true] at h2
  exact List.all_eq_true.mp h2.2 _ (List.mem_map.mpr ⟨z, hz, rfl⟩)
theorem Seg.words {ps : List Str} {k : Nat} {ws : List Str} (h : Seg ps k ws) (c : isChainD (chD ws) 4 = true) : WordsAt ps ws k := fun i x hx => ⟨h i x hx, chain_words c x (List.mem_of_getElem? hx)⟩
theorem sl_word : isWordD (.str (Str.ofString "/")) = false := by decide +kernel
theorem rows_app (a b : List (List Str)) : rowsPc (a ++ b) = rowsPc a ++ rowsPc b := by simp [rowsPc]
def shareOf (m : Int) (wss : List (List Str)) : PyData := .tuple [.int m, .tuple (wss.map chD)]
def spShareR (K : PySem.W.Frag) (C : Addr) : Sp := fun vs H Q _ => ∃ (r L : Addr) (ps : List Str) (k m : Nat) (wss : List (List Str)), vs = [.ref r] ∧ RdAt H C r L ps k ∧ Seg ps k (numS (m : Int) :: rowsPc wss) ∧ 1 ≤ m ∧ m ≤ wss.length ∧ wss.length ≤ 4 ∧ (∀ vs ∈ wss, isChainD (chD vs) 4 = true) ∧ wss.Nodup ∧
  (∀ x, ps[k + 1 + (rowsPc wss).length]? = some x → x ≠ Str.ofString "/" ∧ isWordD (.str x) = false) ∧
  ∀ q H', Da K H' (.ref q) (shareOf (m : Int) wss) → RdAt H' C r L ps (k + 1 + (rowsPc wss).length) → Old r H H' → Q (.ref q) H'
theorem da_chainsU {K : PySem.W.Frag} {H : Hp} : ∀ {es : List Addr} {wss : List (List Str)}, ChainsAt K H es wss → DaAll K H (es.map V.ref) (wss.map chD)
  | [], [], _ => .nil
  | [], _ :: _, h => by have := h.1; simp at this
  | _ :: _, [], h => by have := h.1; simp at this
  | e :: es, ws :: wss, h => .cons (.tup (h.2 0 e ws rfl rfl) (daStrs ws)) (da_chainsU ⟨by have := h.1; simpa using this, fun i a vs ha hv => h.2 (i + 1) a vs (by simpa using ha) (by simpa using hv)⟩)
theorem ChainsAt.snoc {K : PySem.W.Frag} {H : Hp} {es : List Addr} {wss : List (List Str)} {e : Addr} {ws : List Str} (h : ChainsAt K H es wss) (g : SqT K H e (ws.map V.str)) : ChainsAt K H (es ++ [e]) (wss ++ [ws]) := by
  refine ⟨by rw [List.length_append, List.length_append, h.1]; rfl, fun i a vs ha hv => ?_⟩
  rcases Nat.lt_or_ge i es.length with lt | ge
  · rw [List.getElem?_append_left lt] at ha
    rw [List.getElem?_append_left (by rw [← h.1]; exact lt)] at hv
    exact h.2 i a vs ha hv
  · rw [List.getElem?_append_right ge] at ha
    rw [List.getElem?_append_right (by rw [← h.1]; exact ge)] at hv
    have i0 : i - es.length = 0 := by
      have := (List.getElem?_eq_some_iff.mp ha).1
      simp at this
      omega
    have i1 : i - wss.length = 0 := by rw [← h.1]; exact i0
    rw [i0] at ha
    rw [i1] at hv
    cases ha
    cases hv
    exact g
section
variable {P : Program} {w : World} {K : PySem.W.Frag} {mg : Str → Option Value} {base : Heap} {C CE : Addr} {fU : Addr} {dU : FuncData}
theorem scShareR : FnScope ["reader", "many", "chains"] ["reader"] (defScope pShareR) := ⟨rfl, rfl, rfl, by decide +kernel, rfl, by decide +kernel, by decide +kernel⟩
def nth (l : List Stmt) (i : Nat) : Stmt := l.getD i (.Pass ⟨0, 0, 0, 0⟩)
def whBody : Stmt → List Stmt
  | .While _ b _ _ => b
  | _ => []
def ifBody : Stmt → List Stmt
  | .If _ b _ _ => b
  | _ => []
def ifElse : Stmt → List Stmt
  | .If _ _ b _ => b
  | _ => []
def forBody : Stmt → List Stmt
  | .For _ _ b _ _ => b
  | _ => []
abbrev nmSh : List Str := ["reader", "many", "chains"]
abbrev XSh (P : Program) (w : World) (K : PySem.W.Frag) (mg : Str → Option Value) (base : Heap) (f : Addr) (cdv : Value) (A : Around) (outer : List Env) (s : Shared) (H : Hp) (E : XK) : Cx :=
  (cxOf CX0 P w K mg base nmSh "_share" (defScope pShareR) f cdv A outer s H E).nox
/-- one row of a share -/
theorem share_body {f : Addr} {cdv : Value} {A : Around} {outer : List Env} {s : Shared} {HS : Hp} {E : XK} (hr : Room 4 (XSh P w K mg base f cdv A outer s HS E).A) (ln : mg "len" = none) (mM : ∃ t, mg "MAX_CHAINS" = some (.int 4 t)) (Z : Rdr P w K mg base C)
    (GU : FnOk P w K mg base CX0 4 fU dU ["reader", "earlier"] (spUnl K C)) (mU : mg "_unlike_chain" = some (.ref fU)) (kU : PySem.W.keepIn K (.ref fU) = true) (bU : Binds K dU ["reader", "earlier"] []) :
    ∃ t, PSs (XSh P w K mg base f cdv A outer s HS E) (whBody (nth (defBody pShareR) 2)) t ∧ ∀ (D : Ends) (G : Hp) (r L Lc : Addr) (ps ws : List Str) (k : Nat) (m : Int) (wss : List (List Str)) (es : List Addr), RdAt G C r L ps k → G Lc = some (.lst (es.map V.ref)) → ChainsAt K G es wss → wss.length < 4 → (∀ vs ∈ wss, isChainD (chD vs) 4 = true) → isChainD (chD ws) 4 = true → ws ∉ wss →
      Seg ps k (Str.ofString "/" :: ws) → nextWord ps (k + 1 + ws.length) = false → L ≠ Lc →
      (∀ (e : Addr) (G' : Hp), RdAt G' C r L ps (k + 1 + ws.length) → G' Lc = some (.lst ((es ++ [e]).map V.ref)) → ChainsAt K G' (es ++ [e]) (wss ++ [ws]) → (∀ b o, G b = some o → b ≠ r → b ≠ Lc → G' b = some o) → D.nx [some (.ref r), some (.int m), some (.ref Lc)] G') →
      t D [some (.ref r), some (.int m), some (.ref Lc)] G := by
  obtain ⟨tM, mM⟩ := mM
  obtain ⟨fS, oS, GS⟩ := Z.ts
  have c := Z.c
  have szl : sizeLine = 16777216 := sizeLine_eq
  refine ⟨_, pss_cons (ps_if (pt_cmpR op_eq (pe_callB call_len (by rfl) ln PySem.boot_len (pa_cons (pv 2) pa_nil)) (pe_glob (v := .int 4) (by rfl) mM ⟨tM, rfl⟩) (nomark _)) psc_dead pss_nil)
        (pss_cons (ps_expr (pe_methR (pv 0) c.cl oS GS (hr.mono (by decide)) pass0 (pa_cons pe_str pa_nil)))
        (pss_one (ps_expr (pe_bm PySem.F.plainAttrs_list PySem.F.slot_list_append PySem.F.type_list_append mt_append (pv 2) (pa_cons (pe_call GU hr (by rfl) mU kU bU .nil pass0 (pa_cons (pv 0) (pa_cons (pv 2) pa_nil))) pa_nil))))), ?_⟩
  intro D G r L Lc ps ws k m wss es RG g hc few okc okw nin sg stop LL kk
  have el := hc.1
  obtain ⟨dxg, hg1, hg2⟩ := id RG.at_
  have Lr : Lc ≠ r := fun z => by rw [z, hg1] at g; cases g
  refine ⟨_, rfl, .ref Lc, es.length, rfl, .inl ⟨_, SqL.of g, (List.length_map ..).symm⟩, rfl, _, rfl, ?_⟩
  have e4 : decide (V.int ((es.length : Nat) : Int) = V.int 4) = false := decide_eq_false fun z => by have := V.int.inj z; omega
  rw [e4]
  refine iteF ?_
  unfold tNext
  dsimp only
  refine ⟨_, rfl, r, dxg, _, rfl, hg1, rl0 (by decide +kernel) (by decide +kernel), takeS RG sg.head fun H2 R2 o2 => ?_⟩
  have g2 := o2 _ _ g Lr
  have hc2 : ChainsAt K H2 es wss := ⟨hc.1, fun i a vs ha hv => sqT_old (hc.2 i a vs ha hv) hg1 o2⟩
  refine ⟨_, rfl, .inl ⟨rfl, _, SqL.of g2⟩, _, rfl, _, rfl, r, L, Lc, ps, ws, k + 1, es, wss, rfl, R2, g2, hc2, by omega, okc, okw, nin, sg.tail.words okw, .inr stop, fun e H3 he R3 o3 => ?_⟩
  have g3 := o3 _ _ g2 Lr
  obtain ⟨dx2, h21, _⟩ := id R2.at_
  refine ⟨Lc, _, _, rfl, rfl, g3, by rw [List.length_map, szl]; omega, ?_⟩
  obtain ⟨⟨dx3, h31, h32⟩, few3, ok3⟩ := id R3
  have kp : ∀ a (xs : List V), SqT K H3 a xs → SqT K (upd H3 Lc (.lst (es.map V.ref ++ [V.ref e]))) a xs := fun a xs h => by
    rcases h with (h | ⟨b, h⟩) | h
    · exact .inl (.inl (by rw [upd_ne fun z => by rw [z, g3] at h; cases h]; exact h))
    · exact .inl (.inr ⟨b, by rw [upd_ne fun z => by rw [z, g3] at h; cases h]; exact h⟩)
    · exact .inr h
  refine kk e _ ⟨⟨dx3, by rw [upd_ne (Ne.symm Lr)]; exact h31, by rw [upd_ne LL]; exact h32⟩, few3, ok3⟩ (by rw [upd_same, List.map_append]; rfl) ?_ fun b o hb nr nL => by rw [upd_ne nL]; exact o3 _ _ (o2 _ _ hb nr) nr
  have hc3 : ChainsAt K H3 es wss := ⟨hc.1, fun i a vs ha hv => sqT_old (hc2.2 i a vs ha hv) h21 o3⟩
  exact ChainsAt.snoc ⟨hc.1, fun i a vs ha hv => kp _ _ (hc3.2 i a vs ha hv)⟩ (kp _ _ he)
theorem ok_shareR {f : Addr} {fd : FuncData} (F : Fun K "_share" "_share" pShareR f fd) (ln : mg "len" = none) (tu : mg "tuple" = none) (mM : ∃ t, mg "MAX_CHAINS" = some (.int 4 t)) (Z : Rdr P w K mg base C)
    (GU : FnOk P w K mg base CX0 4 fU dU ["reader", "earlier"] (spUnl K C)) (mU : mg "_unlike_chain" = some (.ref fU)) (kU : PySem.W.keepIn K (.ref fU) = true) (bU : Binds K dU ["reader", "earlier"] []) : FnOk P w K mg base CX0 5 f fd ["reader"] (spShareR K C) := by
  obtain ⟨tM, mM⟩ := mM
  obtain ⟨fN, oN, GN⟩ := Z.nx
  obtain ⟨fS, oS, GS⟩ := Z.ts
  obtain ⟨fT, dT, oT, GT, bT⟩ := Z.tn
  have c := Z.c
  refine F.ok scShareR (fun vs H Q E h => ?_) (fun cdv A outer s H vs Q E hr h => ?_)
  · obtain ⟨r, L, ps, k, m, wss, rfl, _⟩ := h
    rfl
  · obtain ⟨r, L, ps, k, m, wss, rfl, R, sg, m1, ml, l4, okc, nodup, stop, kk⟩ := h
    have nd := scShareR.nd
    have szl : sizeLine = 16777216 := sizeLine_eq
    obtain ⟨tb, pb, kb⟩ := share_body (f := f) (cdv := cdv) (A := A) (outer := outer) (s := s) (HS := H) (E := E) (hr.mono (by decide)) ln ⟨tM, mM⟩ Z GU mU kU bU
    refine ⟨_, PSs.nox (pss_cons (ps_set (i := 1) nd rfl (Or.inl rfl) (pe_meth (pv 0) c.cl oT GT (hr.mono (by decide)) bT .nil pass0 (pa_cons pe_int (pa_cons (pe_glob (v := .int 4) (by rfl) mM ⟨tM, rfl⟩) pa_nil))))
      (pss_cons (ps_set (i := 2) nd rfl (Or.inl rfl) (pe_lst pa_nil))
      (pss_cons (ps_while PassesOwn.never (PW.pt (pw_or (pt_not (pt_truth (pv 2) (fun _ => rfl))) (pw_or1 (pt_val (pe_methR (pv 0) c.cl oN.mt GN (hr.mono (by decide)) pass0 (pa_cons pe_str pa_nil)))))) pb)
      (pss_cons (ps_if (pt_cmpR op_lt (pe_callB call_len (by rfl) ln PySem.boot_len (pa_cons (pv 2) pa_nil)) (pv 1) (nomark _)) psc_dead pss_nil)
      (pss_one (ps_ret (pe_tup (pa_cons (pv 1) (pa_cons (pe_callTy call_tuple_of (by rfl) tu (by decide +kernel) (pa_cons (pv 2) pa_nil)) pa_nil))))))))), ?_⟩
    obtain ⟨dx, h1, h2⟩ := id R.at_
    refine ⟨_, rfl, r, dx, _, rfl, h1, rl0 (by decide +kernel) (by decide +kernel), r, L, ps, k, m, 1, 4, rfl, R, sg.head, by omega, by omega, by omega, fun H1 R1 o1 => ?_⟩
    refine setIt ?_
    dsimp only
    refine ⟨by show 0 ≤ sizeLine; omega, fun Lc hL => setIt ?_⟩
    have S2 : Same H1 (upd H1 Lc (.lst [])) := same_new hL
    have g0 : (upd H1 Lc (.lst [])) Lc = some (.lst []) := upd_same
    have LL : L ≠ Lc := fun z => by obtain ⟨dx1, _, g1⟩ := R1.at_; rw [z, hL] at g1; cases g1
    have Lr : Lc ≠ r := fun z => by obtain ⟨dx1, g1, _⟩ := R1.at_; rw [z, g1] at hL; cases hL
    have frees : H Lc = none := by
      cases e : H Lc with
      | none => rfl
      | some u =>
        rw [o1 _ _ e Lr] at hL
        cases hL
    dsimp only
    generalize upd H1 Lc (.lst []) = H2 at S2 g0 ⊢
    refine ⟨fun mm σ G => ∃ (j : Nat) (es : List Addr), j ≤ wss.length ∧ mm = wss.length - j ∧ σ = [some (.ref r), some (.int (m : Nat)), some (.ref Lc)] ∧ G Lc = some (.lst (es.map V.ref)) ∧ ChainsAt K G es (wss.take j) ∧ RdAt G C r L ps (k + 1 + (rowsPc (wss.take j)).length) ∧ Old r H G,
      ⟨_, 0, [], Nat.zero_le _, rfl, rfl, g0, ⟨rfl, fun i a vs ha => by cases ha⟩, R1.same S2, Old.trans o1 (Same.old S2)⟩, fun mm σ G hW => ?_⟩
    obtain ⟨j, es, jl, rfl, rfl, g, hc, RG, o⟩ := hW
    have el : es.length = j := by have := hc.1; rw [List.length_take] at this; omega
    obtain ⟨dxg, hg1, hg2⟩ := id RG.at_
    have sgr := sg.tail
    have facts : ∀ wj, wss[j]? = some wj → isChainD (chD wj) 4 = true ∧ wj ∉ wss.take j ∧ (wss.take j).length < 4 ∧ Seg ps (k + 1 + (rowsPc (wss.take j)).length) (Str.ofString "/" :: wj) ∧ nextWord ps (k + 1 + (rowsPc (wss.take j)).length + 1 + wj.length) = false ∧ rowsPc (wss.take (j + 1)) = rowsPc (wss.take j) ++ Str.ofString "/" :: wj := by
      intro wj hj
      have lj := (List.getElem?_eq_some_iff.mp hj).1
      have dj : wss.drop j = wj :: wss.drop (j + 1) := by
        rw [List.drop_eq_getElem_cons lj]
        exact congrArg (· :: wss.drop (j + 1)) (List.getElem?_eq_some_iff.mp hj).2
      have e : wss = wss.take j ++ wj :: wss.drop (j + 1) := by
        rw [← dj]
        exact (List.take_append_drop j wss).symm
      have er : rowsPc wss = rowsPc (wss.take j) ++ ((Str.ofString "/" :: wj) ++ rowsPc (wss.drop (j + 1))) := by
        have e2 := congrArg rowsPc e
        rw [rows_app] at e2
        exact e2
      have t1 : rowsPc (wss.take (j + 1)) = rowsPc (wss.take j) ++ Str.ofString "/" :: wj := by
        rw [List.take_add_one, hj, rows_app]
        show _ ++ ((Str.ofString "/" :: wj) ++ []) = _
        rw [List.append_nil]
      rw [er] at sgr
      refine ⟨okc wj (List.mem_of_getElem? hj), fun hm => ?_, by rw [List.length_take]; omega, sgr.right.left, ?_, t1⟩
      · rw [e] at nodup
        exact (List.nodup_append.mp nodup).2.2 wj hm wj List.mem_cons_self rfl
      · have sr := sgr.right.right
        have epos : k + 1 + (rowsPc (wss.take j)).length + (Str.ofString "/" :: wj).length = k + 1 + (rowsPc (wss.take j)).length + 1 + wj.length := by rw [List.length_cons]; omega
        rw [epos] at sr
        cases ed : wss.drop (j + 1) with
        | nil =>
          refine nextWord_no fun x hx => (stop x ?_).2
          rw [er, ed, List.length_append, List.length_append, List.length_cons]
          show ps[k + 1 + (_ + (wj.length + 1 + 0))]? = some x
          rw [← hx]
          congr 1
          omega
        | cons v vs =>
          rw [ed] at sr
          have h0 : ps[k + 1 + (rowsPc (wss.take j)).length + 1 + wj.length]? = some (Str.ofString "/") := Seg.head (l := v ++ rowsPc vs) sr
          refine nextWord_no fun x hx => ?_
          rw [h0] at hx
          cases hx
          exact sl_word
    have done : ∀ (e : Addr) (G' G2 : Hp) (wj : List Str), Same G G' → wss[j]? = some wj → RdAt G2 C r L ps (k + 1 + (rowsPc (wss.take j)).length + 1 + wj.length) → G2 Lc = some (.lst ((es ++ [e]).map V.ref)) → ChainsAt K G2 (es ++ [e]) (wss.take j ++ [wj]) → (∀ b o, G' b = some o → b ≠ r → b ≠ Lc → G2 b = some o) →
        ∃ m', m' < wss.length - j ∧ ∃ (j' : Nat) (es : List Addr), j' ≤ wss.length ∧ m' = wss.length - j' ∧ [some (V.ref r), some (.int (m : Nat)), some (.ref Lc)] = [some (.ref r), some (.int (m : Nat)), some (.ref Lc)] ∧ G2 Lc = some (.lst (es.map V.ref)) ∧ ChainsAt K G2 es (wss.take j') ∧ RdAt G2 C r L ps (k + 1 + (rowsPc (wss.take j')).length) ∧ Old r H G2 := by
      intro e G' G2 wj S' hj R2 g2 hc2 fr
      have lj := (List.getElem?_eq_some_iff.mp hj).1
      have t1 := (facts wj hj).2.2.2.2.2
      refine ⟨wss.length - (j + 1), by omega, j + 1, es ++ [e], by omega, rfl, rfl, g2, ?_, ?_, fun b u hb nb => ?_⟩
      · rw [List.take_add_one, hj]
        exact hc2
      · rw [t1, List.length_append, List.length_cons]
        have z : k + 1 + ((rowsPc (wss.take j)).length + (wj.length + 1)) = k + 1 + (rowsPc (wss.take j)).length + 1 + wj.length := by omega
        rw [z]
        exact R2
      · exact fr b u (S' _ _ (o _ _ hb nb)) nb fun z => by rw [z, frees] at hb; cases hb
    have RL : (((es.map V.ref).isEmpty) = true ↔ j = 0) := by
      rw [List.isEmpty_iff, List.map_eq_nil_iff, ← List.length_eq_zero_iff, el]
    by_cases j0 : j = 0
    · have e1 : (!(es.map V.ref).isEmpty) = false := by rw [RL.mpr j0]; rfl
      refine ⟨_, rfl, (!(es.map V.ref).isEmpty), .inl ⟨_, SqL.of g, rfl⟩, ?_⟩
      rw [e1]
      refine iteT (iteT ?_)
      obtain ⟨wj, hj⟩ : ∃ wj, wss[j]? = some wj := ⟨wss[j], List.getElem?_eq_getElem (by omega)⟩
      obtain ⟨f1, f2, f3, f4, f5, f6⟩ := facts wj hj
      refine ⟨_, fun σ' H' h => h, ?_⟩
      exact kb _ G r L Lc ps wj _ m (wss.take j) es RG g hc f3 (fun v hv => okc v (List.mem_of_mem_take hv)) f1 f2 f4 f5 LL fun e G2 R2 g2 hc2 fr => done e G G2 wj (fun _ _ e => e) hj R2 g2 hc2 fr
    · have e1 : (!(es.map V.ref).isEmpty) = true := by
        cases z : (es.map V.ref).isEmpty with
        | true => exact absurd (RL.mp z) j0
        | false => rfl
      refine ⟨_, rfl, (!(es.map V.ref).isEmpty), .inl ⟨_, SqL.of g, rfl⟩, ?_⟩
      rw [e1]
      refine iteF ?_
      refine ⟨_, rfl, r, dxg, _, rfl, hg1, rl0 (by decide +kernel) (by decide +kernel), isNext RG fun G' S' => ?_⟩
      by_cases jj : j = wss.length
      · have tk : wss.take j = wss := by rw [jj]; exact List.take_of_length_le (Nat.le_refl _)
        rw [tk] at RG hc ⊢
        rw [nextIn_no fun x hx => by simpa using (stop x hx).1]
        refine ⟨_, rfl, iteF ?_⟩
        have g' := S' _ _ g
        refine ⟨_, rfl, .ref Lc, j, rfl, .inl ⟨_, SqL.of g', by rw [List.length_map, el]⟩, _, rfl, _, _, rfl, rfl, _, rfl, ?_⟩
        refine (?_ : if decide (((j : Nat) : Int) < ((m : Nat) : Int)) = true then _ else _)
        rw [decide_eq_false (by omega : ¬ ((j : Nat) : Int) < ((m : Nat) : Int))]
        refine iteF ?_
        unfold tNext
        dsimp only
        refine ⟨_, rfl, _, rfl, Lc, _, rfl, .inl ⟨SqL.of g', fun t ht => ?_⟩⟩
        have S3 : Same G' (upd G' t (.tup (es.map V.ref))) := same_new ht
        have g3 : SqT K (upd G' t (.tup (es.map V.ref))) t (es.map V.ref) := SqT.of upd_same
        show _
        generalize upd G' t (.tup (es.map V.ref)) = G3 at S3 g3 ⊢
        refine ⟨by show 2 ≤ sizeLine; omega, fun q hq => ?_⟩
        have S4 : Same G3 (upd G3 q (.tup [V.int (m : Nat), .ref t])) := same_new hq
        have S24 := S'.trans (S3.trans S4)
        refine kk q _ (.tup (SqT.of upd_same) (.cons (.int _) (.cons (.tup (sqT_same S4 g3) (da_chainsU ⟨hc.1, fun i a vs ha hv => sqT_same S24 (hc.2 i a vs ha hv)⟩)) .nil))) (RG.same S24) (Old.trans o (Same.old S24))
      · obtain ⟨wj, hj⟩ : ∃ wj, wss[j]? = some wj := ⟨wss[j], List.getElem?_eq_getElem (by omega)⟩
        obtain ⟨f1, f2, f3, f4, f5, f6⟩ := facts wj hj
        rw [nextIn_yes f4.head (List.mem_singleton.mpr rfl)]
        refine ⟨_, rfl, iteT ?_⟩
        refine ⟨_, fun σ' H' h => h, ?_⟩
        exact kb _ G' r L Lc ps wj _ m (wss.take j) es (RG.same S') (S' _ _ g) ⟨hc.1, fun i a vs ha hv => sqT_same S' (hc.2 i a vs ha hv)⟩ f3 (fun v hv => okc v (List.mem_of_mem_take hv)) f1 f2 f4 f5 LL fun e G2 R2 g2 hc2 fr => done e G' G2 wj S' hj R2 g2 hc2 fr
end
end LW

/-! Statements made of what was read. -/
namespace LW
open PySem L2 G TL
abbrev pLeaveB : Stmt := top 44
abbrev pReadS : Stmt := top 43
/-- what is handed over as days: none for all of them -/
def DaysV (K : PySem.W.Frag) (H : Hp) (v : V) (i j : Int) : Prop := (v = .non ∧ i = 0 ∧ j = 10 ^ 30) ∨ Da K H v (stD i j)
theorem DaysV.same {K : PySem.W.Frag} {H H' : Hp} {v : V} {i j : Int} (h : DaysV K H v i j) (S : Same H H') : DaysV K H' v i j := by
  rcases h with h | h
  · exact .inl h
  · exact .inr (h.same S)
theorem st_at {K : PySem.W.Frag} {H H' : Hp} {q : Addr} {vd st : V} {i j : Int} (h : DaysV K H vd i j) : ∃ dd, Da K H vd dd ∧ (dd = .none ∨ isStretchD dd = true ∨ ¬ Span i j) ∧ (dd ≠ .none → dd = stD i j) ∧ (intsD dd).1 = i ∧ (intsD dd).2 = j ∧ (StAt K H vd st dd → ∃ q, st = .ref q ∧ SqT K H q [.int i, .int j]) := by
  rcases h with ⟨rfl, rfl, rfl⟩ | h
  · refine ⟨.none, .non, .inl rfl, fun z => absurd rfl z, rfl, rfl, fun z => ?_⟩
    rcases z with ⟨z, _⟩ | ⟨_, z⟩
    · exact absurd rfl z
    · exact da_pair z
  · refine ⟨stD i j, h, ?_, fun _ => rfl, rfl, rfl, fun z => at_nam (q := q) z h⟩
    by_cases sp : Span i j
    · exact .inr (.inl (span_ok sp))
    · exact .inr (.inr sp)
section
variable {K : PySem.W.Frag} {CN CL CW CC CS CJ CT : Addr}
theorem made_nam {H : Hp} {p n : Str} {ws : List Str} {i j : Int} {c : Addr} {vd : V} {Q : Addr → Hp → Prop} {E : XK} (ok : (Plain.nam p n ws i j).Ok) (hc : SqT K H c (ws.map V.str)) (hd : DaysV K H vd i j) (k : ∀ x H', Same H H' → MadeAt K H' CN CL x (.nam p n ws i j) → Q x H') :
    ∀ x dx, H x = none → H dx = none → dx ≠ x → spNam K CN CW CC CS [.ref x, .str p, .str n, .ref c, vd] (upd (upd H dx (.own x)) x (.ins CN dx [])) (fun v H2 => v = .non ∧ Q x H2) E := by
  intro x dx nx ndx ne
  obtain ⟨w1, w2, w3, sp⟩ := ok
  have S := make_same (C := CN) nx ndx
  have a4 : Da K H (.ref c) (chD ws) := .tup hc (daStrs ws)
  obtain ⟨dd, a5, u1, u2, u3, u4, u5⟩ := st_at (H' := H) (q := x) (st := .non) hd
  refine ⟨x, dx, .str p, .str n, .ref c, vd, .str p, .str n, chD ws, dd, rfl, upd_same, .str p, .str n, a4.same S, a5.same S, word_okStr w1, word_okStr w2, chain_okTup (by decide) w3, fun e => ?_, fun _ e => ?_, fun _ _ e => ?_, fun _ _ _ nn e => ?_, fun _ _ _ _ st H' e1 e2 e3 => ⟨rfl, ?_⟩⟩
  · rw [w1] at e; cases e
  · rw [w2] at e; cases e
  · rw [w3] at e; cases e
  · rw [u2 nn, span_ok sp] at e; cases e
  · have S2 : Same H H' := fun b o e => e1 b o (S b o e) (ne_of_none e nx)
    obtain ⟨dd2, b5, v1, v2, v3, v4, v5⟩ := st_at (H' := H') (q := x) (st := st) (hd.same S2)
    have edd : dd2 = dd := by
      rcases hd with ⟨rfl, _, _⟩ | hd
      · cases a5; cases b5; rfl
      · by_cases z : dd = .none
        · subst z
          cases a5
          cases hd
        · rw [u2 z]
          by_cases z2 : dd2 = .none
          · subst z2
            cases b5
            cases hd
          · exact v2 z2
    subst edd
    obtain ⟨q, rfl, hq⟩ := v5 e3
    obtain ⟨c2, e, hc2⟩ := da_chain (a4.same S2)
    cases e
    refine k x H' S2 ⟨dx, q, c, ?_, hc2, hq⟩
    have et : namTD (.str p) (.str n) (chD ws) dd2 = namT p n ws i j := by
      unfold namTD
      rw [wordsD_chain, u3, u4]
      rfl
    rw [et] at e2
    exact e2
theorem made_lea {H : Hp} {p : Str} {dj : PyData} {g h i j : Int} {t : Option Int} {vj vg vd : V} {Q : Addr → Hp → Prop} {E : XK} (ok : (Plain.lea p dj g h i j t).Ok) (hj : Da K H vj dj) (hg : Da K H vg (stD g h)) (hd : DaysV K H vd i j) (k : ∀ x H', Same H H' → MadeAt K H' CN CL x (.lea p dj g h i j t) → Q x H') :
    ∀ x dx, H x = none → H dx = none → dx ≠ x → spLea K CL CW CJ CS CT [.ref x, .str p, vj, vg, vd, timesV t] (upd (upd H dx (.own x)) x (.ins CL dx [])) (fun v H2 => v = .non ∧ Q x H2) E := by
  intro x dx nx ndx ne
  obtain ⟨w1, w2, sg, sp, n9⟩ := ok
  have S := make_same (C := CL) nx ndx
  have a6 : Da K H (timesV t) (timesP t) := by cases t with | none => exact .non | some y => exact .int y
  obtain ⟨dd, a5, u1, u2, u3, u4, u5⟩ := st_at (H' := H) (q := x) (st := .non) hd
  refine ⟨x, dx, .str p, vj, vg, vd, timesV t, .str p, dj, stD g h, dd, timesP t, rfl, upd_same, .str p, hj.same S, hg.same S, a5.same S, a6.same S, word_okStr w1, subj_okSub w2, fun e => ?_, fun _ e => ?_, fun _ _ e => ?_, fun _ _ _ nn e => ?_, fun _ _ _ _ e => ?_, fun _ _ _ _ _ st H' e1 e2 e3 => ⟨rfl, ?_⟩⟩
  · rw [w1] at e; cases e
  · rw [w2] at e; cases e
  · rw [span_ok sg] at e; cases e
  · rw [u2 nn, span_ok sp] at e; cases e
  · rw [times_ok n9] at e; cases e
  · have S2 : Same H H' := fun b o e => e1 b o (S b o e) (ne_of_none e nx)
    obtain ⟨dd2, b5, v1, v2, v3, v4, v5⟩ := st_at (H' := H') (q := x) (st := st) (hd.same S2)
    have edd : dd2 = dd := by
      rcases hd with ⟨rfl, _, _⟩ | hd
      · cases a5; cases b5; rfl
      · by_cases z : dd = .none
        · subst z
          cases a5
          cases hd
        · rw [u2 z]
          by_cases z2 : dd2 = .none
          · subst z2
            cases b5
            cases hd
          · exact v2 z2
    subst edd
    obtain ⟨q, rfl, hq⟩ := v5 e3
    obtain ⟨ag, eg, hag⟩ := da_pair (hg.same S2)
    subst eg
    have to : timesO (timesP t) = t := by cases t <;> rfl
    refine k x H' S2 ⟨dx, q, ag, vj, ?_, hj.same S2, hag, hq⟩
    have et : leaTD (.str p) dj (stD g h) dd2 (timesP t) = leaveT p (subjT dj) g h i j t := by
      unfold leaTD
      rw [u3, u4, to]
      rfl
    rw [et] at e2
    exact e2
end
end LW

/-! A Leave is read. -/
namespace LW
open PySem L2 G TL
theorem isNext4 {K : PySem.W.Frag} {C r L : Addr} {ps : List Str} {k : Nat} {a b c d : Str} {H : Hp} {Q : VK} {E : XK} (R : RdAt H C r L ps k) (q : ∀ H', Same H H' → Q (.bl (nextIn ps k [a, b, c, d])) H') : spStar 1 (spNext K C) [.ref r, .str a, .str b, .str c, .str d] H Q E := by
  refine ⟨[.ref r], [.str a, .str b, .str c, .str d], rfl, rfl, by show 4 ≤ sizeLine; rw [sizeLine_eq]; decide, fun p hp => ?_⟩
  have S : Same H (upd H p (.tup [V.str a, .str b, .str c, .str d])) := same_new hp
  exact ⟨r, p, L, ps, [a, b, c, d], k, rfl, R.same S, SqT.of upd_same, q _ S⟩
theorem digit_nat {m : Nat} (h1 : 1 ≤ m) (h4 : m ≤ 4) : numS (m : Int) ∈ [Str.ofString "1", Str.ofString "2", Str.ofString "3", Str.ofString "4"] := by
  have : m = 1 ∨ m = 2 ∨ m = 3 ∨ m = 4 := by omega
  rcases this with rfl | rfl | rfl | rfl <;> decide +kernel
theorem word_not {x : Str} (h : isWordD (.str x) = true) : x ∉ [Str.ofString "1", Str.ofString "2", Str.ofString "3", Str.ofString "4"] := fun hm => by
  simp only [List.mem_cons, List.not_mem_nil, or_false] at hm
  rcases hm with rfl | rfl | rfl | rfl
  · exact absurd h (by decide +kernel)
  · exact absurd h (by decide +kernel)
  · exact absurd h (by decide +kernel)
  · exact absurd h (by decide +kernel)
theorem nat_of {g : Int} (h : 0 ≤ g) : ∃ n : Nat, g = (n : Int) := Int.eq_ofNat_of_zero_le h
/-- the pieces of a subject, as they are read -/
theorem subj_read {d : PyData} (h : subjD d = true) : (∃ ws, d = chD ws ∧ isChainD (chD ws) 4 = true ∧ subjPc d = ws) ∨ ∃ (m : Nat) (wss : List (List Str)), d = shareOf (m : Int) wss ∧ 1 ≤ m ∧ m ≤ wss.length ∧ wss.length ≤ 4 ∧ (∀ vs ∈ wss, isChainD (chD vs) 4 = true) ∧ wss.Nodup ∧ subjPc d = numS (m : Int) :: rowsPc wss := by
  rcases subj_cases h with ⟨ws, rfl, c⟩ | ⟨m, wss, rfl, c, l1, l4, ch, m1, ml, nd⟩
  · refine .inl ⟨ws, rfl, c, ?_⟩
    unfold subjPc
    rw [if_pos c, wordsD_chain]
  · obtain ⟨n, rfl⟩ := nat_of (by omega : 0 ≤ m)
    refine .inr ⟨n, wss, rfl, by omega, by omega, l4, ch, nd, ?_⟩
    unfold subjPc
    rw [if_neg (by rw [c]; decide)]
    show numS (n : Int) :: rowsPc ((wss.map chD).map wordsD) = _
    rw [words_mapR]
def spLeaveB (K : PySem.W.Frag) (CN CL C : Addr) : Sp := fun vs H Q _ => ∃ (r L : Addr) (p : Str) (dj : PyData) (g h i j : Int) (t : Option Int), vs = [.ref r, .str p] ∧ (Plain.lea p dj g h i j t).Ok ∧ RdAt H C r L (Plain.lea p dj g h i j t).pcs 1 ∧
  ∀ x H', MadeAt K H' CN CL x (.lea p dj g h i j t) → Old r H H' → Q (.ref x) H'
theorem Seg.refl {ps : List Str} : Seg ps 0 ps := fun i x h => by rw [Nat.zero_add]; exact h
theorem col_ne : Str.ofString ":" ≠ Str.ofString "/" := by decide +kernel
theorem col_word : isWordD (.str (Str.ofString ":")) = false := by decide +kernel
theorem plus_at : Str.ofString "+" ≠ Str.ofString "@" := by decide +kernel
mutual
theorem da_old {K : PySem.W.Frag} {H H' : Hp} {r C dx : Addr} {fs : List (Str × V)} (hr : H r = some (.ins C dx fs)) (o : Old r H H') : ∀ {v : V} {d : PyData}, Da K H v d → tupD d = true → Da K H' v d
  | _, _, .non, _ => .non
  | _, _, .bl b, _ => .bl b
  | _, _, .int i, _ => .int i
  | _, _, .str x, _ => .str x
  | _, _, .tup s a, h => .tup (sqT_old s hr o) (daAll_old hr o a (by simpa [tupD] using h))
  | _, _, .lst _ _ _, h => by simp [tupD] at h
  | _, _, .dct _ _ _, h => by simp [tupD] at h
theorem daAll_old {K : PySem.W.Frag} {H H' : Hp} {r C dx : Addr} {fs : List (Str × V)} (hr : H r = some (.ins C dx fs)) (o : Old r H H') : ∀ {vs : List V} {ds : List PyData}, DaAll K H vs ds → tupAll ds = true → DaAll K H' vs ds
  | _, _, .nil, _ => .nil
  | _, _, .cons (d := d) (ds := ds) h t, z => by
    have z2 : tupD d = true ∧ tupAll ds = true := by simpa [tupAll] using z
    exact .cons (da_old hr o h z2.1) (daAll_old hr o t z2.2)
end
theorem DaysV.old {K : PySem.W.Frag} {H H' : Hp} {r C dx : Addr} {fs : List (Str × V)} {v : V} {i j : Int} (h : DaysV K H v i j) (hr : H r = some (.ins C dx fs)) (o : Old r H H') : DaysV K H' v i j := by
  rcases h with h | h
  · exact .inl h
  · exact .inr (da_old hr o h (by simp [tupD, tupAll]))
section
variable {w : World} {K : PySem.W.Frag} {mg : Str → Option Value} {base : Heap} {C CE CN CL CW CJ CS CT : Addr} {fS fD fE fL : Addr} {dS dD dE dL : FuncData}
abbrev nmLb : List Str := ["reader", "person", "subject", "first", "tags", "days", "times"]
theorem scLeaveB : FnScope nmLb ["reader", "person"] (defScope pLeaveB) := ⟨rfl, rfl, rfl, by decide +kernel, rfl, by decide +kernel, by decide +kernel⟩
theorem ok_leaveB {f : Addr} {fd : FuncData} (F : Fun K "_leave_behind" "_leave_behind" pLeaveB f fd) (mL : ∃ t, mg "LIMIT" = some (.int (10 ^ 30) t)) (mN : ∃ t, mg "MAX_NAMES" = some (.int 4 t)) (mT : ∃ t, mg "MAX_TIMES" = some (.int 9 t)) (Z : Rdr PySem.Challenge.pw_namechains_k79_statements_written_and_re w K mg base C)
    (GS : FnOk PySem.Challenge.pw_namechains_k79_statements_written_and_re w K mg base CX0 5 fS dS ["reader"] (spShareR K C)) (mS : mg "_share" = some (.ref fS)) (kS : PySem.W.keepIn K (.ref fS) = true) (bS : Binds K dS ["reader"] [])
    (GD : FnOk PySem.Challenge.pw_namechains_k79_statements_written_and_re w K mg base CX0 4 fD dD ["reader"] (spDaysR K C)) (mD : mg "_days" = some (.ref fD)) (kD : PySem.W.keepIn K (.ref fD) = true) (bD : Binds K dD ["reader"] [])
    (oE : Meth K C "finish" fE) (GE : FnOk PySem.Challenge.pw_namechains_k79_statements_written_and_re w K mg base (L2.CX PySem.Challenge.pw_namechains_k79_statements_written_and_re w) 3 fE dE ["self"] (spFinish C CE)) (bE : Binds K dE ["self"] [])
    (ML : Mk K CL fL) (GL : FnOk PySem.Challenge.pw_namechains_k79_statements_written_and_re w K mg base (L2.CX PySem.Challenge.pw_namechains_k79_statements_written_and_re w) 6 fL dL psL (spLea K CL CW CJ CS CT)) (mLe : mg "Leave" = some (.ref CL)) (bL : Binds K dL psL []) :
    FnOk PySem.Challenge.pw_namechains_k79_statements_written_and_re w K mg base CX0 8 f fd ["reader", "person"] (spLeaveB K CN CL C) := by
  obtain ⟨tL, mL⟩ := mL
  obtain ⟨tN, mN⟩ := mN
  obtain ⟨tT, mT⟩ := mT
  obtain ⟨fN, oN, GN⟩ := Z.nx
  obtain ⟨fS', oS, GS'⟩ := Z.ts
  obtain ⟨fU, dU, oU, GU, bU⟩ := Z.tn
  obtain ⟨fC, dC, oC, GC, bC⟩ := Z.tc
  have c := Z.c
  refine F.ok scLeaveB (fun vs H Q E h => ?_) (fun cdv A outer s H vs Q E hr h => ?_)
  · obtain ⟨r, L, p, dj, g, h, i, j, t, rfl, _⟩ := h
    rfl
  · obtain ⟨r, L, p, dj, g, h, i, j, t, rfl, ok, R, kk⟩ := h
    have nd := scLeaveB.nd
    have szl : sizeLine = 16777216 := sizeLine_eq
    have passL : Passes (L2.CX PySem.Challenge.pw_namechains_k79_statements_written_and_re w) (cxOf CX0 PySem.Challenge.pw_namechains_k79_statements_written_and_re w K mg base nmLb "_leave_behind" (defScope pLeaveB) f cdv A outer s H E).nox E0 := passes_call LamX.takes0 fun _ _ _ _ h => h
    refine ⟨_, pss_cons (ps_expr (pe_methR (pv 0) c.cl oS GS' (hr.mono (by decide)) pass0 (pa_cons pe_str pa_nil)))
      (pss_cons (ps_set (i := 2) nd rfl (Or.inl rfl) (pe_ifExp (pt_val (pe_methR (pv 0) c.cl oN.mt GN (hr.mono (by decide)) pass0 (pa_cons pe_str (pa_cons pe_str (pa_cons pe_str (pa_cons pe_str pa_nil)))))) (pe_call GS (hr.mono (by decide)) (by rfl) mS kS bS .nil pass0 (pa_cons (pv 0) pa_nil)) (pe_meth (pv 0) c.cl oC GC (hr.mono (by decide)) bC .nil pass0 (pa_cons (pe_glob (v := .int 4) (by rfl) mN ⟨tN, rfl⟩) pa_nil))))
      (pss_cons (ps_expr (pe_methR (pv 0) c.cl oS GS' (hr.mono (by decide)) pass0 (pa_cons pe_str pa_nil)))
      (pss_cons (ps_set (i := 3) nd rfl (Or.inl rfl) (pe_meth (pv 0) c.cl oU GU (hr.mono (by decide)) bU .nil pass0 (pa_cons (pe_int) (pa_cons (pe_glob (v := .int (10 ^ 30)) (by rfl) mL ⟨tL, rfl⟩) pa_nil))))
      (pss_cons (ps_set (i := 4) nd rfl (Or.inl rfl) (pe_tup (pa_cons (pv 3) (pa_cons (pe_meth (pv 0) c.cl oU GU (hr.mono (by decide)) bU .nil pass0 (pa_cons (pv 3) (pa_cons (pe_glob (v := .int (10 ^ 30)) (by rfl) mL ⟨tL, rfl⟩) pa_nil))) pa_nil))))
      (pss_cons (ps_set (i := 5) nd rfl (Or.inl rfl) (pe_call GD (hr.mono (by decide)) (by rfl) mD kD bD .nil pass0 (pa_cons (pv 0) pa_nil)))
      (pss_cons (ps_set (i := 6) nd rfl (Or.inl rfl) (pe_non))
      (pss_cons (ps_if (pt_val (pe_methR (pv 0) c.cl oN.mt GN (hr.mono (by decide)) pass0 (pa_cons pe_str pa_nil))) (pss_cons (ps_expr (pe_methR (pv 0) c.cl oS GS' (hr.mono (by decide)) pass0 (pa_cons pe_str pa_nil))) (pss_one (ps_set (i := 6) nd rfl (Or.inl rfl) (pe_meth (pv 0) c.cl oU GU (hr.mono (by decide)) bU .nil pass0 (pa_cons (pe_int) (pa_cons (pe_glob (v := .int 9) (by rfl) mT ⟨tT, rfl⟩) pa_nil)))))) pss_nil)
      (pss_cons (ps_expr (pe_meth0 (pv 0) c.cl oE GE (hr.mono (by decide)) bE .nil passL))
      (pss_one (ps_ret (pe_make ML GL hr (by rfl) mLe bL .nil passL (pa_cons (pv 1) (pa_cons (pv 2) (pa_cons (pv 4) (pa_cons (pv 5) (pa_cons (pv 6) pa_nil)))))))))))))))), ?_⟩
    obtain ⟨w1, w2, sg, sp, n9⟩ := id ok
    obtain ⟨g', rfl⟩ := nat_of sg.lo
    obtain ⟨h', rfl⟩ := nat_of (Int.le_trans sg.lo sg.le)
    obtain ⟨i', rfl⟩ := nat_of sp.lo
    obtain ⟨j', rfl⟩ := nat_of (Int.le_trans sp.lo sp.le)
    have sgl := sg.le
    have sgh := sg.hi
    have spl' := sp.le
    have sph := sp.hi
    have all : Seg (Plain.lea p dj g' h' i' j' t).pcs 0 (p :: Str.ofString ">" :: (subjPc dj ++ Str.ofString ":" :: numS (g' : Int) :: numS (h' : Int) :: (daysPc i' j' ++ timesPc t))) := Seg.refl
    have elen : (Plain.lea p dj g' h' i' j' t).pcs.length = 5 + (subjPc dj).length + (daysPc i' j').length + (timesPc t).length := by
      show (p :: Str.ofString ">" :: (subjPc dj ++ Str.ofString ":" :: numS (g' : Int) :: numS (h' : Int) :: (daysPc i' j' ++ timesPc t))).length = _
      simp only [List.length_cons, List.length_append]
      omega
    generalize (Plain.lea p dj g' h' i' j' t).pcs = ps at R all elen
    have s1 := all.tail
    have s2 := s1.tail
    have sSub := s2.left
    have sC := s2.right
    have sG := sC.tail
    have sH := sG.tail
    have sD := sH.tail
    have sDd := sD.left
    have sT := sD.right
    obtain ⟨dx, h1, h2⟩ := id R.at_
    refine ⟨_, rfl, r, dx, _, rfl, h1, rl0 (by decide +kernel) (by decide +kernel), takeS R s1.head fun H1 R1 o1 => ?_⟩
    obtain ⟨dx1, h11, _⟩ := id R1.at_
    have step : ∀ (σ : L2.St) (H2 : Hp) (Q' : VK), σ[0]? = some (some (.ref r)) → RdAt H2 C r L ps 2 → (∀ v H3, Da K H3 v dj → RdAt H3 C r L ps (2 + (subjPc dj).length) → Old r H2 H3 → Q' v H3) →
        ∃ k, V.bl (nextIn ps (1 + 1) [Str.ofString "1", Str.ofString "2", Str.ofString "3", Str.ofString "4"]) = V.bl k ∧ (if k = true then tCall (spShareR K C) [] E0 (tCons (tVar 0) tNil) σ H2 Q' else tMeth C "take_chain" (spTakeC K C) [] E0 (tVar 0) (tCons (tC (.int 4)) tNil) σ H2 Q') := by
      intro σ H2 Q' h0 R2 q
      have nc : ps[2 + (subjPc dj).length]? = some (Str.ofString ":") := by
        have z := sC.head
        rw [show (0 + 1 + 1 + (subjPc dj).length) = 2 + (subjPc dj).length by omega] at z
        exact z
      rcases subj_read w2 with ⟨ws, ed, cw, ep⟩ | ⟨m, wss, ed, m1, ml, l4, ch, nodup, ep⟩
      · rw [ep] at sSub q nc
        obtain ⟨l1, l5⟩ := chain_len cw
        obtain ⟨x0, hx0⟩ : ∃ x0, ws[0]? = some x0 := ⟨ws[0], List.getElem?_eq_getElem (by omega)⟩
        have p0 := sSub 0 x0 hx0
        rw [nextIn_no (k := 1 + 1) fun x hx => by
          have : x = x0 := Option.some.inj (hx.symm.trans p0)
          rw [this]
          exact word_not (chain_words cw x0 (List.mem_of_getElem? hx0))]
        obtain ⟨dx2, h21, _⟩ := id R2.at_
        refine ⟨_, rfl, iteF ⟨_, h0, r, dx2, _, rfl, h21, rl0 (by decide +kernel) (by decide +kernel), r, L, ps, ws, 2, rfl, R2, l1, l5, sSub.words cw, .inr ?_, fun c' H3 hc R3 o3 => q _ H3 ?_ R3 o3⟩⟩
        · exact nextWord_no fun x hx => by
            rw [nc] at hx
            cases hx
            exact col_word
        · rw [ed]
          exact .tup hc (daStrs ws)
      · rw [ep] at sSub q nc
        rw [nextIn_yes (k := 1 + 1) sSub.head (digit_nat m1 (by omega))]
        have e : 2 + (numS (m : Int) :: rowsPc wss).length = 2 + 1 + (rowsPc wss).length := by rw [List.length_cons]; omega
        rw [e] at nc
        refine ⟨_, rfl, iteT ⟨_, h0, r, L, ps, 2, m, wss, rfl, R2, sSub, m1, ml, l4, ch, nodup, fun x hx => ?_, fun q' H3 da R3 o3 => q _ H3 ?_ ?_ o3⟩⟩
        · rw [nc] at hx
          cases hx
          exact ⟨col_ne, col_word⟩
        · rw [ed]
          exact da
        · rw [e]
          exact R3
    refine ⟨_, rfl, r, dx1, _, rfl, h11, rl0 (by decide +kernel) (by decide +kernel), isNext4 R1 fun H2 S2 => ?_⟩
    refine step _ H2 _ rfl (R1.same S2) fun vj H3 dj3 R3 o3 => setIt ?_
    dsimp only
    have e0 : ∀ n : Nat, 0 + 1 + 1 + n = 2 + n := fun n => by omega
    rw [e0] at sC sG sH sD sDd sT
    obtain ⟨dx3, h31, _⟩ := id R3.at_
    refine ⟨_, rfl, r, dx3, _, rfl, h31, rl0 (by decide +kernel) (by decide +kernel), takeS R3 sC.head fun H4 R4 o4 => ?_⟩
    have dj4 : Da K H4 vj dj := da_old h31 o4 dj3 (subj_tupD w2)
    obtain ⟨dx4, h41, _⟩ := id R4.at_
    refine ⟨_, rfl, r, dx4, _, rfl, h41, rl0 (by decide +kernel) (by decide +kernel), r, L, ps, _, g', 0, 10 ^ 30, rfl, R4, sG.head, by omega, by omega, by omega, fun H5 R5 o5 => ?_⟩
    refine setIt ?_
    dsimp only
    have dj5 : Da K H5 vj dj := da_old h41 o5 dj4 (subj_tupD w2)
    obtain ⟨dx5, h51, _⟩ := id R5.at_
    refine ⟨_, rfl, _, rfl, r, dx5, _, rfl, h51, rl0 (by decide +kernel) (by decide +kernel), _, rfl, r, L, ps, _, h', (g' : Int), 10 ^ 30, rfl, R5, sH.head, by omega, by omega, by omega, fun H6 R6 o6 => ?_⟩
    refine ⟨by show 2 ≤ sizeLine; omega, fun tg htg => ?_⟩
    have S7 : Same H6 (upd H6 tg (.tup [V.int (g' : Nat), .int (h' : Nat)])) := same_new htg
    have gt7 : SqT K (upd H6 tg (.tup [V.int (g' : Nat), .int (h' : Nat)])) tg [V.int (g' : Nat), .int (h' : Nat)] := SqT.of upd_same
    refine setIt ?_
    dsimp only
    show _
    generalize upd H6 tg (.tup [V.int (g' : Nat), .int (h' : Nat)]) = H7 at S7 gt7 ⊢
    have R7 := R6.same S7
    have dj7 : Da K H7 vj dj := (da_old h51 o6 dj5 (subj_tupD w2)).same S7
    have o17 : Old r H H7 := Old.trans o1 (Old.trans (Same.old S2) (Old.trans o3 (Old.trans o4 (Old.trans o5 (Old.trans o6 (Same.old S7))))))
    have dg7 : Da K H7 (.ref tg) (stD (g' : Int) (h' : Int)) := da_stretch gt7
    have dstep : ∀ (Q' : VK), (∀ v H8, DaysV K H8 v (i' : Int) (j' : Int) → RdAt H8 C r L ps (5 + (subjPc dj).length + (daysPc (i' : Int) (j' : Int)).length) → Old r H7 H8 → Q' v H8) → spDaysR K C [.ref r] H7 Q' E0 := by
      intro Q' q
      have ep : 2 + (subjPc dj).length + 1 + 1 + 1 = 5 + (subjPc dj).length := by omega
      rw [ep] at sD sDd sT R7
      refine ⟨r, L, ps, 5 + (subjPc dj).length, rfl, R7, ?_⟩
      by_cases ij : (i' : Int) = 0 ∧ (j' : Int) = 10 ^ 30
      · have ed : daysPc (i' : Int) (j' : Int) = [] := if_pos ij
        rw [ed] at sT q elen
        refine .inl ⟨fun x hx => ?_, fun H8 S8 => q _ H8 (.inl ⟨rfl, ij.1, ij.2⟩) (R7.same S8) (Same.old S8)⟩
        cases t with
        | none =>
          have := (List.getElem?_eq_some_iff.mp hx).1
          have z : (timesPc none).length = 0 := rfl
          rw [z] at elen
          simp at elen
          omega
        | some y =>
          have z : ps[5 + (subjPc dj).length + 0]? = some (Str.ofString "+") := sT.head
          rw [Nat.add_zero, hx] at z
          rw [Option.some.inj z]
          exact plus_at
      · have ed : daysPc (i' : Int) (j' : Int) = [Str.ofString "@", numS (i' : Int), numS (j' : Int)] := if_neg ij
        rw [ed] at sDd q
        refine .inr ⟨i', j', sDd.head, sDd.tail.head, sDd.tail.tail.head, by omega, by omega, fun z => ij ⟨by omega, by omega⟩, fun q' H8 hq R8 o8 => q _ H8 (.inr (da_stretch hq)) R8 o8⟩
    refine ⟨_, rfl, ?_⟩
    dsimp only [tCons, tNil]
    refine dstep _ fun vd H8 dv8 R8 o8 => ?_
    refine setIt ?_
    try dsimp only
    refine setIt ?_
    try dsimp only
    obtain ⟨dx7, h71, _⟩ := id R7.at_
    have dj8 := da_old h71 o8 dj7 (subj_tupD w2)
    have dg8 := da_old h71 o8 dg7 (by simp [tupD, tupAll])
    have o18 := Old.trans o17 o8
    obtain ⟨dx8, h81, _⟩ := id R8.at_
    have eT : 2 + (subjPc dj).length + 1 + 1 + 1 + (daysPc (i' : Int) (j' : Int)).length = 5 + (subjPc dj).length + (daysPc (i' : Int) (j' : Int)).length := by omega
    rw [eT] at sT
    refine ⟨_, rfl, r, dx8, _, rfl, h81, rl0 (by decide +kernel) (by decide +kernel), isNext R8 fun H9 S9 => ?_⟩
    cases t with
    | none =>
      have zl : (timesPc none).length = 0 := rfl
      rw [nextIn_no fun x hx => by
        have := (List.getElem?_eq_some_iff.mp hx).1
        omega]
      refine ⟨_, rfl, iteF ?_⟩
      unfold tNext
      try dsimp only
      refine ⟨_, rfl, r, dx8, _, rfl, S9 _ _ h81, rl0 (by decide +kernel) (by decide +kernel), r, L, ps, _, rfl, R8.same S9, .inl ⟨by omega, ?_⟩⟩
      refine ⟨_, rfl, _, rfl, _, rfl, _, rfl, _, rfl, ?_⟩
      exact made_lea (CN := CN) (t := none) ok (dj8.same S9) (dg8.same S9) (dv8.same S9) fun x H' S' m => kk x H' m (Old.trans o18 (Same.old (S9.trans S')))
    | some y =>
      obtain ⟨y0, y9⟩ := n9 y rfl
      obtain ⟨y', rfl⟩ := nat_of y0
      have zl : (timesPc (some (y' : Int))).length = 2 := rfl
      have sT' : Seg ps (5 + (subjPc dj).length + (daysPc (i' : Int) (j' : Int)).length) [Str.ofString "+", numS (y' : Int)] := sT
      rw [nextIn_yes sT'.head (List.mem_singleton.mpr rfl)]
      refine ⟨_, rfl, iteT ?_⟩
      refine ⟨_, rfl, r, dx8, _, rfl, S9 _ _ h81, rl0 (by decide +kernel) (by decide +kernel), takeS (R8.same S9) sT'.head fun H10 R10 o10 => ?_⟩
      obtain ⟨dx10, h101, _⟩ := id R10.at_
      refine ⟨_, rfl, r, dx10, _, rfl, h101, rl0 (by decide +kernel) (by decide +kernel), r, L, ps, _, y', 0, 9, rfl, R10, sT'.tail.head, by omega, by omega, by omega, fun H11 R11 o11 => ?_⟩
      refine setIt ?_
      try dsimp only
      obtain ⟨dx11, h111, _⟩ := id R11.at_
      have up : ∀ {v : V} {d : PyData}, Da K H8 v d → tupD d = true → Da K H11 v d := fun a b => da_old h101 o11 (da_old (S9 _ _ h81) o10 (a.same S9) b) b
      refine ⟨_, rfl, r, dx11, _, rfl, h111, rl0 (by decide +kernel) (by decide +kernel), r, L, ps, _, rfl, R11, .inl ⟨by omega, ?_⟩⟩
      refine ⟨_, rfl, _, rfl, _, rfl, _, rfl, _, rfl, ?_⟩
      exact made_lea (CN := CN) (t := some (y' : Int)) ok (up dj8 (subj_tupD w2)) (up dg8 (by simp [tupD, tupAll])) (((dv8.same S9).old (S9 _ _ h81) o10).old h101 o11) fun x H' S' m => kk x H' m (Old.trans o18 (Old.trans (Same.old S9) (Old.trans o10 (Old.trans o11 (Same.old S')))))
end
end LW

/-! A statement is read. -/
namespace LW
open PySem L2 G TL
/-- a piece without blanks that can be handed on -/
def PcOk (x : Str) : Prop := x.length ≤ 31 ∧ PyData.strOk x = true ∧ 32 ∉ tl x
theorem pc_word {x : Str} (h : isWordD (.str x) = true) : PcOk x := by
  have h2 : (decide (1 ≤ x.length) && decide (x.length ≤ 8) && lettersB x.cps.toList) = true := h
  simp only [Bool.and_eq_true, decide_eq_true_eq] at h2
  refine ⟨by omega, letters_strOk h, fun m => ?_⟩
  have := (letter_mem (of_decide_eq_true (List.all_eq_true.mp h2.2 32 m))).1
  omega
theorem strOk_of {x : Str} (h : ∀ c ∈ tl x, c < 0x110000) : PyData.strOk x = true := by
  have q : x.cps.toList.all (fun c => decide (c < 0x110000)) = true := List.all_eq_true.mpr fun c hc => decide_eq_true (h c hc)
  rw [Array.all_toList] at q
  exact q
theorem pc_num {n : Nat} (h : n < 10 ^ 31) : PcOk (numS (n : Int)) := by
  refine ⟨numS_len (by decide) h, strOk_of fun c hc => ?_, ?_⟩
  · rw [tl_numS] at hc
    have := numL_digits n c hc
    omega
  · rw [tl_numS]
    exact numL_free (Or.inl (by decide))
theorem pc_at : PcOk (Str.ofString "@") := ⟨by decide +kernel, by decide +kernel, by decide +kernel⟩
theorem pc_pl : PcOk (Str.ofString "+") := ⟨by decide +kernel, by decide +kernel, by decide +kernel⟩
theorem pc_eq : PcOk (Str.ofString "=") := ⟨by decide +kernel, by decide +kernel, by decide +kernel⟩
theorem pc_gt : PcOk (Str.ofString ">") := ⟨by decide +kernel, by decide +kernel, by decide +kernel⟩
theorem pc_co : PcOk (Str.ofString ":") := ⟨by decide +kernel, by decide +kernel, by decide +kernel⟩
theorem pc_sl : PcOk (Str.ofString "/") := ⟨by decide +kernel, by decide +kernel, by decide +kernel⟩
theorem pcs_days {i j : Int} (sp : Span i j) : (∀ x ∈ daysPc i j, PcOk x) ∧ (daysPc i j).length ≤ 3 := by
  have l := sp.lo
  have l2 := sp.le
  have l3 := sp.hi
  obtain ⟨i', rfl⟩ := nat_of l
  obtain ⟨j', rfl⟩ := nat_of (Int.le_trans l l2)
  unfold daysPc
  by_cases h : (i' : Int) = 0 ∧ (j' : Int) = 10 ^ 30
  · rw [if_pos h]
    exact ⟨fun x hx => (List.not_mem_nil hx).elim, by decide⟩
  · rw [if_neg h]
    refine ⟨fun x hx => ?_, by simp⟩
    simp only [List.mem_cons, List.not_mem_nil, or_false] at hx
    rcases hx with rfl | rfl | rfl
    · exact pc_at
    · exact pc_num (by omega)
    · exact pc_num (by omega)
theorem pcs_rows : ∀ {wss : List (List Str)}, (∀ ws ∈ wss, isChainD (chD ws) 4 = true) → (∀ x ∈ rowsPc wss, PcOk x) ∧ (rowsPc wss).length ≤ 6 * wss.length
  | [], _ => ⟨fun x hx => (List.not_mem_nil hx).elim, Nat.zero_le _⟩
  | ws :: wss, h => by
    obtain ⟨a, b⟩ := pcs_rows fun v hv => h v (List.mem_cons_of_mem _ hv)
    have c := h ws List.mem_cons_self
    obtain ⟨l1, l5⟩ := chain_len c
    have e : rowsPc (ws :: wss) = (Str.ofString "/" :: ws) ++ rowsPc wss := rfl
    rw [e]
    refine ⟨fun x hx => ?_, by rw [List.length_append, List.length_cons, List.length_cons]; omega⟩
    rcases List.mem_append.mp hx with hx | hx
    · rcases List.mem_cons.mp hx with rfl | hx
      · exact pc_sl
      · exact pc_word (chain_words c x hx)
    · exact a x hx
theorem pcs_subj {d : PyData} (h : subjD d = true) : (∀ x ∈ subjPc d, PcOk x) ∧ (subjPc d).length ≤ 25 := by
  rcases subj_read h with ⟨ws, ed, cw, ep⟩ | ⟨m, wss, ed, m1, ml, l4, ch, nodup, ep⟩
  · rw [ep]
    obtain ⟨l1, l5⟩ := chain_len cw
    exact ⟨fun x hx => pc_word (chain_words cw x hx), by omega⟩
  · rw [ep]
    obtain ⟨a, b⟩ := pcs_rows ch
    refine ⟨fun x hx => ?_, by rw [List.length_cons]; omega⟩
    rcases List.mem_cons.mp hx with rfl | hx
    · exact pc_num (by omega)
    · exact a x hx
theorem pcs_ok {pl : Plain} (ok : pl.Ok) : (∀ x ∈ pl.pcs, PcOk x) ∧ pl.pcs.length ≤ 100 := by
  cases pl with
  | nam p n ws i j =>
    obtain ⟨w1, w2, w3, sp⟩ := ok
    obtain ⟨d1, d2⟩ := pcs_days sp
    obtain ⟨l1, l5⟩ := chain_len w3
    show (∀ x ∈ p :: n :: Str.ofString "=" :: (ws ++ daysPc i j), PcOk x) ∧ (p :: n :: Str.ofString "=" :: (ws ++ daysPc i j)).length ≤ 100
    refine ⟨fun x hx => ?_, by simp only [List.length_cons, List.length_append]; omega⟩
    simp only [List.mem_cons, List.mem_append] at hx
    rcases hx with rfl | rfl | rfl | hx | hx
    · exact pc_word w1
    · exact pc_word w2
    · exact pc_eq
    · exact pc_word (chain_words w3 x hx)
    · exact d1 x hx
  | lea p dj g h i j t =>
    obtain ⟨w1, w2, sg, sp, n9⟩ := ok
    obtain ⟨d1, d2⟩ := pcs_days sp
    obtain ⟨u1, u2⟩ := pcs_subj w2
    have g0 := sg.lo
    have g1 := sg.le
    have g2 := sg.hi
    obtain ⟨g', rfl⟩ := nat_of g0
    obtain ⟨h', rfl⟩ := nat_of (Int.le_trans g0 g1)
    have tt : (∀ x ∈ timesPc t, PcOk x) ∧ (timesPc t).length ≤ 2 := by
      cases t with
      | none => exact ⟨fun x hx => (List.not_mem_nil hx).elim, by decide⟩
      | some y =>
        obtain ⟨y0, y9⟩ := n9 y rfl
        obtain ⟨y', rfl⟩ := nat_of y0
        refine ⟨fun x hx => ?_, by show 2 ≤ 2; decide⟩
        have hx : x ∈ [Str.ofString "+", numS (y' : Int)] := hx
        simp only [List.mem_cons, List.not_mem_nil, or_false] at hx
        rcases hx with rfl | rfl
        · exact pc_pl
        · exact pc_num (by omega)
    obtain ⟨t1, t2⟩ := tt
    show (∀ x ∈ p :: Str.ofString ">" :: (subjPc dj ++ Str.ofString ":" :: numS (g' : Int) :: numS (h' : Int) :: (daysPc i j ++ timesPc t)), PcOk x) ∧ (p :: Str.ofString ">" :: (subjPc dj ++ Str.ofString ":" :: numS (g' : Int) :: numS (h' : Int) :: (daysPc i j ++ timesPc t))).length ≤ 100
    refine ⟨fun x hx => ?_, by simp only [List.length_cons, List.length_append]; omega⟩
    simp only [List.mem_cons, List.mem_append] at hx
    rcases hx with rfl | rfl | hx | rfl | rfl | rfl | hx | hx
    · exact pc_word w1
    · exact pc_gt
    · exact u1 x hx
    · exact pc_co
    · exact pc_num (by omega)
    · exact pc_num (by omega)
    · exact d1 x hx
    · exact t1 x hx
theorem split_pcs {ps : List Str} (ne : ps ≠ []) (h : ∀ x ∈ ps, PcOk x) : Txt.split (Txt.join (Str.ofString " ") ps) (Str.ofString " ") = ps :=
  split_join (s := 32) (S := []) tl_blank (by decide +kernel) ne fun p hp => (h p hp).2.2
theorem join_len_pcs {ps : List Str} (few : ps.length ≤ 100) (h : ∀ x ∈ ps, PcOk x) : (Txt.join (Str.ofString " ") ps).length ≤ 100000 := by
  rw [show Txt.join (Str.ofString " ") ps = Str.join (Str.ofString " ") ps from StrLaws.glued_eq_join _ _]
  have z := LW.join_len (Str.ofString " ") ps
  have e : (Str.ofString " ").length = 1 := by decide +kernel
  rw [e] at z
  have s : (ps.map (·.length)).sum ≤ 31 * ps.length := by
    clear few z
    induction ps with
    | nil => simp
    | cons x l ih =>
      have := ih fun y hy => h y (List.mem_cons_of_mem _ hy)
      have := (h x List.mem_cons_self).1
      simp only [List.map_cons, List.sum_cons, List.length_cons]
      omega
  omega
end LW

/-! A statement is read. -/
namespace LW
open PySem L2 G TL
/-- a Naming with more names than there may be -/
def longPcs (p n : Str) (ws rest : List Str) : List Str := p :: n :: Str.ofString "=" :: (ws ++ rest)
structure Long (p n : Str) (ws rest : List Str) : Prop where
  p1 : isWordD (.str p) = true
  n1 : isWordD (.str n) = true
  w5 : ws.length = 5
  ww : ∀ x ∈ ws, isWordD (.str x) = true
  r0 : rest ≠ []
  r1 : ∀ x, rest[0]? = some x → x ≠ Str.ofString "@"
  ro : (∀ x ∈ rest, PcOk x) ∧ rest.length ≤ 50
def spReadS (K : PySem.W.Frag) (CN CL CE : Addr) : Sp := fun vs H Q E => ∃ t : Str, vs = [.str t] ∧
  ((∃ pl : Plain, pl.Ok ∧ t = pl.text ∧ ∀ x H', Same H H' → MadeAt K H' CN CL x pl → Q (.ref x) H') ∨
   ∃ (p n : Str) (ws rest : List Str), Long p n ws rest ∧ t = Txt.join (Str.ofString " ") (longPcs p n ws rest) ∧ WantsF E CE "index" (.int 8) H)
theorem WantsF.same {E : XK} {C : Addr} {f : Str} {v : V} {H H' : Hp} (h : WantsF E C f v H) (s : Same H H') : WantsF E C f v H' := fun d G t n e => h d G (s.trans t) (s.free n) e
theorem gt_word : isWordD (.str (Str.ofString ">")) = false := by decide +kernel
section
variable {w : World} {K : PySem.W.Frag} {mg : Str → Option Value} {base : Heap} {C CE CN CL CW CC CS CJ CT : Addr} {fI fB fD fE fN' fX : Addr} {dI dB dD dE dN' dX : FuncData} {TE' : List Value}
abbrev nmRs : List Str := ["text", "reader", "person", "name", "chain", "days"]
theorem scReadS : FnScope nmRs ["text"] (defScope pReadS) := ⟨rfl, rfl, rfl, by decide +kernel, rfl, by decide +kernel, by decide +kernel⟩
/-- the reader's new instance -/
theorem rdr_made {C : Addr} {H : Hp} {t : Str} {ps : List Str} {Q : Addr → Hp → Prop} {E : XK} (hs : Txt.split t (Str.ofString " ") = ps) (lt : t.length ≤ 100000) (few : ps.length ≤ 1000) (ok : ∀ x ∈ ps, PcOk x)
    (k : ∀ x L H', H x = none → Same H H' → RdAt H' C x L ps 0 → Q x H') :
    ∀ x dx, H x = none → H dx = none → dx ≠ x → spRdI C [.ref x, .str t] (upd (upd H dx (.own x)) x (.ins C dx [])) (fun v H2 => v = .non ∧ Q x H2) E := by
  intro x dx nx ndx ne
  refine ⟨x, dx, t, ps, rfl, upd_same, hs, lt, few, fun y hy => ⟨by have := (ok y hy).1; omega, (ok y hy).2.1⟩, fun L H' hL e R => ⟨rfl, k x L H' nx (fun b o hb => ?_) R⟩⟩
  have b1 : b ≠ x := ne_of_none hb nx
  have b2 : b ≠ dx := ne_of_none hb ndx
  refine e b o ?_ b1
  rw [upd_ne b1, upd_ne b2]
  exact hb
theorem ok_readS {f : Addr} {fd : FuncData} (F : Fun K "read_statement" "read_statement" pReadS f fd) (is : mg "isinstance" = none) (st : mg "str" = none) (mN : ∃ t, mg "MAX_NAMES" = some (.int 4 t)) (Z : Rdr PySem.Challenge.pw_namechains_k79_statements_written_and_re w K mg base C)
    (MR : Mk K C fI) (GI : FnOk PySem.Challenge.pw_namechains_k79_statements_written_and_re w K mg base CX0 1 fI dI ["self", "text"] (spRdI C)) (mR : mg "Reader" = some (.ref C)) (bI : Binds K dI ["self", "text"] [])
    (GB : FnOk PySem.Challenge.pw_namechains_k79_statements_written_and_re w K mg base CX0 8 fB dB ["reader", "person"] (spLeaveB K CN CL C)) (mB : mg "_leave_behind" = some (.ref fB)) (kB : PySem.W.keepIn K (.ref fB) = true) (bB : Binds K dB ["reader", "person"] [])
    (GD : FnOk PySem.Challenge.pw_namechains_k79_statements_written_and_re w K mg base CX0 4 fD dD ["reader"] (spDaysR K C)) (mD : mg "_days" = some (.ref fD)) (kD : PySem.W.keepIn K (.ref fD) = true) (bD : Binds K dD ["reader"] [])
    (oE : Meth K C "finish" fE) (GE : FnOk PySem.Challenge.pw_namechains_k79_statements_written_and_re w K mg base (L2.CX PySem.Challenge.pw_namechains_k79_statements_written_and_re w) 3 fE dE ["self"] (spFinish C CE)) (bE : Binds K dE ["self"] [])
    (MN : Mk K CN fN') (GN : FnOk PySem.Challenge.pw_namechains_k79_statements_written_and_re w K mg base (L2.CX PySem.Challenge.pw_namechains_k79_statements_written_and_re w) 5 fN' dN' psN (spNam K CN CW CC CS)) (mNa : mg "Naming" = some (.ref CN)) (bN : Binds K dN' psN []) :
    FnOk PySem.Challenge.pw_namechains_k79_statements_written_and_re w K mg base (L2.CX PySem.Challenge.pw_namechains_k79_statements_written_and_re w) 9 f fd ["text"] (spReadS K CN CL CE) := by
  obtain ⟨tN, mN⟩ := mN
  obtain ⟨fX, oX, GX⟩ := Z.nx
  obtain ⟨fS', oS, GS'⟩ := Z.ts
  obtain ⟨fW, dW, oW, GW, bW⟩ := Z.tw
  obtain ⟨fC, dC, oC, GC, bC⟩ := Z.tc
  have c := Z.c
  refine F.okX scReadS (fun vs H Q E h => ?_) (fun cdv A outer s H vs Q E hr h => ?_)
  · obtain ⟨t, rfl, _⟩ := h
    rfl
  · obtain ⟨t, rfl, q⟩ := h
    have nd := scReadS.nd
    have szl : sizeLine = 16777216 := sizeLine_eq
    have pw : Passes (L2.CX PySem.Challenge.pw_namechains_k79_statements_written_and_re w) (cxOf (L2.CX PySem.Challenge.pw_namechains_k79_statements_written_and_re w) PySem.Challenge.pw_namechains_k79_statements_written_and_re w K mg base nmRs "read_statement" (defScope pReadS) f cdv A outer s H E) E := passes_call (takes_of rfl rfl rfl rfl) fun _ _ _ _ h => h
    have pw0 : Passes (L2.CX PySem.Challenge.pw_namechains_k79_statements_written_and_re w) (cxOf (L2.CX PySem.Challenge.pw_namechains_k79_statements_written_and_re w) PySem.Challenge.pw_namechains_k79_statements_written_and_re w K mg base nmRs "read_statement" (defScope pReadS) f cdv A outer s H E) E0 := passes_call (takes_of rfl rfl rfl rfl) fun _ _ _ _ h => h.elim
    refine ⟨_, pss_cons (ps_if (pt_not (pt_val (pe_callB (call_isD kit_str) (by rfl) is (by decide +kernel) (pa_cons (pv 0) (pa_cons (pe_bltn (v := .ty "str") (by rfl) st (by decide +kernel) rfl) pa_nil))))) psc_dead pss_nil)
      (pss_cons (ps_set (i := 1) nd rfl (Or.inl rfl) (pe_make MR GI (hr.mono (by decide)) (by rfl) mR bI .nil pass0 (pa_cons (pv 0) pa_nil)))
      (pss_cons (ps_set (i := 2) nd rfl (Or.inl rfl) (pe_meth0 (pv 1) c.cl oW GW (hr.mono (by decide)) bW .nil pass0))
      (pss_cons (ps_if (pt_val (pe_methR (pv 1) c.cl oX.mt GX (hr.mono (by decide)) pass0 (pa_cons pe_str pa_nil))) (pss_one (ps_ret (pe_call GB hr (by rfl) mB kB bB .nil pass0 (pa_cons (pv 1) (pa_cons (pv 2) pa_nil))))) pss_nil)
      (pss_cons (ps_set (i := 3) nd rfl (Or.inl rfl) (pe_meth0 (pv 1) c.cl oW GW (hr.mono (by decide)) bW .nil pass0))
      (pss_cons (ps_expr (pe_methR (pv 1) c.cl oS GS' (hr.mono (by decide)) pass0 (pa_cons pe_str pa_nil)))
      (pss_cons (ps_set (i := 4) nd rfl (Or.inl rfl) (pe_meth (pv 1) c.cl oC GC (hr.mono (by decide)) bC .nil pass0 (pa_cons (pe_glob (v := .int 4) (by rfl) mN ⟨tN, rfl⟩) pa_nil)))
      (pss_cons (ps_set (i := 5) nd rfl (Or.inl rfl) (pe_call GD (hr.mono (by decide)) (by rfl) mD kD bD .nil pass0 (pa_cons (pv 1) pa_nil)))
      (pss_cons (ps_expr (pe_meth0 (pv 1) c.cl oE GE (hr.mono (by decide)) bE .nil pw))
      (pss_one (ps_ret (pe_make MN GN (hr.mono (by decide)) (by rfl) mNa bN .nil pw0 (pa_cons (pv 2) (pa_cons (pv 3) (pa_cons (pv 4) (pa_cons (pv 5) pa_nil))))))))))))))), ?_⟩
    refine ⟨_, rfl, .str t, .str t, rfl, .str t, _, rfl, iteF ?_⟩
    unfold tNext
    dsimp only
    rcases q with ⟨pl, ok, rfl, q⟩ | ⟨p, n, ws, rest, lg, rfl, q⟩
    · obtain ⟨po, pn⟩ := pcs_ok ok
      cases pl with
      | nam p n ws i j =>
      obtain ⟨w1, w2, w3, sp⟩ := id ok
      obtain ⟨l1, l5⟩ := chain_len w3
      obtain ⟨di, dl⟩ := pcs_days sp
      have ne : (Plain.nam p n ws i j).pcs ≠ [] := fun z => by cases z
      have hs1 : Txt.split (Plain.nam p n ws i j).text (Str.ofString " ") = (Plain.nam p n ws i j).pcs := by rw [text_pcs ok]; exact split_pcs ne po
      have hs2 : (Plain.nam p n ws i j).text.length ≤ 100000 := by rw [text_pcs ok]; exact join_len_pcs pn po
      refine ⟨_, rfl, ?_⟩
      dsimp only [tCons, tNil]
      refine rdr_made hs1 hs2 (by omega) po fun r L H1 nr S1 R1 => ?_
      refine setIt ?_
      try dsimp only
      obtain ⟨dx1, h11, _⟩ := id R1.at_
      have o01 : ∀ {G : Hp}, Old r H1 G → Same H G := fun {G} o b u hb => o _ _ (S1 _ _ hb) (ne_of_none hb nr)
      have sg : Seg (Plain.nam p n ws i j).pcs 0 (p :: n :: Str.ofString "=" :: (ws ++ daysPc i j)) := Seg.refl
      have elen : (Plain.nam p n ws i j).pcs.length = 3 + ws.length + (daysPc i j).length := by
        show (p :: n :: Str.ofString "=" :: (ws ++ daysPc i j)).length = _
        simp only [List.length_cons, List.length_append]
        omega
      generalize (Plain.nam p n ws i j).pcs = ps at R1 sg elen
      have sl0 := sp.lo
      have sl1 := sp.le
      have sl2 := sp.hi
      obtain ⟨i', rfl⟩ := nat_of sl0
      obtain ⟨j', rfl⟩ := nat_of (Int.le_trans sl0 sl1)
      have dcase : (((i' : Int) = 0 ∧ (j' : Int) = 10 ^ 30) ∧ daysPc (i' : Int) (j' : Int) = []) ∨ (¬ ((i' : Int) = 0 ∧ (j' : Int) = 10 ^ 30) ∧ daysPc (i' : Int) (j' : Int) = [Str.ofString "@", numS (i' : Int), numS (j' : Int)]) := by
        by_cases ij : (i' : Int) = 0 ∧ (j' : Int) = 10 ^ 30
        · exact .inl ⟨ij, if_pos ij⟩
        · exact .inr ⟨ij, if_neg ij⟩
      have stop : nextWord ps (3 + ws.length) = false := by
        rcases dcase with ⟨_, ed⟩ | ⟨_, ed⟩
        · rw [ed] at elen
          refine nextWord_no fun x hx => ?_
          have := (List.getElem?_eq_some_iff.mp hx).1
          simp at elen
          omega
        · have z := sg.tail.tail.tail.right
          rw [ed] at z
          refine nextWord_no fun x hx => ?_
          have z2 := z.head
          rw [show 0 + 1 + 1 + 1 + ws.length = 3 + ws.length by omega, hx] at z2
          rw [Option.some.inj z2]
          decide +kernel
      refine ⟨_, rfl, r, dx1, _, rfl, h11, rl0 (by decide +kernel) (by decide +kernel), r, L, _, 0, p, rfl, R1, sg.head, w1, fun H2 R2 o2 => ?_⟩
      refine setIt ?_
      try dsimp only
      obtain ⟨dx2, h21, _⟩ := id R2.at_
      refine ⟨_, rfl, r, dx2, _, rfl, h21, rl0 (by decide +kernel) (by decide +kernel), isNext R2 fun H3 S3 => ?_⟩
      rw [nextIn_no (k := 0 + 1) fun x hx => by
        rw [sg.tail.head] at hx
        cases hx
        intro z
        rw [List.mem_singleton.mp z] at w2
        rw [gt_word] at w2
        cases w2]
      refine ⟨_, rfl, iteF ?_⟩
      try unfold tNext
      try dsimp only
      have R3 := R2.same S3
      refine ⟨_, rfl, r, dx2, _, rfl, S3 _ _ h21, rl0 (by decide +kernel) (by decide +kernel), r, L, _, 1, n, rfl, R3, sg.tail.head, w2, fun H4 R4 o4 => ?_⟩
      refine setIt ?_
      try dsimp only
      obtain ⟨dx4, h41, _⟩ := id R4.at_
      refine ⟨_, rfl, r, dx4, _, rfl, h41, rl0 (by decide +kernel) (by decide +kernel), takeS R4 sg.tail.tail.head fun H5 R5 o5 => ?_⟩
      obtain ⟨dx5, h51, _⟩ := id R5.at_
      have sW := sg.tail.tail.tail.left
      have sR := sg.tail.tail.tail.right
      refine ⟨_, rfl, r, dx5, _, rfl, h51, rl0 (by decide +kernel) (by decide +kernel), r, L, _, ws, 3, rfl, R5, l1, l5, (sW.words w3), .inr stop, fun ch H6 hch R6 o6 => ?_⟩
      refine setIt ?_
      try dsimp only
      have o16 : Old r H1 H6 := Old.trans o2 (Old.trans (Same.old S3) (Old.trans o4 (Old.trans o5 o6)))
      obtain ⟨dx6, h61, _⟩ := id R6.at_
      refine ⟨_, rfl, ?_⟩
      dsimp only [tCons, tNil]
      have dstep : ∀ (Q' : VK), (∀ v H8, DaysV K H8 v (i' : Int) (j' : Int) → RdAt H8 C r L ps ps.length → Old r H6 H8 → Q' v H8) → spDaysR K C [.ref r] H6 Q' E0 := by
        intro Q' q
        rw [elen] at q
        refine ⟨r, L, ps, 3 + ws.length, rfl, R6, ?_⟩
        rw [show 0 + 1 + 1 + 1 + ws.length = 3 + ws.length by omega] at sR
        rcases dcase with ⟨ij, ed⟩ | ⟨ij, ed⟩
        · rw [ed] at elen q
          refine .inl ⟨fun x hx => ?_, fun H8 S8 => q _ H8 (.inl ⟨rfl, ij.1, ij.2⟩) (R6.same S8) (Same.old S8)⟩
          have := (List.getElem?_eq_some_iff.mp hx).1
          simp at elen
          omega
        · rw [ed] at sR q
          exact .inr ⟨i', j', sR.head, sR.tail.head, sR.tail.tail.head, by omega, by omega, fun z => ij ⟨by omega, by omega⟩, fun q' H8 hq R8 o8 => q _ H8 (.inr (da_stretch hq)) R8 o8⟩
      refine dstep _ fun vd H8 dv8 R8 o8 => ?_
      refine setIt ?_
      try dsimp only
      obtain ⟨dx8, h81, _⟩ := id R8.at_
      refine ⟨_, rfl, r, dx8, _, rfl, h81, rl0 (by decide +kernel) (by decide +kernel), r, L, ps, _, rfl, R8, .inl ⟨rfl, ?_⟩⟩
      refine ⟨_, rfl, _, rfl, _, rfl, _, rfl, ?_⟩
      exact made_nam (CL := CL) ok (sqT_old hch h61 o8) dv8 fun x H' S' m => q x H' ((o01 (Old.trans o16 o8)).trans S') m
      | lea p dj g h i j t =>
      obtain ⟨w1, w2, sg', sp, n9⟩ := id ok
      have ne : (Plain.lea p dj g h i j t).pcs ≠ [] := fun z => by cases z
      have hs1 : Txt.split (Plain.lea p dj g h i j t).text (Str.ofString " ") = (Plain.lea p dj g h i j t).pcs := by rw [text_pcs ok]; exact split_pcs ne po
      have hs2 : (Plain.lea p dj g h i j t).text.length ≤ 100000 := by rw [text_pcs ok]; exact join_len_pcs pn po
      refine ⟨_, rfl, ?_⟩
      dsimp only [tCons, tNil]
      refine rdr_made hs1 hs2 (by omega) po fun r L H1 nr S1 R1 => ?_
      refine setIt ?_
      try dsimp only
      obtain ⟨dx1, h11, _⟩ := id R1.at_
      have o01 : ∀ {G : Hp}, Old r H1 G → Same H G := fun {G} o b u hb => o _ _ (S1 _ _ hb) (ne_of_none hb nr)
      have sg : Seg (Plain.lea p dj g h i j t).pcs 0 (p :: Str.ofString ">" :: (subjPc dj ++ Str.ofString ":" :: numS g :: numS h :: (daysPc i j ++ timesPc t))) := Seg.refl
      refine ⟨_, rfl, r, dx1, _, rfl, h11, rl0 (by decide +kernel) (by decide +kernel), r, L, _, 0, p, rfl, R1, sg.head, w1, fun H2 R2 o2 => ?_⟩
      refine setIt ?_
      try dsimp only
      obtain ⟨dx2, h21, _⟩ := id R2.at_
      refine ⟨_, rfl, r, dx2, _, rfl, h21, rl0 (by decide +kernel) (by decide +kernel), isNext R2 fun H3 S3 => ?_⟩
      rw [nextIn_yes (k := 0 + 1) sg.tail.head (List.mem_singleton.mpr rfl)]
      refine ⟨_, rfl, iteT ?_⟩
      refine ⟨_, rfl, _, rfl, r, L, p, dj, g, h, i, j, t, rfl, ok, R2.same S3, fun x H' m o => q x H' (o01 (Old.trans o2 (Old.trans (Same.old S3) o))) m⟩
    · obtain ⟨w1, w2, w5, ww, r0, r1, ro, rl⟩ := lg
      have po : ∀ x ∈ longPcs p n ws rest, PcOk x := fun x hx => by
        unfold longPcs at hx
        simp only [List.mem_cons, List.mem_append] at hx
        rcases hx with rfl | rfl | rfl | hx | hx
        · exact pc_word w1
        · exact pc_word w2
        · exact pc_eq
        · exact pc_word (ww x hx)
        · exact ro x hx
      have elen : (longPcs p n ws rest).length = 8 + rest.length := by
        unfold longPcs
        simp only [List.length_cons, List.length_append]
        omega
      have ne : longPcs p n ws rest ≠ [] := fun z => by cases z
      have l1 : 1 ≤ ws.length := by omega
      have l5 : ws.length ≤ 5 := by omega
      have rn := List.length_pos_iff.mpr r0
      refine ⟨_, rfl, ?_⟩
      dsimp only [tCons, tNil]
      refine rdr_made (split_pcs ne po) (join_len_pcs (by omega) po) (by omega) po fun r L H1 nr S1 R1 => ?_
      refine setIt ?_
      try dsimp only
      obtain ⟨dx1, h11, _⟩ := id R1.at_
      have o01 : ∀ {G : Hp}, Old r H1 G → Same H G := fun {G} o b u hb => o _ _ (S1 _ _ hb) (ne_of_none hb nr)
      have sg : Seg (longPcs p n ws rest) 0 (p :: n :: Str.ofString "=" :: (ws ++ rest)) := Seg.refl
      generalize longPcs p n ws rest = ps at R1 sg elen
      refine ⟨_, rfl, r, dx1, _, rfl, h11, rl0 (by decide +kernel) (by decide +kernel), r, L, _, 0, p, rfl, R1, sg.head, w1, fun H2 R2 o2 => ?_⟩
      refine setIt ?_
      try dsimp only
      obtain ⟨dx2, h21, _⟩ := id R2.at_
      refine ⟨_, rfl, r, dx2, _, rfl, h21, rl0 (by decide +kernel) (by decide +kernel), isNext R2 fun H3 S3 => ?_⟩
      rw [nextIn_no (k := 0 + 1) fun x hx => by
        rw [sg.tail.head] at hx
        cases hx
        intro z
        rw [List.mem_singleton.mp z] at w2
        rw [gt_word] at w2
        cases w2]
      refine ⟨_, rfl, iteF ?_⟩
      try unfold tNext
      try dsimp only
      have R3 := R2.same S3
      refine ⟨_, rfl, r, dx2, _, rfl, S3 _ _ h21, rl0 (by decide +kernel) (by decide +kernel), r, L, _, 1, n, rfl, R3, sg.tail.head, w2, fun H4 R4 o4 => ?_⟩
      refine setIt ?_
      try dsimp only
      obtain ⟨dx4, h41, _⟩ := id R4.at_
      refine ⟨_, rfl, r, dx4, _, rfl, h41, rl0 (by decide +kernel) (by decide +kernel), takeS R4 sg.tail.tail.head fun H5 R5 o5 => ?_⟩
      obtain ⟨dx5, h51, _⟩ := id R5.at_
      have sW := sg.tail.tail.tail.left
      have sR := sg.tail.tail.tail.right
      refine ⟨_, rfl, r, dx5, _, rfl, h51, rl0 (by decide +kernel) (by decide +kernel), r, L, _, ws, 3, rfl, R5, l1, l5, (fun i x hx => ⟨sW i x hx, ww x (List.mem_of_getElem? hx)⟩), .inl w5, fun ch H6 hch R6 o6 => ?_⟩
      refine setIt ?_
      try dsimp only
      have o16 : Old r H1 H6 := Old.trans o2 (Old.trans (Same.old S3) (Old.trans o4 (Old.trans o5 o6)))
      obtain ⟨dx6, h61, _⟩ := id R6.at_
      refine ⟨_, rfl, ?_⟩
      dsimp only [tCons, tNil]
      rw [w5] at R6 sR
      refine ⟨r, L, ps, 8, rfl, R6, .inl ⟨fun x hx => ?_, fun H8 S8 => ?_⟩⟩
      · refine r1 x ?_
        obtain ⟨x0, hx0⟩ : ∃ x0, rest[0]? = some x0 := ⟨rest[0], List.getElem?_eq_getElem rn⟩
        have z := sR 0 x0 hx0
        have z2 : ps[8]? = some x0 := z
        rw [hx] at z2
        rw [hx0, Option.some.inj z2]
      · refine setIt ?_
        try dsimp only
        have R8 := R6.same S8
        obtain ⟨dx8, h81, _⟩ := id R8.at_
        refine ⟨_, rfl, r, dx8, _, rfl, h81, rl0 (by decide +kernel) (by decide +kernel), r, L, ps, 8, rfl, R8, .inr ⟨by omega, q.same (o01 (Old.trans o16 (Same.old S8)))⟩⟩
end
end LW

/-! The law's own text of a statement. -/
namespace LW
open PySem L2 G
abbrev sTextL : Stmt := top 62
theorem txt_join (sep : Str) (l : List Str) : Txt.join sep l = Str.join sep l := StrLaws.glued_eq_join _ _
theorem share_text (m : Int) {wss : List (List Str)} (h : 1 ≤ wss.length) : Txt.join " / " (Str.ofString (toString m) :: wss.map chainT) = shareT m wss := by
  cases wss with
  | nil => simp at h
  | cons w r =>
    unfold shareT
    rw [txt_join, txt_join, Str.empty_append]
    rfl
theorem subjT_share {m : Int} {wss : List (List Str)} (c : isChainD (.tuple [.int m, .tuple (wss.map chD)]) 4 = false) : subjT (.tuple [.int m, .tuple (wss.map chD)]) = shareT m wss := by
  unfold subjT
  rw [c, if_neg Bool.false_ne_true]
  show shareT m ((wss.map chD).map wordsD) = _
  rw [List.map_map]
  congr 1
  exact (List.map_congr_left fun q _ => wordsD_chain q).trans (List.map_id wss)
theorem subjT_chain {ws : List Str} (c : isChainD (chD ws) 4 = true) : subjT (chD ws) = chainT ws := by
  unfold subjT
  rw [if_pos c, wordsD_chain]
theorem chain_few {ws : List Str} (c : isChainD (chD ws) 4 = true) : (ws.map (·.length)).sum + ws.length ≤ 45 ∧ 1 ≤ ws.length := by
  obtain ⟨ws2, e, l1, l5, w8⟩ := chain_inv c
  have e2 : ws = ws2 := by
    have := congrArg wordsD e
    rwa [wordsD_chain, wordsD_chain] at this
  subst e2
  exact ⟨sumW w8 (by omega), l1⟩
/-- the rows of a share, in the heap -/
theorem da_rows {K : PySem.W.Frag} {H : Hp} : ∀ {xs : List V} {wss : List (List Str)}, DaAll K H xs (wss.map chD) → ∀ {i : Nat} {x : V}, xs[i]? = some x → ∃ ws a, wss[i]? = some ws ∧ x = .ref a ∧ SqT K H a (ws.map V.str)
  | _, [], .nil, _, _, e => by simp at e
  | _, w :: r, .cons p q, 0, x, e => by
    obtain ⟨a, rfl, s⟩ := da_chain p
    cases e
    exact ⟨w, a, rfl, rfl, s⟩
  | _, w :: r, .cons p q, i + 1, x, e => da_rows (i := i) q (by simpa using e)
def rJ (K : PySem.W.Frag) : V → List V → Hp → VK → Prop := fun x xs H Q => ∃ a p ys, x = V.str a ∧ xs = [V.ref p] ∧ (SqL K H p (ys.map V.str) ∨ SqT K H p (ys.map V.str)) ∧ (ys.map (·.length)).sum + ys.length * a.length ≤ 16777216 ∧ Q (V.str (Txt.join a ys)) H
def tailT (i j : Int) : Str := if i = 0 ∧ j = 10 ^ 30 then "" else " @ " ++ Str.ofString (toString i) ++ " " ++ Str.ofString (toString j)
theorem tail_days (i j : Int) : tailT i j = daysT i j := by
  unfold tailT daysT
  split
  · rfl
  · rw [Str.empty_append]
def manyT (t : Option Int) : Str := match t with
  | none => ""
  | some i => " + " ++ Str.ofString (toString i)
theorem many_times (t : Option Int) : manyT t = timesT t := by
  cases t with
  | none => rfl
  | some i =>
    unfold manyT timesT
    dsimp only
    rw [Str.empty_append]
def Plain.days : Plain → Int × Int
  | .nam _ _ _ i j => (i, j)
  | .lea _ _ _ _ i j _ => (i, j)
theorem days_at {K : PySem.W.Frag} {H : Hp} {v : V} {pl : Plain} {i j : Int} (h : Da K H v pl.d) (ok : pl.Ok) (e : pl.days = (i, j)) : ∃ (a : Addr) (xs : List V) (q : Addr), v = .ref a ∧ SqT K H a xs ∧ atI xs 4 = some (.ref q) ∧ SqT K H q [.int i, .int j] ∧ Span i j := by
  cases pl with
  | nam p n ws i' j' =>
    cases e
    obtain ⟨a, v1, v2, v3, v4, v5, rfl, hS, a1, a2, a3, a4, a5⟩ := da_five h
    obtain ⟨q, rfl, hq⟩ := da_pair a5
    exact ⟨a, _, q, rfl, hS, rfl, hq, ok.2.2.2⟩
  | lea p dj g h' i' j' t =>
    cases e
    obtain ⟨a, v1, v2, v3, v4, v5, v6, rfl, hS, a1, a2, a3, a4, a5, a6⟩ := da_six h
    obtain ⟨q, rfl, hq⟩ := da_pair a5
    exact ⟨a, _, q, rfl, hS, rfl, hq, ok.2.2.2.1⟩

abbrev nmTx : List Str := ["_law_plain", "_law_days_here", "_law_goal", "_law_links", "_law_tags", "_law_often"]
theorem scTextL : FnScope nmTx ["_law_plain"] (defScope sTextL) := ⟨rfl, rfl, rfl, by decide +kernel, rfl, by decide +kernel, by decide +kernel⟩
abbrev XTx (P : Program) (w : World) (K : PySem.W.Frag) (mg : Str → Option Value) (base : Heap) (f : Addr) (cdv : Value) (A : Around) (outer : List Env) (s : Shared) (H : Hp) (E : XK) : Cx :=
  (cxOf CX0 P w K mg base nmTx "_law_text" (defScope sTextL) f cdv A outer s H E).nox
def spTextL (K : PySem.W.Frag) : Sp := fun vs H Q _ => ∃ (v : V) (pl : Plain), vs = [v] ∧ Da K H v pl.d ∧ pl.Ok ∧ ∀ H', Same H H' → Q (.str pl.text) H'
section
variable {P : Program} {w : World} {K : PySem.W.Frag} {mg : Str → Option Value} {base : Heap} {f : Addr} {cdv : Value} {A : Around} {outer : List Env} {s : Shared} {HS : Hp} {E : XK}
abbrev tb (i : Nat) : Stmt := nth (defBody sTextL) i
theorem tx_goal (Is : mg "isinstance" = none) (St : mg "str" = none) :
    ∃ t, PS (XTx P w K mg base f cdv A outer s HS E) (tb 2) t ∧ ∀ (D : Ends) (H : Hp) (v : V) (d : PyData) (a : Addr) (xs : List V) (u1 u4 u5 : Option V), SqT K H a xs → atI xs 2 = some v → Da K H v d → subjD d = true →
      (∀ (H' : Hp), Same H H' → D.nx [some (.ref a), u1, some (.str (subjT d)), none, u4, u5] H') → t D [some (.ref a), u1, none, none, u4, u5] H := by
  have nd := scTextL.nd
  refine ⟨_, ps_if (pt_val (pe_callB (call_isD kit_str) (by rfl) Is (by decide +kernel) (pa_cons (pe_ix ix_tup (pe_ix ix_tup (pv 0) pe_int (fun _ _ => rfl)) pe_int (fun _ _ => rfl)) (pa_cons (pe_bltn (v := .ty "str") (by rfl) St (by decide +kernel) rfl) pa_nil))))
    (pss_one (ps_set (i := 2) nd rfl (Or.inl rfl) (pe_join pe_str (pe_ix ix_tup (pv 0) pe_int (fun _ _ => rfl)))))
    (pss_one (ps_set (i := 2) nd rfl (Or.inl rfl) (pe_join pe_str (pe_op op_cat (pe_lst (pa_cons (pe_callTy call_str_int (by rfl) St (by decide +kernel) (pa_cons (pe_ix ix_tup (pe_ix ix_tup (pv 0) pe_int (fun _ _ => rfl)) pe_int (fun _ _ => rfl)) pa_nil)) pa_nil))
        (pe_lc (own := [("_law_links", 3)]) (g := gName 3) (tt := tYes) (te := tM1 (rJ K) (tC (.str " ")) (tVar 3)) rfl nd (pi_tup (pe_ix ix_tup (pe_ix ix_tup (pv 0) pe_int (fun _ _ => rfl)) pe_int (fun _ _ => rfl)))
        (blkOk_by (own := [("_law_links", 3)]) (N := nmTx) (sc := defScope sTextL) (by decide +kernel))
        (fun _ _ _ _ _ => pg_name (i := 3) nd rfl (Or.inl rfl)) (fun _ _ _ _ _ => pts_nil) (fun _ _ _ _ _ => pe_join pe_str (pv 3))))))), ?_⟩
  intro D H v d p xs0 u1 u4 u5 hP hv hd ok k
  rcases subj_cases ok with ⟨ws, rfl, c⟩ | ⟨m, wss, rfl, c, l1, l4, ch, m1, m2, nd⟩
  · obtain ⟨few, w1⟩ := chain_few c
    obtain ⟨a, rfl, hS⟩ := da_chain hd
    obtain ⟨x, xs, rfl⟩ : ∃ x xs, ws = x :: xs := by
      cases ws with
      | nil => simp at w1
      | cons x xs => exact ⟨x, xs, rfl⟩
    refine ⟨_, rfl, p, xs0, 2, _, rfl, rfl, hP, hv, a, _, 0, .str x, rfl, rfl, hS, (by rw [List.map_cons]; unfold atI ixN; rw [if_pos (by decide), if_pos (by rw [List.length_cons]; omega)]; rfl), .str x, .str x, rfl, .str x, _, rfl, iteT ?_⟩
    rw [subjT_chain c] at k
    refine ⟨⟨_, rfl⟩, _, rfl, p, xs0, 2, _, rfl, rfl, hP, hv, _, a, x :: xs, rfl, rfl, .inr hS, ?_, k H (Same.refl H)⟩
    rw [blank]
    omega
  · rw [subjT_share c] at k
    obtain ⟨a, v1, v2, rfl, hS, hA1, hA2⟩ : ∃ a v1 v2, v = .ref a ∧ SqT K H a [v1, v2] ∧ Da K H v1 (.int m) ∧ Da K H v2 (.tuple (wss.map chD)) := by
      cases hd with
      | tup s a =>
        cases a with
        | cons p q =>
          cases q with
          | cons p' q' =>
            cases q'
            exact ⟨_, _, _, rfl, s, p, p'⟩
    cases hA1
    obtain ⟨b, ys, rfl, hB, hY⟩ : ∃ b ys, v2 = .ref b ∧ SqT K H b ys ∧ DaAll K H ys (wss.map chD) := by
      cases hA2 with
      | tup s a => exact ⟨_, _, rfl, s, a⟩
    have ly := hY.length
    rw [List.length_map] at ly
    have m0 : (0 : Int) ≤ m := by omega
    have mb : m ≤ 10 ^ 30 := by
      have : (4 : Int) ≤ 10 ^ 30 := by decide +kernel
      omega
    refine ⟨_, rfl, p, xs0, 2, _, rfl, rfl, hP, hv, a, _, 0, .int m, rfl, rfl, hS, rfl, .int m, .int m, rfl, .int m, _, rfl, iteF ?_⟩
    refine ⟨⟨_, rfl⟩, _, rfl, p, xs0, 2, _, rfl, rfl, hP, hv, a, _, 0, .int m, rfl, rfl, hS, rfl, m, rfl, num_log m0 mb, (by show 1 ≤ sizeLine; decide), fun L1 h1 => ?_⟩
    have s1 := same_new (o := .lst [V.str (Str.ofString (toString m))]) h1
    refine ⟨_, rfl, p, xs0, 2, _, rfl, rfl, sqT_same s1 hP, hv, a, _, 1, .ref b, rfl, rfl, sqT_same s1 hS, rfl, b, rfl, ⟨_, sqT_same s1 hB⟩, fun D hD => ?_⟩
    refine lc_it (walk_tup (xs := ys)) (fun i G => G D = some (.lst ((wss.take i).map fun ws => V.str (chainT ws))) ∧ Same (upd H L1 (.lst [V.str (Str.ofString (toString m))])) G) ⟨by rw [upd_same]; rfl, same_new hD⟩ (fun i G _ pv => sqT_same pv.2 (sqT_same s1 hB)) (fun i x G G' hi pv y => ?_) (fun G pv => ?_)
    · obtain ⟨rfl, hx⟩ := y
      obtain ⟨gD, S⟩ := pv
      obtain ⟨ws, q, hw, rfl, sq⟩ := da_rows hY hx
      have few := (chain_few (ch ws (List.mem_of_getElem? hw))).1
      have tk : wss.take (i + 1) = wss.take i ++ [ws] := by rw [List.take_add_one, hw]; rfl
      refine ⟨rfl, ⟨_, rfl⟩, _, rfl, _, q, ws, rfl, rfl, .inr (sqT_same S (sqT_same s1 sq)), by rw [blank]; omega, ?_⟩
      exact ⟨_, gD, by rw [List.length_map, List.length_take, sizeLine_eq]; omega, by rw [upd_same, tk, List.map_append]; rfl, fun b o e' => by rw [upd_ne (ne_of_none e' hD)]; exact S _ _ e'⟩
    · obtain ⟨gD, S⟩ := pv
      have ft : wss.take ys.length = wss := List.take_of_length_le (by omega)
      rw [ft] at gD
      refine ⟨L1, D, _, _, rfl, rfl, S _ _ upd_same, gD, by rw [List.length_map, sizeLine_eq]; simp; omega, fun p hp => ?_⟩
      have s3 := same_new (o := .lst ([V.str (Str.ofString (toString m))] ++ wss.map fun ws => V.str (chainT ws))) hp
      have e : ([V.str (Str.ofString (toString m))] ++ wss.map fun ws => V.str (chainT ws)) = (Str.ofString (toString m) :: wss.map chainT).map V.str := by
        rw [List.map_cons, List.map_map]
        rfl
      have jl := join_le (wss := wss) fun ws hw => by have := (chain_few (ch ws hw)).1; omega
      have nl := num_len m0 mb
      have a3 : (Str.ofString " / ").length = 3 := by decide +kernel
      refine ⟨_, p, _, rfl, rfl, .inl (SqL.of (by rw [upd_same, e])), ?_, ?_⟩
      · rw [a3, List.map_cons, List.sum_cons, List.length_cons, List.length_map]
        omega
      · rw [share_text m l1]
        exact k _ (s1.trans (S.trans s3))

theorem ok_textL {f : Addr} {fd : FuncData} (F : Fun K "_law_text" "_law_text" sTextL f fd) (Is : mg "isinstance" = none) (St : mg "str" = none) :
    FnOk P w K mg base CX0 1 f fd ["_law_plain"] (spTextL K) := by
  refine F.ok scTextL (fun vs H Q E h => ?_) (fun cdv A outer s H vs Q E hr h => ?_)
  · obtain ⟨v, pl, rfl, _⟩ := h
    rfl
  · obtain ⟨v, pl, rfl, hd, ok, k⟩ := h
    have hu := hr.units
    have nd := scTextL.nd
    have pw : (0 : Int) ≤ 30 ∧ (30 : Int) ≤ 1000000 ∧ (10 : Int).natAbs < 2 ^ 64 := ⟨by decide, by decide, by decide⟩
    have c3 : (Str.ofString " @ ").length = 3 := by decide +kernel
    have c1 : (Str.ofString " ").length = 1 := by decide +kernel
    have c4 : (Str.ofString " = ").length = 3 := by decide +kernel
    have c5 : (Str.ofString " > ").length = 3 := by decide +kernel
    have c6 : (Str.ofString " : ").length = 3 := by decide +kernel
    have c7 : (Str.ofString " + ").length = 3 := by decide +kernel
    obtain ⟨tg, pg, kg⟩ := tx_goal (P := P) (w := w) (K := K) (mg := mg) (base := base) (f := f) (cdv := cdv) (A := A) (outer := outer) (s := s) (HS := H) (E := E) Is St
    -- what is behind the days
    obtain ⟨tr, pr, kr⟩ : ∃ tr : TS, PSs (XTx P w K mg base f cdv A outer s H E) ((defBody sTextL).drop 1) tr ∧
        ∀ (i j : Int) (H1 : Hp), Same H H1 → pl.days = (i, j) → tr { nx := fun _ H' => Q V.non H', rt := Q } [some v, some (.str (daysT i j)), none, none, none, none] H1 := by
      refine ⟨_, pss_cons (ps_if (pt_cmpR op_eq (pe_ix ix_tup (pv 0) pe_int (fun _ _ => rfl)) pe_str (nomark _))
        (pss_one (ps_ret (pe_op op_add_str (pe_op op_add_str (pe_op op_add_str (pe_op op_add_str (pe_op op_add_str (pe_ix ix_tup (pv 0) pe_int (fun _ _ => rfl)) pe_str) (pe_ix ix_tup (pv 0) pe_int (fun _ _ => rfl))) pe_str) (pe_join pe_str (pe_ix ix_tup (pv 0) pe_int (fun _ _ => rfl)))) (pv 1)))) pss_nil)
        (pss_cons pg
        (pss_cons (ps_set (i := 4) nd rfl (Or.inl rfl) (pe_op op_add_str (pe_op op_add_str (pe_callTy call_str_int (by rfl) St (by decide +kernel) (pa_cons (pe_ix ix_tup (pe_ix ix_tup (pv 0) pe_int (fun _ _ => rfl)) pe_int (fun _ _ => rfl)) pa_nil)) pe_str) (pe_callTy call_str_int (by rfl) St (by decide +kernel) (pa_cons (pe_ix ix_tup (pe_ix ix_tup (pv 0) pe_int (fun _ _ => rfl)) pe_int (fun _ _ => rfl)) pa_nil))))
        (pss_cons (ps_set (i := 5) nd rfl (Or.inl rfl) (pe_ifExp (pt_cmpR op_isN (pe_ix ix_tup (pv 0) pe_int (fun _ _ => rfl)) pe_non (nomark _)) pe_str (pe_op op_add_str pe_str (pe_callTy call_str_int (by rfl) St (by decide +kernel) (pa_cons (pe_ix ix_tup (pv 0) pe_int (fun _ _ => rfl)) pa_nil)))))
        (pss_one (ps_ret (pe_op op_add_str (pe_op op_add_str (pe_op op_add_str (pe_op op_add_str (pe_op op_add_str (pe_op op_add_str (pe_ix ix_tup (pv 0) pe_int (fun _ _ => rfl)) pe_str) (pv 2)) pe_str) (pv 4)) (pv 1)) (pv 5))))))), ?_⟩
      intro i j H1 S1 ed
      cases pl with
      | nam p n ws i' j' =>
        cases ed
        obtain ⟨a, v1, v2, v3, v4, v5, rfl, hS, a1, a2, a3, a4, a5⟩ := da_five (hd.same S1)
        obtain ⟨w1, w2, w3, sp⟩ := ok
        obtain ⟨c, rfl, hc⟩ := da_chain a4
        cases a1
        cases a2
        cases a3
        have i0 := sp.lo
        have ij := sp.le
        have j1 := sp.hi
        obtain ⟨zp, ep, _, lp⟩ := word_inv w1
        cases ep
        obtain ⟨zn, en, _, ln⟩ := word_inv w2
        cases en
        obtain ⟨few, _⟩ := chain_few w3
        have lc := chainT_len (ws := ws)
        have ld := daysT_len i0 (by omega) (by omega) j1
        refine ⟨_, rfl, a, _, 0, _, rfl, rfl, hS, rfl, rfl, _, rfl, iteT ?_⟩
        refine ⟨_, rfl, a, _, 1, _, rfl, rfl, hS, rfl, _, _, rfl, rfl, by rw [c1, sizeLine_eq]; omega, ?_⟩
        refine ⟨_, rfl, a, _, 2, _, rfl, rfl, hS, rfl, _, _, rfl, rfl, by rw [sl, c1, sizeLine_eq]; omega, ?_⟩
        refine ⟨_, _, rfl, rfl, by rw [sl, sl, c1, c4, sizeLine_eq]; omega, ?_⟩
        refine ⟨⟨_, rfl⟩, _, rfl, a, _, 3, _, rfl, rfl, hS, rfl, _, c, ws, rfl, rfl, .inr hc, by rw [c1]; omega, ?_⟩
        have lj : (Txt.join (Str.ofString " ") ws).length ≤ 100 := by
          have z := lc
          unfold chainT at z
          omega
        refine ⟨_, _, rfl, rfl, by rw [sl, sl, sl, c1, c4, sizeLine_eq]; omega, ?_⟩
        refine ⟨_, rfl, _, _, rfl, rfl, by rw [sl, sl, sl, sl, c1, c4, sizeLine_eq]; omega, ?_⟩
        have e : namT p n ws i j = p ++ Str.ofString " " ++ n ++ Str.ofString " = " ++ Txt.join (Str.ofString " ") ws ++ daysT i j := by
          unfold namT chainT
          rw [Str.empty_append]
        have kk := k H1 S1
        rw [show Plain.text (.nam p n ws i j) = _ from e] at kk
        exact kk
      | lea p dj g h i' j' t =>
        cases ed
        obtain ⟨a, v1, v2, v3, v4, v5, v6, rfl, hS, a1, a2, a3, a4, a5, a6⟩ := da_six (hd.same S1)
        obtain ⟨w1, w2, sg, sp, n9⟩ := ok
        obtain ⟨ag, rfl, hag⟩ := da_pair a4
        obtain ⟨en, _⟩ := times_inv (times_ok n9) a6
        have to : timesO (timesP t) = t := by cases t <;> rfl
        rw [to] at en
        subst en
        cases a1
        cases a2
        have i0 := sp.lo
        have ij := sp.le
        have j1 := sp.hi
        have g0 := sg.lo
        have gh := sg.le
        have h1 := sg.hi
        have m1 := num_len g0 (by omega)
        have m2 := num_len (i := h) (by omega) h1
        obtain ⟨zp, ep, _, lp⟩ := word_inv w1
        cases ep
        have ls : (subjT dj).length ≤ 100000 := by
          obtain ⟨_, _, y⟩ := subj_at w2 a3
          exact y.1
        have ld := daysT_len i0 (by omega) (by omega) j1
        refine ⟨_, rfl, a, _, 0, _, rfl, rfl, hS, rfl, rfl, _, rfl, iteF ?_⟩
        unfold tNext
        dsimp only
        refine kg _ H1 v3 dj a _ _ _ _ hS rfl a3 w2 fun H2 S2 => ?_
        have hS2 := sqT_same S2 hS
        have hag2 := sqT_same S2 hag
        refine ⟨_, rfl, a, _, 3, _, rfl, rfl, hS2, rfl, ag, _, 0, _, rfl, rfl, hag2, rfl, g, rfl, num_log g0 (by omega), _, _, rfl, rfl, by rw [c1, sizeLine_eq]; omega, ?_⟩
        refine ⟨_, rfl, a, _, 3, _, rfl, rfl, hS2, rfl, ag, _, 1, _, rfl, rfl, hag2, rfl, h, rfl, num_log (by omega) h1, _, _, rfl, rfl, by rw [sl, c1, sizeLine_eq]; omega, ?_⟩
        have e : Plain.text (.lea p dj g h i j t) = p ++ Str.ofString " > " ++ subjT dj ++ Str.ofString " : " ++ (Str.ofString (toString g) ++ Str.ofString " " ++ Str.ofString (toString h)) ++ daysT i j ++ manyT t := by
          show leaveT p (subjT dj) g h i j t = _
          unfold leaveT
          rw [Str.empty_append, many_times]
          simp only [Str.append_assoc]
        have kk := k H2 (S1.trans S2)
        rw [e] at kk
        refine setIt ?_
        try dsimp only
        refine ⟨_, rfl, a, _, 5, _, rfl, rfl, hS2, rfl, rfl, _, rfl, ?_⟩
        cases t with
        | none =>
          refine iteT ?_
          refine setIt ?_
          try dsimp only
          refine ⟨_, rfl, a, _, 1, _, rfl, rfl, hS2, rfl, _, _, rfl, rfl, by rw [c5, sizeLine_eq]; omega, ?_⟩
          refine ⟨_, rfl, _, _, rfl, rfl, by simp only [sl, c5, c6, c1]; rw [sizeLine_eq]; omega, ?_⟩
          refine ⟨_, _, rfl, rfl, by simp only [sl, c5, c6, c1]; rw [sizeLine_eq]; omega, ?_⟩
          refine ⟨_, rfl, _, _, rfl, rfl, by simp only [sl, c5, c6, c1]; rw [sizeLine_eq]; omega, ?_⟩
          refine ⟨_, rfl, _, _, rfl, rfl, by simp only [sl, c5, c6, c1]; rw [sizeLine_eq]; omega, ?_⟩
          exact ⟨_, rfl, _, _, rfl, rfl, by simp only [sl, c5, c6, c1]; rw [sizeLine_eq]; show _ + 0 ≤ _; omega, kk⟩
        | some m =>
          obtain ⟨m0, m9⟩ := n9 m rfl
          have m3 := num_len m0 (by omega)
          refine iteF ⟨_, rfl, a, _, 5, _, rfl, rfl, hS2, rfl, m, rfl, num_log m0 (by omega), _, _, rfl, rfl, by rw [c7, sizeLine_eq]; omega, ?_⟩
          refine setIt ?_
          try dsimp only
          refine ⟨_, rfl, a, _, 1, _, rfl, rfl, hS2, rfl, _, _, rfl, rfl, by rw [c5, sizeLine_eq]; omega, ?_⟩
          refine ⟨_, rfl, _, _, rfl, rfl, by simp only [sl, c5, c6, c1]; rw [sizeLine_eq]; omega, ?_⟩
          refine ⟨_, _, rfl, rfl, by simp only [sl, c5, c6, c1]; rw [sizeLine_eq]; omega, ?_⟩
          refine ⟨_, rfl, _, _, rfl, rfl, by simp only [sl, c5, c6, c1]; rw [sizeLine_eq]; omega, ?_⟩
          refine ⟨_, rfl, _, _, rfl, rfl, by simp only [sl, c5, c6, c1]; rw [sizeLine_eq]; omega, ?_⟩
          exact ⟨_, rfl, _, _, rfl, rfl, by simp only [sl, c5, c6, c1, c7]; rw [sizeLine_eq]; omega, kk⟩
    refine ⟨_, PSs.nox (pss_cons (ps_set (i := 1) nd rfl (Or.inl rfl) (pe_ifExp (pt_cmpR (op_eqD hu) (pe_ix ix_tup (pv 0) pe_int (fun _ _ => rfl)) (pe_tup (pa_cons pe_int (pa_cons (pe_op op_pow pe_int pe_int) pa_nil))) (nomark _)) pe_str
        (pe_op op_add_str (pe_op op_add_str (pe_op op_add_str pe_str (pe_callTy call_str_int (by rfl) St (by decide +kernel) (pa_cons (pe_ix ix_tup (pe_ix ix_tup (pv 0) pe_int (fun _ _ => rfl)) pe_int (fun _ _ => rfl)) pa_nil))) pe_str) (pe_callTy call_str_int (by rfl) St (by decide +kernel) (pa_cons (pe_ix ix_tup (pe_ix ix_tup (pv 0) pe_int (fun _ _ => rfl)) pe_int (fun _ _ => rfl)) pa_nil))))) pr), ?_⟩
    obtain ⟨i, j, ed⟩ : ∃ i j, pl.days = (i, j) := ⟨_, _, rfl⟩
    obtain ⟨a, xs, q, rfl, hS, hx, hq, sp⟩ := days_at hd ok ed
    have i0 := sp.lo
    have ij := sp.le
    have j1 := sp.hi
    have n1 := num_len i0 (by omega)
    have n2 := num_len (i := j) (by omega) j1
    refine ⟨_, rfl, a, xs, 4, _, rfl, rfl, hS, hx, ?_⟩
    refine ⟨_, _, rfl, rfl, pw, (by show 2 ≤ sizeLine; rw [sizeLine_eq]; decide), fun r hr' => ?_⟩
    have s1 := same_new (o := .tup [V.int 0, .int (10 ^ (30 : Int).toNat)]) hr'
    refine ⟨_, _, dpPair (sqT_same s1 hq), dpPair (SqT.of upd_same), shapedPair _ _, shapedPair _ _, _, rfl, ?_⟩
    rw [eqvPair]
    have kk := kr i j _ s1 ed
    by_cases z : i = 0 ∧ j = 10 ^ 30
    · rw [show decide (i = 0 ∧ j = 10 ^ (30 : Int).toNat) = true from decide_eq_true z]
      have e : daysT i j = Str.ofString "" := by
        unfold daysT
        rw [if_pos z]
      rw [e] at kk
      exact iteT kk
    · rw [show decide (i = 0 ∧ j = 10 ^ (30 : Int).toNat) = false from decide_eq_false z]
      have e : daysT i j = Str.ofString " @ " ++ Str.ofString (toString i) ++ Str.ofString " " ++ Str.ofString (toString j) := by
        rw [← tail_days]
        unfold tailT
        rw [if_neg z]
      rw [e] at kk
      have hq1 := sqT_same s1 hq
      have hS1 := sqT_same s1 hS
      refine iteF ⟨_, rfl, a, xs, 4, _, rfl, rfl, hS1, hx, q, _, 0, _, rfl, rfl, hq1, rfl, i, rfl, num_log i0 (by omega), _, _, rfl, rfl, by rw [c3, sizeLine_eq]; omega, ?_⟩
      refine ⟨_, _, rfl, rfl, by rw [sl, c3, c1, sizeLine_eq]; omega, ?_⟩
      refine ⟨_, rfl, a, xs, 4, _, rfl, rfl, hS1, hx, q, _, 1, _, rfl, rfl, hq1, rfl, j, rfl, num_log (by omega) j1, _, _, rfl, rfl, by rw [sl, sl, c3, c1, sizeLine_eq]; omega, ?_⟩
      exact kk
end
end LW

/-! A statement's text tells it: two right plain statements of one text are one. -/
namespace LW
open PySem L2 G
/-- the signs of a text -/
abbrev L (z : Str) : List Nat := z.cps.toList
theorem L_inj {a b : Str} (h : L a = L b) : a = b := by
  obtain ⟨a⟩ := a
  obtain ⟨b⟩ := b
  congr 1
  exact Array.toList_inj.mp h
theorem L_app (a b : Str) : L (a ++ b) = L a ++ L b := PyProof.Rows.cps_toList_append a b
/-- pieces with a blank between -/
def glue : List (List Nat) → List Nat
  | [] => []
  | [a] => a
  | a :: b :: r => a ++ 32 :: glue (b :: r)
abbrev Whole (xs : List (List Nat)) : Prop := ∀ a ∈ xs, 32 ∉ a
theorem glue_cons {a : List Nat} {r : List (List Nat)} (h : r ≠ []) : glue (a :: r) = a ++ 32 :: glue r := by
  cases r with
  | nil => exact absurd rfl h
  | cons b r => rfl
theorem glue_app {xs ys : List (List Nat)} (hx : xs ≠ []) (hy : ys ≠ []) : glue (xs ++ ys) = glue xs ++ 32 :: glue ys := by
  induction xs with
  | nil => exact absurd rfl hx
  | cons a r ih =>
    cases r with
    | nil => exact glue_cons hy
    | cons b r =>
      have e1 : glue (a :: b :: r) = a ++ 32 :: glue (b :: r) := rfl
      have e2 : glue (a :: (b :: r ++ ys)) = a ++ 32 :: glue (b :: r ++ ys) := rfl
      have e3 := ih (List.cons_ne_nil b r)
      rw [List.cons_append, e2, e3, e1, List.append_assoc]
      rfl
theorem cut_one {a b u v : List Nat} (ha : 32 ∉ a) (hb : 32 ∉ b) (h : a ++ 32 :: u = b ++ 32 :: v) : a = b ∧ u = v := by
  induction a generalizing b with
  | nil =>
    cases b with
    | nil => exact ⟨rfl, by simpa using h⟩
    | cons c b =>
      simp only [List.nil_append, List.cons_append, List.cons.injEq] at h
      exact absurd (h.1 ▸ List.mem_cons_self) hb
  | cons c a ih =>
    cases b with
    | nil =>
      simp only [List.nil_append, List.cons_append, List.cons.injEq] at h
      exact absurd (h.1 ▸ List.mem_cons_self) ha
    | cons e b =>
      simp only [List.cons_append, List.cons.injEq] at h
      obtain ⟨h1, h2⟩ := ih (fun z => ha (List.mem_cons_of_mem _ z)) (fun z => hb (List.mem_cons_of_mem _ z)) h.2
      exact ⟨by rw [h.1, h1], h2⟩
theorem glue_inj : ∀ {xs ys : List (List Nat)}, xs ≠ [] → ys ≠ [] → Whole xs → Whole ys → glue xs = glue ys → xs = ys
  | [], _, h, _, _, _, _ => absurd rfl h
  | _ :: _, [], _, h, _, _, _ => absurd rfl h
  | [a], [b], _, _, _, _, h => by rw [show a = b from h]
  | [a], b :: c :: r, _, _, wa, _, h => by
    have h : a = b ++ 32 :: glue (c :: r) := h
    exact absurd (show 32 ∈ a by rw [h]; simp) (wa a List.mem_cons_self)
  | a :: c :: r, [b], _, _, _, wb, h => by
    have h : a ++ 32 :: glue (c :: r) = b := h
    exact absurd (show 32 ∈ b by rw [← h]; simp) (wb b List.mem_cons_self)
  | a :: c :: r, b :: d :: q, _, _, wa, wb, h => by
    have h : a ++ 32 :: glue (c :: r) = b ++ 32 :: glue (d :: q) := h
    obtain ⟨h1, h2⟩ := cut_one (wa a List.mem_cons_self) (wb b List.mem_cons_self) h
    rw [h1, glue_inj (List.cons_ne_nil c r) (List.cons_ne_nil d q) (fun x hx => wa x (List.mem_cons_of_mem _ hx)) (fun x hx => wb x (List.mem_cons_of_mem _ hx)) h2]
/-- letters alone; digits alone -/
def isW (t : List Nat) : Prop := t ≠ [] ∧ ∀ c ∈ t, 97 ≤ c ∧ c ≤ 122
def isD (t : List Nat) : Prop := t ≠ [] ∧ ∀ c ∈ t, 48 ≤ c ∧ c ≤ 57
abbrev num (i : Int) : List Nat := L (Str.ofString (toString i))
theorem num_nat (m : Nat) : num (m : Int) = (Nat.toDigits 10 m).map Char.toNat := PySem.W.KIN.signs_num m
theorem num_D {i : Int} (h : 0 ≤ i) : isD (num i) := by
  obtain ⟨m, rfl⟩ := Int.eq_ofNat_of_zero_le h
  rw [num_nat]
  constructor
  · intro e
    have z := PySem.W.KIN.val_back m
    have y := Nat.length_toDigits_pos (b := 10) (n := m)
    rw [List.map_eq_nil_iff.mp e] at y
    exact absurd y (by decide)
  · intro c hc
    obtain ⟨ch, hch, rfl⟩ := List.mem_map.mp hc
    exact PyProof.Rows.digit_range (Nat.isDigit_of_mem_toDigits (by decide) (by decide) hch)
theorem num_inj {i j : Int} (hi : 0 ≤ i) (hj : 0 ≤ j) (h : num i = num j) : i = j := by
  obtain ⟨m, rfl⟩ := Int.eq_ofNat_of_zero_le hi
  obtain ⟨n, rfl⟩ := Int.eq_ofNat_of_zero_le hj
  rw [num_nat, num_nat] at h
  have a := PySem.W.KIN.val_back m
  rw [h, PySem.W.KIN.val_back] at a
  rw [a]
theorem word_W {z : Str} (h : isWordD (.str z) = true) : isW (L z) := by
  have h2 : (decide (1 ≤ z.length) && decide (z.length ≤ 8) && lettersB z.cps.toList) = true := h
  simp only [Bool.and_eq_true, decide_eq_true_eq] at h2
  refine ⟨fun e => ?_, fun c hc => letter_mem (of_decide_eq_true (List.all_eq_true.mp h2.2 c hc))⟩
  have z1 : (L z).length = z.length := len_list z
  rw [e] at z1
  simp only [List.length_nil] at z1
  omega
/-- the pieces of a statement's text -/
def dayTok (i j : Int) : List (List Nat) := if i = 0 ∧ j = 10 ^ 30 then [] else [[64], num i, num j]
def timTok : Option Int → List (List Nat)
  | none => []
  | some i => [[43], num i]
def shTok : List (List Str) → List (List Nat)
  | [] => []
  | [ws] => ws.map L
  | ws :: v :: r => ws.map L ++ [47] :: shTok (v :: r)
theorem joinL_glue : ∀ xs : List (List Nat), TL.joinL [32] xs = glue xs
  | [] => rfl
  | [_] => rfl
  | a :: b :: r => by
    show a ++ ([32] ++ TL.joinL [32] (b :: r)) = a ++ 32 :: glue (b :: r)
    rw [joinL_glue (b :: r)]
    rfl
theorem chain_glue (ws : List Str) : L (chainT ws) = glue (ws.map L) := by
  have z := TL.tl_join (Str.ofString " ") ws
  rw [← TL.join_eq] at z
  exact z.trans (joinL_glue _)
theorem share_glue : ∀ wss : List (List Str), (∀ ws ∈ wss, ws ≠ []) → L (Txt.join " / " (wss.map chainT)) = glue (shTok wss)
  | wss, h => by
    have e : L (Txt.join " / " (wss.map chainT)) = TL.joinL [32, 47, 32] ((wss.map chainT).map L) := by
      have z := TL.tl_join (Str.ofString " / ") (wss.map chainT)
      rw [← TL.join_eq] at z
      exact z
    rw [e]
    clear e
    induction wss with
    | nil => rfl
    | cons a r ih =>
      cases r with
      | nil => exact chain_glue a
      | cons b r =>
        have na : a.map L ≠ [] := fun z => h a List.mem_cons_self (List.map_eq_nil_iff.mp z)
        have nb : shTok (b :: r) ≠ [] := by
          have hb := h b (List.mem_cons_of_mem _ List.mem_cons_self)
          cases r with
          | nil => exact fun z => hb (List.map_eq_nil_iff.mp z)
          | cons c r => exact fun z => absurd (congrArg List.length z) (by simp [shTok])
        have i := ih fun ws hw => h ws (List.mem_cons_of_mem _ hw)
        show L (chainT a) ++ ([32, 47, 32] ++ TL.joinL [32, 47, 32] (((b :: r).map chainT).map L)) = glue (a.map L ++ [47] :: shTok (b :: r))
        rw [i, chain_glue, glue_app na (List.cons_ne_nil _ _), glue_cons nb]
        rfl
end LW

/-! Books: the chains of a subject, of a statement. -/
namespace LW
open PySem L2 G
/-- the chains of a subject -/
def rowsD (d : PyData) : List (List Str) := if isChainD d 4 = true then [wordsD d] else match d with
  | .tuple [_, .tuple cs] => cs.map wordsD
  | _ => []
def Plain.rows : Plain → List (List Str)
  | .nam _ _ ws _ _ => [ws]
  | .lea _ dj _ _ _ _ _ => rowsD dj
theorem words_map (wss : List (List Str)) : (wss.map chD).map wordsD = wss := by
  rw [List.map_map]
  exact (List.map_congr_left fun q _ => wordsD_chain q).trans (List.map_id wss)
theorem rows_chain {ws : List Str} (c : isChainD (chD ws) 4 = true) : rowsD (chD ws) = [ws] := by
  unfold rowsD
  rw [if_pos c, wordsD_chain]
theorem rows_share {m : Int} {wss : List (List Str)} (c : isChainD (.tuple [.int m, .tuple (wss.map chD)]) 4 = false) : rowsD (.tuple [.int m, .tuple (wss.map chD)]) = wss := by
  unfold rowsD
  rw [if_neg (by rw [c]; exact Bool.false_ne_true)]
  exact words_map wss
theorem subj_rows {d : PyData} (h : subjD d = true) : 1 ≤ (rowsD d).length ∧ (rowsD d).length ≤ 4 ∧ ∀ ws ∈ rowsD d, isChainD (chD ws) 4 = true := by
  rcases subj_cases h with ⟨ws, rfl, c⟩ | ⟨m, wss, rfl, c, l1, l4, ch, _⟩
  · rw [rows_chain c]
    refine ⟨Nat.le_refl 1, by show 1 ≤ 4; decide, fun x hx => ?_⟩
    rw [List.mem_singleton.mp hx]
    exact c
  · rw [rows_share c]
    exact ⟨l1, l4, ch⟩
theorem Plain.Ok.rows {pl : Plain} (ok : pl.Ok) : 1 ≤ pl.rows.length ∧ pl.rows.length ≤ 4 ∧ ∀ ws ∈ pl.rows, isChainD (chD ws) 4 = true := by
  cases pl with
  | nam p n ws i j =>
    refine ⟨Nat.le_refl 1, by show 1 ≤ 4; decide, fun x hx => ?_⟩
    rw [List.mem_singleton.mp hx]
    exact ok.2.2.1
  | lea p dj g h i j t => exact subj_rows ok.2.1
/-- the chains in the heap, in a tuple -/
def RowsAt (K : PySem.W.Frag) (H : Hp) (q : Addr) (wss : List (List Str)) : Prop := ∃ xs, SqT K H q xs ∧ DaAll K H xs (wss.map chD)
def spChainsOf (K : PySem.W.Frag) : Sp := fun vs H Q _ => ∃ (v : V) (d : PyData), vs = [v] ∧ Da K H v d ∧ subjD d = true ∧ ∀ q H', Same H H' → RowsAt K H' q (rowsD d) → Q (.ref q) H'
def spChainsS (K : PySem.W.Frag) (CN CL : Addr) : Sp := fun vs H Q _ => ∃ (a : Addr) (pl : Plain), vs = [.ref a] ∧ MadeAt K H CN CL a pl ∧ pl.Ok ∧ ∀ q H', Same H H' → RowsAt K H' q pl.rows → Q (.ref q) H'
theorem MadeAt.tyN {K : PySem.W.Frag} {H : Hp} {CN CL a : Addr} {p n : Str} {ws : List Str} {i j : Int} (N : MadeAt K H CN CL a (.nam p n ws i j)) (c : NamC K CN) (k : InsK K CN) : TyX K H (.ref a) (.ref CN) := by
  obtain ⟨dx, q, c2, h1, _⟩ := N
  exact .base (.ins h1 c.cl k.ha k.hn k.ht k.hm)
theorem MadeAt.tyL {K : PySem.W.Frag} {H : Hp} {CN CL a : Addr} {p : Str} {dj : PyData} {g h i j : Int} {t : Option Int} (N : MadeAt K H CN CL a (.lea p dj g h i j t)) (c : LeaC K CL) (k : InsK K CL) : TyX K H (.ref a) (.ref CL) := by
  obtain ⟨dx, q, ag, vj, h1, _⟩ := N
  exact .base (.ins h1 c.cl k.ha k.hn k.ht k.hm)
section
variable {P : Program} {w : World} {K : PySem.W.Frag} {mg : Str → Option Value} {base : Heap} {CN CL : Addr}
variable {fH fC : Addr} {fdH fdC : FuncData} {pC gC pS gS : Addr} {dC dS : FuncData}
end
end LW

/-! A statement's text tells it (second part). -/
namespace LW
open PySem L2 G
def subTok (d : PyData) : List (List Nat) := if isChainD d 4 = true then (wordsD d).map L else match d with
  | .tuple [.int n, .tuple cs] => [num n, [47]] ++ shTok (cs.map wordsD)
  | _ => []
def Plain.toks : Plain → List (List Nat)
  | .nam p n ws i j => [L p, L n, [61]] ++ (ws.map L ++ dayTok i j)
  | .lea p dj g h i j t => [L p, [62]] ++ (subTok dj ++ ([[58], num g, num h] ++ (dayTok i j ++ timTok t)))
/-- a tail that may be none -/
def Tail (t : List (List Nat)) (s : List Nat) : Prop := (t = [] ∧ s = []) ∨ (t ≠ [] ∧ s = 32 :: glue t)
theorem Tail.app {t u : List (List Nat)} {s r : List Nat} (a : Tail t s) (b : Tail u r) : Tail (t ++ u) (s ++ r) := by
  rcases a with ⟨rfl, rfl⟩ | ⟨h, rfl⟩
  · exact b
  · rcases b with ⟨rfl, rfl⟩ | ⟨k, rfl⟩
    · rw [List.append_nil, List.append_nil]
      exact .inr ⟨h, rfl⟩
    · refine .inr ⟨by simp [h], ?_⟩
      rw [glue_app h k]
      rfl
theorem Tail.glue {xs t : List (List Nat)} {s : List Nat} (a : Tail t s) (h : xs ≠ []) : glue (xs ++ t) = glue xs ++ s := by
  rcases a with ⟨rfl, rfl⟩ | ⟨k, rfl⟩
  · rw [List.append_nil, List.append_nil]
  · exact glue_app h k
theorem dayTail (i j : Int) : Tail (dayTok i j) (L (daysT i j)) := by
  unfold dayTok daysT
  by_cases h : i = 0 ∧ j = 10 ^ 30
  · rw [if_pos h, if_pos h]
    exact .inl ⟨rfl, rfl⟩
  · rw [if_neg h, if_neg h]
    refine .inr ⟨by simp, ?_⟩
    simp only [L_app]
    show [] ++ [32, 64, 32] ++ num i ++ [32] ++ num j = 32 :: ([64] ++ 32 :: (num i ++ 32 :: num j))
    simp
theorem timTail (t : Option Int) : Tail (timTok t) (L (timesT t)) := by
  cases t with
  | none => exact .inl ⟨rfl, rfl⟩
  | some i =>
    refine .inr ⟨by simp [timTok], ?_⟩
    unfold timesT
    simp only [L_app]
    rfl
theorem chain_ne {ws : List Str} (h : isChainD (chD ws) 4 = true) : ws ≠ [] := fun e => by
  subst e
  exact absurd h (by decide +kernel)
theorem chain_W {ws : List Str} (h : isChainD (chD ws) 4 = true) : ∀ z ∈ ws, isW (L z) := fun z hz => by
  have h2 : (decide (1 ≤ (ws.map PyData.str).length) && decide (((ws.map PyData.str).length : Int) ≤ 4 + 1) && (ws.map PyData.str).all isWordD) = true := h
  simp only [Bool.and_eq_true] at h2
  exact word_W (List.all_eq_true.mp h2.2 _ (List.mem_map.mpr ⟨z, hz, rfl⟩))
theorem subTok_chain {ws : List Str} (h : isChainD (chD ws) 4 = true) : subTok (chD ws) = ws.map L := by
  unfold subTok
  rw [if_pos h, wordsD_chain]
theorem subTok_share {m : Int} {wss : List (List Str)} (h : isChainD (.tuple [.int m, .tuple (wss.map chD)]) 4 = false) : subTok (.tuple [.int m, .tuple (wss.map chD)]) = [num m, [47]] ++ shTok wss := by
  unfold subTok
  rw [if_neg (by rw [h]; exact Bool.false_ne_true)]
  dsimp only
  rw [words_map]
theorem shTok_ne {wss : List (List Str)} (h : wss ≠ []) (hw : ∀ ws ∈ wss, ws ≠ []) : shTok wss ≠ [] := by
  cases wss with
  | nil => exact absurd rfl h
  | cons a r =>
    cases r with
    | nil => exact fun z => hw a List.mem_cons_self (List.map_eq_nil_iff.mp z)
    | cons b r => exact fun z => absurd (congrArg List.length z) (by simp [shTok])
theorem sub_glue {d : PyData} (h : subjD d = true) : subTok d ≠ [] ∧ L (subjT d) = glue (subTok d) := by
  rcases subj_cases h with ⟨ws, rfl, c⟩ | ⟨m, wss, rfl, c, l1, l4, ch, _⟩
  · rw [subTok_chain c]
    refine ⟨fun z => chain_ne c (List.map_eq_nil_iff.mp z), ?_⟩
    unfold subjT
    rw [if_pos c, wordsD_chain]
    exact chain_glue ws
  · have nw : ∀ ws ∈ wss, ws ≠ [] := fun ws hw => chain_ne (ch ws hw)
    have nz : wss ≠ [] := fun z => by rw [z] at l1; exact absurd l1 (by decide)
    rw [subTok_share c]
    refine ⟨by simp, ?_⟩
    unfold subjT
    rw [if_neg (by rw [c]; exact Bool.false_ne_true)]
    dsimp only
    rw [words_map, glue_app (by simp) (shTok_ne nz nw)]
    unfold shareT
    rw [L_app, share_glue wss nw]
    simp only [L_app]
    show num m ++ [32, 47, 32] ++ glue (shTok wss) = (num m ++ 32 :: [47]) ++ 32 :: glue (shTok wss)
    simp
theorem text_glue {pl : Plain} (ok : pl.Ok) : L pl.text = glue pl.toks := by
  cases pl with
  | nam p n ws i j =>
    have nw : ws.map L ≠ [] := fun z => chain_ne ok.2.2.1 (List.map_eq_nil_iff.mp z)
    show L (namT p n ws i j) = glue ([L p, L n, [61]] ++ (ws.map L ++ dayTok i j))
    rw [← List.append_assoc, (dayTail i j).glue (by simp), glue_app (by simp) nw]
    unfold namT
    simp only [L_app, chain_glue]
    show [] ++ L p ++ [32] ++ L n ++ [32, 61, 32] ++ glue (ws.map L) ++ L (daysT i j) = (L p ++ 32 :: (L n ++ 32 :: [61])) ++ 32 :: glue (ws.map L) ++ L (daysT i j)
    simp
  | lea p dj g h i j t =>
    obtain ⟨ns, es⟩ := sub_glue ok.2.1
    show L (leaveT p (subjT dj) g h i j t) = glue ([L p, [62]] ++ (subTok dj ++ ([[58], num g, num h] ++ (dayTok i j ++ timTok t))))
    rw [← List.append_assoc, ← List.append_assoc, ((dayTail i j).app (timTail t)).glue (by simp), glue_app (by simp) (by simp), glue_app (by simp) ns]
    unfold leaveT
    simp only [L_app, es]
    show [] ++ L p ++ [32, 62, 32] ++ glue (subTok dj) ++ [32, 58, 32] ++ num g ++ [32] ++ num h ++ L (daysT i j) ++ L (timesT t) = (L p ++ 32 :: [62]) ++ 32 :: glue (subTok dj) ++ 32 :: ([58] ++ 32 :: (num g ++ 32 :: num h)) ++ (L (daysT i j) ++ L (timesT t))
    simp
end LW

/-! A statement's text tells it (third part). -/
namespace LW
open PySem L2 G
def NotW (r : List (List Nat)) : Prop := ∀ a l, r = a :: l → ¬ isW a
theorem notW_nil : NotW [] := fun a l h => nomatch h
theorem notW_sign {c : Nat} {r : List (List Nat)} (h : c < 97) : NotW ([c] :: r) := fun a l e => by
  injection e with e1 _
  subst e1
  intro w
  have := w.2 c List.mem_cons_self
  omega
theorem isD_notW {t : List Nat} (h : isD t) : ¬ isW t := fun w => by
  obtain ⟨c, hc⟩ := List.exists_mem_of_ne_nil t h.1
  have a := h.2 c hc
  have b := w.2 c hc
  omega
theorem chain_split : ∀ {ws vs : List Str} {r q : List (List Nat)}, (∀ z ∈ ws, isW (L z)) → (∀ z ∈ vs, isW (L z)) → NotW r → NotW q → ws.map L ++ r = vs.map L ++ q → ws = vs ∧ r = q
  | [], [], r, q, _, _, _, _, e => ⟨rfl, e⟩
  | [], v :: vs, r, q, _, hv, nr, _, e => absurd (hv v List.mem_cons_self) (nr _ _ e)
  | w :: ws, [], r, q, hw, _, _, nq, e => absurd (hw w List.mem_cons_self) (nq _ _ e.symm)
  | w :: ws, v :: vs, r, q, hw, hv, nr, nq, e => by
    have e : L w :: (ws.map L ++ r) = L v :: (vs.map L ++ q) := e
    injection e with e1 e2
    obtain ⟨h1, h2⟩ := chain_split (fun z hz => hw z (List.mem_cons_of_mem _ hz)) (fun z hz => hv z (List.mem_cons_of_mem _ hz)) nr nq e2
    exact ⟨by rw [L_inj e1, h1], h2⟩
theorem share_split : ∀ {a b : List (List Str)} {r q : List (List Nat)}, a ≠ [] → b ≠ [] → (∀ ws ∈ a, ∀ z ∈ ws, isW (L z)) → (∀ ws ∈ b, ∀ z ∈ ws, isW (L z)) → shTok a ++ [58] :: r = shTok b ++ [58] :: q → a = b ∧ r = q
  | [], _, _, _, h, _, _, _, _ => absurd rfl h
  | _ :: _, [], _, _, _, h, _, _, _ => absurd rfl h
  | [w], [v], r, q, _, _, hw, hv, e => by
    obtain ⟨h1, h2⟩ := chain_split (hw w List.mem_cons_self) (hv v List.mem_cons_self) (notW_sign (by decide)) (notW_sign (by decide)) (show w.map L ++ [58] :: r = v.map L ++ [58] :: q from e)
    injection h2 with _ h2
    exact ⟨by rw [h1], h2⟩
  | [w], v :: v2 :: vs, r, q, _, _, hw, hv, e => by
    have e : w.map L ++ [58] :: r = v.map L ++ ([47] :: shTok (v2 :: vs) ++ [58] :: q) := by rw [← List.append_assoc]; exact e
    obtain ⟨_, h2⟩ := chain_split (hw w List.mem_cons_self) (hv v List.mem_cons_self) (notW_sign (by decide)) (notW_sign (by decide)) e
    injection h2 with h2 _
    exact absurd h2 (by decide)
  | w :: w2 :: ws, [v], r, q, _, _, hw, hv, e => by
    have e : w.map L ++ ([47] :: shTok (w2 :: ws) ++ [58] :: r) = v.map L ++ [58] :: q := by rw [← List.append_assoc]; exact e
    obtain ⟨_, h2⟩ := chain_split (hw w List.mem_cons_self) (hv v List.mem_cons_self) (notW_sign (by decide)) (notW_sign (by decide)) e
    injection h2 with h2 _
    exact absurd h2 (by decide)
  | w :: w2 :: ws, v :: v2 :: vs, r, q, _, _, hw, hv, e => by
    have e : w.map L ++ ([47] :: (shTok (w2 :: ws) ++ [58] :: r)) = v.map L ++ ([47] :: (shTok (v2 :: vs) ++ [58] :: q)) := by
      rw [← List.cons_append, ← List.cons_append, ← List.append_assoc, ← List.append_assoc]
      exact e
    obtain ⟨h1, h2⟩ := chain_split (hw w List.mem_cons_self) (hv v List.mem_cons_self) (notW_sign (by decide)) (notW_sign (by decide)) e
    injection h2 with _ h2
    obtain ⟨h3, h4⟩ := share_split (List.cons_ne_nil _ _) (List.cons_ne_nil _ _) (fun x hx => hw x (List.mem_cons_of_mem _ hx)) (fun x hx => hv x (List.mem_cons_of_mem _ hx)) h2
    exact ⟨by rw [h1, h3], h4⟩
theorem tim_inj {t u : Option Int} (ht : ∀ x, t = some x → 0 ≤ x ∧ x ≤ 9) (hu : ∀ x, u = some x → 0 ≤ x ∧ x ≤ 9) (e : timTok t = timTok u) : t = u := by
  cases t with
  | none => cases u with
    | none => rfl
    | some y => exact nomatch e
  | some x => cases u with
    | none => exact nomatch e
    | some y =>
      simp only [timTok] at e
      injection e with _ e
      injection e with e _
      rw [num_inj (ht x rfl).1 (hu y rfl).1 e]
theorem tim_head {t : Option Int} {r : List (List Nat)} : timTok t ≠ [64] :: r := fun e => by
  cases t with
  | none => exact nomatch e
  | some x =>
    simp only [timTok] at e
    injection e with e _
    exact absurd e (by decide)
theorem day_split {i j k l : Int} {t u : List (List Nat)} (s1 : Span i j) (s2 : Span k l) (ht : ∀ r, t ≠ [64] :: r) (hu : ∀ r, u ≠ [64] :: r) (e : dayTok i j ++ t = dayTok k l ++ u) : (i = k ∧ j = l) ∧ t = u := by
  have a0 := s1.lo
  have a1 := s1.le
  have b0 := s2.lo
  have b1 := s2.le
  unfold dayTok at e
  by_cases h1 : i = 0 ∧ j = 10 ^ 30
  · by_cases h2 : k = 0 ∧ l = 10 ^ 30
    · rw [if_pos h1, if_pos h2] at e
      exact ⟨⟨h1.1.trans h2.1.symm, h1.2.trans h2.2.symm⟩, e⟩
    · rw [if_pos h1, if_neg h2] at e
      exact absurd e (ht _)
  · by_cases h2 : k = 0 ∧ l = 10 ^ 30
    · rw [if_neg h1, if_pos h2] at e
      exact absurd e.symm (hu _)
    · rw [if_neg h1, if_neg h2] at e
      simp only [List.cons_append, List.nil_append] at e
      injection e with _ e
      injection e with e1 e
      injection e with e2 e
      exact ⟨⟨num_inj a0 b0 e1, num_inj (by omega) (by omega) e2⟩, e⟩
theorem sub_split {d e : PyData} {r q : List (List Nat)} (hd : subjD d = true) (he : subjD e = true) (h : subTok d ++ [58] :: r = subTok e ++ [58] :: q) : d = e ∧ r = q := by
  have ne : ∀ {wss : List (List Str)}, 1 ≤ wss.length → wss ≠ [] := fun l z => by rw [z] at l; exact absurd l (by decide)
  rcases subj_cases hd with ⟨ws, rfl, c⟩ | ⟨m, wss, rfl, c, l1, _, ch, m1, _⟩
  · rcases subj_cases he with ⟨vs, rfl, c2⟩ | ⟨m2, vss, rfl, c2, l2, _, ch2, m21, _⟩
    · rw [subTok_chain c, subTok_chain c2] at h
      obtain ⟨h1, h2⟩ := chain_split (chain_W c) (chain_W c2) (notW_sign (by decide)) (notW_sign (by decide)) h
      injection h2 with _ h2
      exact ⟨by rw [h1], h2⟩
    · rw [subTok_chain c, subTok_share c2] at h
      obtain ⟨w0, wr, rfl⟩ := List.exists_cons_of_ne_nil (chain_ne c)
      simp only [List.map_cons, List.cons_append] at h
      injection h with h _
      exact absurd (h ▸ chain_W c w0 List.mem_cons_self) (isD_notW (num_D (by omega)))
  · rcases subj_cases he with ⟨vs, rfl, c2⟩ | ⟨m2, vss, rfl, c2, l2, _, ch2, m21, _⟩
    · rw [subTok_share c, subTok_chain c2] at h
      obtain ⟨w0, wr, rfl⟩ := List.exists_cons_of_ne_nil (chain_ne c2)
      simp only [List.map_cons, List.cons_append] at h
      injection h with h _
      exact absurd (h.symm ▸ chain_W c2 w0 List.mem_cons_self) (isD_notW (num_D (by omega)))
    · rw [subTok_share c, subTok_share c2] at h
      simp only [List.cons_append, List.nil_append] at h
      injection h with h1 h
      injection h with _ h
      obtain ⟨h3, h4⟩ := share_split (ne l1) (ne l2) (fun ws hw => chain_W (ch ws hw)) (fun ws hw => chain_W (ch2 ws hw)) h
      exact ⟨by rw [num_inj (by omega) (by omega) h1, h3], h4⟩
theorem toks_inj {a b : Plain} (oa : a.Ok) (ob : b.Ok) (e : a.toks = b.toks) : a = b := by
  cases a with
  | nam p n ws i j =>
    cases b with
    | nam p2 n2 vs k l =>
      simp only [Plain.toks, List.cons_append, List.nil_append] at e
      injection e with e1 e
      injection e with e2 e
      injection e with _ e
      have hday : ∀ {i j : Int}, NotW (dayTok i j) := fun {i j} => by
        unfold dayTok
        split
        · exact notW_nil
        · exact notW_sign (by decide)
      obtain ⟨h1, h2⟩ := chain_split (chain_W oa.2.2.1) (chain_W ob.2.2.1) hday hday e
      obtain ⟨⟨h3, h4⟩, _⟩ := day_split (t := []) (u := []) oa.2.2.2 ob.2.2.2 (fun _ z => nomatch z) (fun _ z => nomatch z) (by rw [List.append_nil, List.append_nil]; exact h2)
      rw [L_inj e1, L_inj e2, h1, h3, h4]
    | lea p2 dj g h k l t =>
      simp only [Plain.toks, List.cons_append, List.nil_append] at e
      injection e with e1 e
      injection e with e2 e
      exact absurd (e2 ▸ word_W oa.2.1) (notW_sign (r := []) (by decide) _ _ rfl)
  | lea p dj g h i j t =>
    cases b with
    | nam p2 n2 vs k l =>
      simp only [Plain.toks, List.cons_append, List.nil_append] at e
      injection e with e1 e
      injection e with e2 e
      exact absurd (e2.symm ▸ word_W ob.2.1) (notW_sign (r := []) (by decide) _ _ rfl)
    | lea p2 dj2 g2 h2 k l t2 =>
      simp only [Plain.toks, List.cons_append, List.nil_append] at e
      injection e with e1 e
      injection e with _ e
      obtain ⟨s1, e⟩ := sub_split oa.2.1 ob.2.1 e
      injection e with e3 e
      injection e with e4 e
      have ga := oa.2.2.1
      have gb := ob.2.2.1
      have := ga.lo
      have := ga.le
      have := gb.lo
      have := gb.le
      obtain ⟨⟨h5, h6⟩, h7⟩ := day_split oa.2.2.2.1 ob.2.2.2.1 (fun _ => tim_head) (fun _ => tim_head) e
      rw [L_inj e1, s1, num_inj (by omega) (by omega) e3, num_inj (by omega) (by omega) e4, h5, h6, tim_inj oa.2.2.2.2 ob.2.2.2.2 h7]
theorem isW_whole {t : List Nat} (h : isW t) : 32 ∉ t := fun m => by have := h.2 _ m; omega
theorem isD_whole {t : List Nat} (h : isD t) : 32 ∉ t := fun m => by have := h.2 _ m; omega
theorem whole_app {a b : List (List Nat)} (ha : Whole a) (hb : Whole b) : Whole (a ++ b) := fun x hx => (List.mem_append.mp hx).elim (ha x) (hb x)
theorem whole_cons {a : List Nat} {b : List (List Nat)} (ha : 32 ∉ a) (hb : Whole b) : Whole (a :: b) := fun x hx => (List.mem_cons.mp hx).elim (fun e => e ▸ ha) (hb x)
theorem whole_nil : Whole [] := fun _ h => nomatch h
theorem whole_chain {ws : List Str} (h : ∀ z ∈ ws, isW (L z)) : Whole (ws.map L) := fun x hx => by
  obtain ⟨z, hz, rfl⟩ := List.mem_map.mp hx
  exact isW_whole (h z hz)
theorem whole_share : ∀ {a : List (List Str)}, (∀ ws ∈ a, ∀ z ∈ ws, isW (L z)) → Whole (shTok a)
  | [], _ => whole_nil
  | [w], h => whole_chain (h w List.mem_cons_self)
  | w :: v :: r, h => whole_app (whole_chain (h w List.mem_cons_self)) (whole_cons (by decide) (whole_share fun x hx => h x (List.mem_cons_of_mem _ hx)))
theorem whole_day {i j : Int} (s : Span i j) : Whole (dayTok i j) := by
  have := s.lo
  have := s.le
  unfold dayTok
  split
  · exact whole_nil
  · exact whole_cons (by decide) (whole_cons (isD_whole (num_D (by omega))) (whole_cons (isD_whole (num_D (by omega))) whole_nil))
theorem toks_whole {a : Plain} (oa : a.Ok) : Whole a.toks := by
  cases a with
  | nam p n ws i j => exact whole_app (whole_cons (isW_whole (word_W oa.1)) (whole_cons (isW_whole (word_W oa.2.1)) (whole_cons (by decide) whole_nil))) (whole_app (whole_chain (chain_W oa.2.2.1)) (whole_day oa.2.2.2))
  | lea p dj g h i j t =>
    have gs := oa.2.2.1
    have := gs.lo
    have := gs.le
    have ws : Whole (subTok dj) := by
      rcases subj_cases oa.2.1 with ⟨ws, rfl, c⟩ | ⟨m, wss, rfl, c, l1, _, ch, m1, _⟩
      · rw [subTok_chain c]
        exact whole_chain (chain_W c)
      · rw [subTok_share c]
        exact whole_cons (isD_whole (num_D (by omega))) (whole_cons (by decide) (whole_share fun ws hw => chain_W (ch ws hw)))
    have wt : Whole (timTok t) := by
      cases t with
      | none => exact whole_nil
      | some x => exact whole_cons (by decide) (whole_cons (isD_whole (num_D (oa.2.2.2.2 x rfl).1)) whole_nil)
    exact whole_app (whole_cons (isW_whole (word_W oa.1)) (whole_cons (by decide) whole_nil)) (whole_app ws (whole_app (whole_cons (by decide) (whole_cons (isD_whole (num_D (by omega))) (whole_cons (isD_whole (num_D (by omega))) whole_nil))) (whole_app (whole_day oa.2.2.2.1) wt)))
theorem toks_ne (a : Plain) : a.toks ≠ [] := by cases a <;> simp [Plain.toks]
/-- the text tells the statement -/
theorem text_inj {a b : Plain} (oa : a.Ok) (ob : b.Ok) (e : a.text = b.text) : a = b :=
  toks_inj oa ob (glue_inj (toks_ne a) (toks_ne b) (toks_whole oa) (toks_whole ob) (by rw [← text_glue oa, ← text_glue ob, e]))
end LW

/-! == of tuples whose items have their own ==, and `in` over such, with either answer. -/
namespace G
open PySem PySem.Spec PyProof.Rows L2 PySem.SeqAt
open AutoSeq1 (wpAny_loadPart')
open MeetsSeq MeetsSeq2 MeetsSeq3 SeqRoads2
section
variable {prog : Program} {w : World} {A : Around} {R : Result → Shared → Prop}
theorem tuple_eqB (l b : Addr) (items items2 : Array Value) (n n2 : Nat) (dd dd2 : Option Addr) (sl sl2 : Array (Option Value)) (m : Nat) (hm : m ≤ min items.size items2.size) (I : Nat → Shared → Prop)
    (turn : ∀ i (h1 : i < items.size) (h2 : i < items2.size) s, i ≤ m → I i s → wpAny (model prog w) A.in1 (eqBool items[i] items2[i]) (fun r s' => (i < m ∧ r = true ∧ I (i + 1) s') ∨ (r = false ∧ R (.ok (.ret (.bool false))) s')) (fun e s' => R (.error e) s') s)
    (fin : ∀ s, m = min items.size items2.size → I m s → R (.ok (.ret (.bool (items.size == items2.size)))) s) {s : Shared} (hl1 : s.heap.get? l = some { cls := .type "tuple", dict := dd, data := .seq items n, slots := sl }) (hb1 : s.heap.get? b = some { cls := .type "tuple", dict := dd2, data := .seq items2 n2, slots := sl2 }) (h : I 0 s) :
    wpAny (model prog w) A.in1 (Builtin.«tuple.__eq__» ⟨[.ref l, .ref b], []⟩) (GQ.FinOf prog w A R) (fun e s' => R (.error e) s') s := by
  have f2 := AutoSeq1.sub_tuple_tuple
  have hZ : (items.toList.zip items2.toList).length = min items.size items2.size := by simp
  have h0 := h
  obtain ⟨hp, g, d, tk, os⟩ := s
  wp_walk using wpAny_loadPart' hl1, wpAny_loadPart' hb1, wpAny_forIn_list _ (fun rest b s' => b.1 = none ∧ ∃ i, rest = (items.toList.zip items2.toList).drop i ∧ i ≤ m ∧ I i s') _
  case turn =>
    rintro ⟨y, x⟩ rest b s' ⟨hb', i, hz, hi, hI⟩
    have hlt : i < (items.toList.zip items2.toList).length := by
      rcases Nat.lt_or_ge i (items.toList.zip items2.toList).length with h' | h'
      · exact h'
      · rw [List.drop_of_length_le h'] at hz; cases hz
    have h1 : i < items.size := by omega
    have h2 : i < items2.size := by omega
    rw [List.drop_eq_getElem_cons hlt] at hz
    injection hz with hyx hrest
    have hy : y = items[i] := by have := congrArg Prod.fst hyx; simpa using this
    have hx : x = items2[i] := by have := congrArg Prod.snd hyx; simpa using this
    subst hy hx
    refine wpAny_bind (wpAny_mono (turn i h1 h2 s' hi hI) (fun r s2 q2 => ?_) fun _ _ x => x)
    rcases q2 with ⟨im, rfl, q2⟩ | ⟨rfl, q2⟩
    · wp_walk
      exact ⟨rfl, i + 1, hrest, im, q2⟩
    · wp_walk
      simpa using q2
  case fin =>
    rintro ⟨b1, b2⟩ s' ⟨hb', i, hz, hi, hI⟩
    simp only at hb'
    subst hb'
    have hge : min items.size items2.size ≤ i := by
      rcases Nat.lt_or_ge i (items.toList.zip items2.toList).length with h' | h'
      · rw [List.drop_eq_getElem_cons h'] at hz; cases hz
      · exact hZ ▸ h'
    have hi' : i = m := by omega
    have hR := fin s' (by omega) (hi' ▸ hI)
    wp_walk
    simpa [Builtin.Tuple.tupleCompareSizes] using hR
  case h =>
    exact ⟨rfl, 0, rfl, Nat.zero_le _, h0⟩
theorem tuple_inB (l : Addr) (x : Value) (items : Array Value) (n : Nat) (dd : Option Addr) (sl : Array (Option Value)) (m : Nat) (hm : m ≤ items.size) (I : Nat → Shared → Prop)
    (turn : ∀ i (h1 : i < items.size) s, i ≤ m → I i s → wpAny (model prog w) A.in1 (eqBool items[i] x) (fun r s' => (i < m ∧ r = false ∧ I (i + 1) s') ∨ (r = true ∧ R (.ok (.ret (.bool true))) s')) (fun e s' => R (.error e) s') s)
    (fin : ∀ s, m = items.size → I m s → R (.ok (.ret (.bool false))) s) {s : Shared} (hl1 : s.heap.get? l = some { cls := .type "tuple", dict := dd, data := .seq items n, slots := sl }) (h : I 0 s) :
    wpAny (model prog w) A.in1 (Builtin.«tuple.__contains__» ⟨[.ref l, x], []⟩) (GQ.FinOf prog w A R) (fun e s' => R (.error e) s') s := by
  have h0 := h
  obtain ⟨hp, g, d, tk, os⟩ := s
  wp_walk using wpAny_loadPart' hl1, wpAny_forIn_array _ (fun rest b s' => b.1 = none ∧ ∃ i, rest = items.toList.drop i ∧ i ≤ m ∧ I i s') _
  case turn =>
    rintro y rest b s' ⟨hb', i, hz, hi, hI⟩
    have hlt : i < items.toList.length := by
      rcases Nat.lt_or_ge i items.toList.length with h' | h'
      · exact h'
      · rw [List.drop_of_length_le h'] at hz; cases hz
    have h1 : i < items.size := by simpa using hlt
    rw [List.drop_eq_getElem_cons hlt] at hz
    injection hz with hyx hrest
    have hy : y = items[i] := by simpa using hyx
    subst hy
    refine wpAny_bind (wpAny_mono (turn i h1 s' hi hI) (fun r s2 q2 => ?_) fun _ _ x => x)
    rcases q2 with ⟨im, rfl, q2⟩ | ⟨rfl, q2⟩
    · wp_walk
      exact ⟨rfl, i + 1, hrest, im, q2⟩
    · wp_walk
      simpa using q2
  case fin =>
    rintro ⟨b1, b2⟩ s' ⟨hb', i, hz, hi, hI⟩
    simp only at hb'
    subst hb'
    have hge : items.size ≤ i := by
      rcases Nat.lt_or_ge i items.toList.length with h' | h'
      · rw [List.drop_eq_getElem_cons h'] at hz; cases hz
      · simpa using h'
    have hi' : i = m := by omega
    have hR := fin s' (by omega) (hi' ▸ hI)
    wp_walk
    simpa using hR
  case h =>
    exact ⟨rfl, 0, rfl, Nat.zero_le _, h0⟩
end
end G

/-! A value of another kind == an own instance: its own __eq__ is asked, turned round. -/
namespace G
open PySem PySem.Spec PyProof.Rows L2 PySem.SeqAt
open AutoSeq1 (wpAny_loadPart')
open MeetsSeq MeetsSeq2 MeetsSeq3 SeqRoads2
section
variable {prog : Program} {w : World} {A : Around} {E : Value → Shared → Prop} {s : Shared} {K : PySem.W.Frag} {x C f : Addr} {ox : Obj} {od : Option Obj}
theorem rc_back {a : Value} {Ta ida : String} {Q : Value → Shared → Prop} (hu : A.units < cLine) (X : K.In s.heap) (ha : s.TypeIs a Ta) (I : PySem.W.InstAt s.heap x ox C od) (hsub : PySem.W.subIn K (.ref C) (.type Ta) = some false) (h1 : Slot Ta (cmpInfo .Eq).2.1 ida)
    (hc1 : ∀ Q' : Value → Shared → Prop, Q' .notImplemented s → wpAny (model prog w) A (call (.builtin ida) [a, .ref x]) Q' E s)
    (heq : PySem.W.findIn K (.ref C) (cmpInfo .Eq).2.2 = some (some (.ref f))) (hf : PySem.W.isFn K (.ref f) = true) (h : wpAny (model prog w) A (call (.ref f) [.ref x, a]) (PySem.W.CmpBack Q) E s) : wpAny (model prog w) A (richCompare .Eq a (.ref x)) Q E s := by
  have one : wpAny (model prog w) A (tryCompare (.ref x) (cmpInfo .Eq).2.2 a) (fun r s' => ∃ v, r = some v ∧ Q v s') E s := by
    unfold tryCompare
    refine wpAny_bind (PySem.W.ifBound_K X I heq hf (wpAny_mono h (fun v s' hv => ?_) fun _ _ e => e))
    cases v <;> first | exact hv.elim | exact wpAny_pure ⟨_, rfl, hv⟩
  have hne : (Value.type Ta != Value.ref C) = true := rfl
  simp only [richCompare, ha.oneThing_none]
  try with_reducible refine wpAny_holding ?_
  refine wpAny_bind (wpAny_cRoomFor hu ?_)
  refine wpAny_bind (wpAny_typeOf ha (wpAny_bind (I.type.here ?_)))
  simp only [hne, if_true]
  refine wpAny_bind ((PySem.W.looks_subIn X hsub).here ?_)
  simp only [Bool.false_eq_true, if_false, Bool.not_false, if_true]
  refine wpAny_bind (m := tryCompare a _ (.ref x)) (wpAny_tryCompare_declines ha h1 (hc1 _ ⟨rfl, ?_⟩))
  refine wpAny_bind (m := tryCompare (.ref x) _ a) (wpAny_mono one (fun r s' z => ?_) fun _ _ e => e)
  obtain ⟨v, rfl, hq⟩ := z
  exact wpAny_pure hq
theorem int_eq_inst (b : Int) (u : Tok) (l C dx : Addr) :
    Meets (Builtin.«int.__eq__» ⟨[.int b u, .ref l], []⟩) (fun _ R s => s.heap.get? l = some (PySem.W.instObj C dx) ∧ R (.ok (.ret .notImplemented)) s) :=
  .of_wp fun prog w A R s h => by obtain ⟨hp, g, d, tk, os⟩ := s; obtain ⟨hl, h⟩ := h; wp_walk using wpAny_loadPart' hl, wpAny_load hl; exact ⟨_, rfl, h⟩
theorem tuple_eq_inst {items : Array Value} {n : Nat} {dd : Option Addr} {sl : Array (Option Value)} (t l C : Addr) (K : PySem.W.Frag) (hs : PySem.W.subIn K (.ref C) (.type "tuple") = some false) :
    Meets (Builtin.«tuple.__eq__» ⟨[.ref t, .ref l], []⟩) (fun _ R s => s.heap.get? t = some { cls := .type "tuple", dict := dd, data := .seq items n, slots := sl } ∧ (∃ ox od, PySem.W.InstAt s.heap l ox C od) ∧ K.In s.heap ∧ R (.ok (.ret .notImplemented)) s) :=
  .of_wp fun prog w A R s h => by
    obtain ⟨hp, g, d, tk, os⟩ := s
    obtain ⟨hl, ⟨ox, od, I⟩, X, h⟩ := h
    have f1 : PySem.W.Looks (model prog w) hp (isInstance (.ref l) (.type "tuple")) false := I.type.andThen (PySem.W.looks_subIn X hs)
    wp_walk using wpAny_loadPart' hl, f1.here
    exact ⟨_, rfl, h⟩
end
end G

/-! == with either answer, in the hand layer: own instances, tuples of them, `in` over a tuple. -/
namespace G
open PySem PySem.Spec PyProof.Rows L2
/-- what two values' == answers, by the heap -/
abbrev EqvB := V → V → Bool → Hp → Prop
def MonB (D : EqvB) : Prop := ∀ x y k H H', Ext H H' → D x y k H → D x y k H'
def EqBl (X : Cx) (n : Nat) (D : EqvB) : Prop :=
  ∀ (A : Around) (pins : List (Addr × Obj)) (s : Shared) (σ : L2.St) (H : Hp) (x y : V) (u v : Value) (k : Bool), Sub X n A → Inv X pins σ H s → RelV x u → RelV y v → D x y k H →
    wpAny (model X.prog X.w) A (eqBool u v) (fun r s' => r = k ∧ ∃ H', Inv X pins σ H' s' ∧ Ext H H') X.xe s
def RcBl (X : Cx) (n : Nat) (D : EqvB) : Prop :=
  ∀ (A : Around) (pins : List (Addr × Obj)) (s : Shared) (σ : L2.St) (H : Hp) (x y : V) (u v : Value) (k : Bool), Sub X n A → Inv X pins σ H s → RelV x u → RelV y v → D x y k H →
    wpAny (model X.prog X.w) A (richCompare .Eq u v) (fun r s' => r = .bool k ∧ ∃ H', Inv X pins σ H' s' ∧ Ext H H') X.xe s
section
variable {X : Cx} {n m : Nat} {D D' : EqvB}
theorem EqBl.mono (h : EqBl X n D) (hn : n ≤ m) : EqBl X m D := fun A pins s σ H x y u v k sb => h A pins s σ H x y u v k (sb.mono hn)
theorem RcBl.mono (h : RcBl X n D) (hn : n ≤ m) : RcBl X m D := fun A pins s σ H x y u v k sb => h A pins s σ H x y u v k (sb.mono hn)
theorem EqBl.or (h : EqBl X n D) (h' : EqBl X n D') : EqBl X n (fun x y k H => D x y k H ∨ D' x y k H) := fun A pins s σ H x y u v k sb I rx ry d => by
  rcases d with d | d
  · exact h A pins s σ H x y u v k sb I rx ry d
  · exact h' A pins s σ H x y u v k sb I rx ry d
theorem RcBl.or (h : RcBl X n D) (h' : RcBl X n D') : RcBl X n (fun x y k H => D x y k H ∨ D' x y k H) := fun A pins s σ H x y u v k sb I rx ry d => by
  rcases d with d | d
  · exact h A pins s σ H x y u v k sb I rx ry d
  · exact h' A pins s σ H x y u v k sb I rx ry d
theorem EqBl.imp (h : EqBl X n D) (hd : ∀ x y k H, D' x y k H → D x y k H) : EqBl X n D' := fun A pins s σ H x y u v k sb I rx ry d => h A pins s σ H x y u v k sb I rx ry (hd x y k H d)
theorem RcBl.imp (h : RcBl X n D) (hd : ∀ x y k H, D' x y k H → D x y k H) : RcBl X n D' := fun A pins s σ H x y u v k sb I rx ry d => h A pins s σ H x y u v k sb I rx ry (hd x y k H d)
theorem MonB.or (h : MonB D) (h' : MonB D') : MonB (fun x y k H => D x y k H ∨ D' x y k H) := fun x y k H H' e d => d.elim (fun d => .inl (h x y k H H' e d)) fun d => .inr (h' x y k H H' e d)
/-- flat values -/
def DFlatB : EqvB := fun x y k _ => flatV x = true ∧ flatV y = true ∧ eqV x y = k
theorem eqBl_flat : EqBl X 0 DFlatB := by
  intro A pins s σ H x y u v k sb I rx ry d
  obtain ⟨fx, fy, e⟩ := d
  have q := eqAt_V (A := A) (s := s) rx ry fx fy
  rw [e] at q
  exact q X.prog X.w X.xe _ ⟨rfl, H, I, Ext.rfl'⟩
theorem rel_back {y : V} {a : Addr} (r : RelV y (.ref a)) : y = .ref a := by
  cases y with
  | ref b => cases (show Value.ref a = Value.ref b from r); rfl
  | _ => first | exact (nomatch (show Value.ref a = _ from r)) | (obtain ⟨t, q⟩ := r; cases q)
/-- inside a builtin: the same object is equal to itself -/
theorem RcBl.eqBl (h : RcBl X n D) (hr : ∀ x y k H, D x y k H → ((∃ a, x = .ref a) ∨ ∃ a, y = .ref a) ∧ (x = y → k = true)) : EqBl X n D := by
  intro A pins s σ H x y u v k sb I rx ry d
  obtain ⟨r, he⟩ := hr _ _ _ _ d
  by_cases hab : u = v
  · have e2 : x = y := by
      subst hab
      rcases r with ⟨a, rfl⟩ | ⟨a, rfl⟩
      · cases rx
        exact (rel_back ry).symm
      · cases ry
        exact rel_back rx
    subst hab
    rw [he e2]
    exact SeqAt.EqAt.same (A := A) (s := s) u X.prog X.w X.xe _ ⟨rfl, H, I, Ext.rfl'⟩
  unfold eqBool
  refine wpAny_holding ?_
  refine wpAny_ite_split (fun h => absurd (eq_of_beq h) hab) (fun _ => ?_)
  · have go : wpAny (model X.prog X.w) A (richCompare .Eq u v >>= truthOfDropped) (fun r s' => r = k ∧ ∃ H', Inv X pins σ H' s' ∧ Ext H H') X.xe s := by
      refine wpAny_bind (wpAny_mono (h A pins s σ H x y u v k sb I rx ry d) (fun w s' q => ?_) fun _ _ x => x)
      obtain ⟨hw, q⟩ := q
      subst hw
      exact wpAny_truthy_bool ⟨rfl, q⟩
    dsimp only
    split
    · next e =>
      rcases r with ⟨a, rfl⟩ | ⟨a, rfl⟩
      · cases rx
        cases e
      · cases ry
        cases e
    · exact go
/-- an own instance at the left -/
theorem rcBl_own {C f : Addr} {fd : FuncData} {ps : List Str} {sp : Sp} (Fn : FnOk X.prog X.w X.K X.mg X.base CX0 n f fd ps sp) (c : EqC X.K C f) (b : Binds X.K fd ps [])
    (h : ∀ x y k H, D x y k H → ∃ a dx fs tb, x = .ref a ∧ H a = some (.ins C dx fs) ∧ TyX X.K H y tb ∧ PySem.W.notFirst X.K C tb = true ∧ sp [.ref a, y] H (fun v H' => v = .bl k ∧ Ext H H') fun _ _ _ => False) : RcBl X n D := by
  intro A pins s σ H x y u v k sb I rx ry d
  obtain ⟨a, dx, fs, tb, rfl, ha, ty, nf, hs⟩ := h _ _ _ _ d
  cases rx
  obtain ⟨P, kit, hP, _⟩ := kit_of I ry ty
  obtain ⟨m, J, _⟩ := ins_get I.hok ha
  obtain ⟨od, J, _⟩ := J.look
  obtain ⟨mm, hF⟩ := I.fr
  refine PySem.W.cmp_K (op := .Eq) (tb := tb) sb.room.units0 hF I.ok.mod.kin J (kit.ty _ _ I.kIn hP) nf c.eq c.fn ?_
  refine wpAny_mono (own_call Fn b sb.room (sb.fr.trans I.ok.frames) I (.cons (a := V.ref a) rfl (.cons ry .nil)) hs) (fun z s' q => ?_) fun _ _ z => z
  obtain ⟨v2, H2, J2, r2, rfl, q⟩ := q
  cases r2
  exact ⟨rfl, H2, J2, q⟩
theorem inst_at2 {C a dx : Addr} {fs : List (Str × V)} {pins : List (Addr × Obj)} {s : Shared} {σ : L2.St} {H : Hp} (I : Inv X pins σ H s) (ha : H a = some (.ins C dx fs)) : s.heap.get? a = some (PySem.W.instObj C dx) ∧ ∃ od, PySem.W.InstAt s.heap a (PySem.W.instObj C dx) C od := by
  obtain ⟨m, J, _⟩ := ins_get I.hok ha
  have o := J.obj
  obtain ⟨od, J, _⟩ := J.look
  exact ⟨o, _, J⟩
/-- a whole number, None or a tuple at the left, an own instance at the right -/
theorem rcBl_back {C f : Addr} {fd : FuncData} {ps : List Str} {sp : Sp} (Fn : FnOk X.prog X.w X.K X.mg X.base CX0 n f fd ps sp) (c : EqC X.K C f) (b : Binds X.K fd ps [])
    (si : PySem.W.subIn X.K (.ref C) (.type "int") = some false) (sn : PySem.W.subIn X.K (.ref C) (.type "NoneType") = some false) (st : PySem.W.subIn X.K (.ref C) (.type "tuple") = some false)
    (h : ∀ x y k H, D x y k H → ((∃ i, x = .int i) ∨ x = .non ∨ ∃ t xs, x = .ref t ∧ SqT X.K H t xs) ∧ ∃ a dx fs, y = .ref a ∧ H a = some (.ins C dx fs) ∧ sp [.ref a, x] H (fun v H' => v = .bl k ∧ Ext H H') fun _ _ _ => False) : RcBl X n D := by
  intro A pins s σ H x y u v k sb I rx ry d
  obtain ⟨kind, a, dx, fs, rfl, ha, hs⟩ := h _ _ _ _ d
  cases ry
  obtain ⟨ho, od, J⟩ := inst_at2 I ha
  have fin : wpAny (model X.prog X.w) A (call (.ref f) [.ref a, u]) (PySem.W.CmpBack fun r s' => r = .bool k ∧ ∃ H', Inv X pins σ H' s' ∧ Ext H H') X.xe s := by
    refine wpAny_mono (own_call Fn b sb.room (sb.fr.trans I.ok.frames) I (.cons (a := V.ref a) rfl (.cons rx .nil)) hs) (fun z s' q => ?_) fun _ _ z => z
    obtain ⟨v2, H2, J2, r2, rfl, q⟩ := q
    cases r2
    exact ⟨rfl, H2, J2, q⟩
  rcases kind with ⟨i, rfl⟩ | rfl | ⟨t, xs, rfl, hT⟩
  · obtain ⟨tk, rfl⟩ := rx
    exact rc_back sb.room.units0 I.kIn (typeIs_int s i tk) J si F.slot_int_eq (fun _ hq => call_meets F.slot_int_eq (typeIs_int s i tk) F.entry_int_eq (F.args_int_eq_2 _ _) (int_eq_inst i tk a C dx) ⟨ho, hq⟩) c.eq c.fn fin
  · cases rx
    exact rc_back sb.room.units0 I.kIn rfl J sn F.slot_NoneType_eq (fun _ hq => call_gives F.slot_NoneType_eq rfl F.entry_NoneType_eq (F.args_NoneType_eq_2 _ _) (SeqAt.NoneType___eq___none_ref_0 a) hq) c.eq c.fn fin
  · cases rx
    obtain ⟨its, r, e, z⟩ := I.tuple hT
    obtain ⟨⟨cls, dd, data, sl⟩, ho2, hc, n2, hd⟩ := id e
    simp only at hc hd
    subst hc hd
    exact rc_back sb.room.units0 I.kIn ⟨_, ho2, rfl⟩ J st F.slot_tuple_eq (fun _ hq => call_meets F.slot_tuple_eq ⟨_, ho2, rfl⟩ F.entry_tuple_eq (F.args_tuple_eq_2 _ _) (tuple_eq_inst t a C X.K st) ⟨ho2, ⟨_, _, J⟩, I.kIn, hq⟩) c.eq c.fn fin
/-- tuples, item by item: m pairs alike, then one unlike, or an end -/
def DTupB (K : PySem.W.Frag) (D : EqvB) : EqvB := fun x y k H => ∃ a b xs ys m, x = .ref a ∧ y = .ref b ∧ SqT K H a xs ∧ SqT K H b ys ∧ m ≤ min xs.length ys.length ∧ (∀ (i : Nat) x y, i < m → xs[i]? = some x → ys[i]? = some y → D x y true H) ∧
  ((k = false ∧ ∃ x y, xs[m]? = some x ∧ ys[m]? = some y ∧ D x y false H) ∨ (m = min xs.length ys.length ∧ k = (xs.length == ys.length)))
theorem monB_tup {K : PySem.W.Frag} (hD : MonB D) : MonB (DTupB K D) := fun x y k H H' e d => by
  obtain ⟨a, b, xs, ys, m, hx, hy, h1, h2, hm, ha, hl⟩ := d
  refine ⟨a, b, xs, ys, m, hx, hy, h1.ext e, h2.ext e, hm, fun i x y hi g1 g2 => hD _ _ _ _ _ e (ha i x y hi g1 g2), ?_⟩
  rcases hl with ⟨hk, x, y, g1, g2, d⟩ | hl
  · exact .inl ⟨hk, x, y, g1, g2, hD _ _ _ _ _ e d⟩
  · exact .inr hl
theorem item_of {xs : List V} {its : List Value} (r : Vals xs its) {i : Nat} (h : i < its.toArray.size) : ∃ x, xs[i]? = some x ∧ RelV x its.toArray[i] := by
  have k1 : i < xs.length := by rw [r.length]; simpa using h
  obtain ⟨u, hu, ru⟩ := r.get (List.getElem?_eq_getElem k1)
  have g1 : its[i]? = some its.toArray[i] := by
    have h1' : i < its.length := by simpa using h
    rw [List.getElem?_eq_getElem h1'] <;> simp
  rw [g1] at hu
  exact ⟨_, List.getElem?_eq_getElem k1, Option.some.inj hu ▸ ru⟩
theorem rcBl_tup (hD : MonB D) (h : EqBl X n D) : RcBl X (n + 1) (DTupB X.K D) := by
  intro A pins s σ H x y u v k sb I rx ry d
  obtain ⟨a, b, xs, ys, m, rfl, rfl, ha, hb, hm, hall, hlast⟩ := d
  cases rx
  cases ry
  obtain ⟨its, r, e, z⟩ := I.tuple ha
  obtain ⟨its2, r2, e2, z2⟩ := I.tuple hb
  have l1 : its.toArray.size = xs.length := by rw [r.length]; simp
  have l2 : its2.toArray.size = ys.length := by rw [r2.length]; simp
  obtain ⟨⟨cls, dd, data, sl⟩, ho, hc, n1, hd⟩ := id e
  obtain ⟨⟨cls2, dd2, data2, sl2⟩, ho2, hc2, n2, hd2⟩ := id e2
  simp only at hc hd hc2 hd2
  subst hc hd hc2 hd2
  refine wpAny_richCompare_same_room (op := .Eq) ⟨_, ho, rfl⟩ ⟨_, ho2, rfl⟩ F.slot_tuple_eq (GQ.call_here F.slot_tuple_eq ⟨_, ho, rfl⟩ F.entry_tuple_eq (F.args_tuple_eq_2 _ _) ?_) sb.room.units0
  refine tuple_eqB (R := wants (fun v s' => v ≠ .notImplemented ∧ (v = .bool k ∧ ∃ H', Inv X pins σ H' s' ∧ Ext H H')) X.xe) a b its.toArray its2.toArray n1 n2 dd dd2 sl sl2 m (by rw [l1, l2]; exact hm) (fun _ s' => ∃ H', Inv X pins σ H' s' ∧ Ext H H') (fun i h1 h2 s' hi q => ?_) (fun s' em q => ?_) ho ho2 ⟨H, I, Ext.rfl'⟩
  · obtain ⟨H1, I1, e1⟩ := q
    obtain ⟨x, gx, rx⟩ := item_of r h1
    obtain ⟨y, gy, ry⟩ := item_of r2 h2
    rcases Nat.lt_or_ge i m with lt | ge
    · refine wpAny_mono (h A.in1 pins s' σ H1 _ _ _ _ true sb.in1 I1 rx ry (hD _ _ _ _ _ e1 (hall i x y lt gx gy))) (fun r s2 q => ?_) fun _ _ x => x
      obtain ⟨hr, H2, I2, e2⟩ := q
      exact .inl ⟨lt, hr, H2, I2, e1.trans e2⟩
    · have e0 : i = m := Nat.le_antisymm hi ge
      subst e0
      rcases hlast with ⟨rfl, x', y', gx', gy', d⟩ | ⟨em, _⟩
      · rw [gx] at gx'
        rw [gy] at gy'
        cases gx'
        cases gy'
        refine wpAny_mono (h A.in1 pins s' σ H1 _ _ _ _ false sb.in1 I1 rx ry (hD _ _ _ _ _ e1 d)) (fun r s2 q => ?_) fun _ _ x => x
        obtain ⟨hr, H2, I2, e2⟩ := q
        exact .inr ⟨hr, (fun x => nomatch x), rfl, H2, I2, e1.trans e2⟩
      · omega
  · rcases hlast with ⟨rfl, x', y', gx', gy', d⟩ | ⟨_, hk⟩
    · have a1 := (List.getElem?_eq_some_iff.mp gx').1
      have a2 := (List.getElem?_eq_some_iff.mp gy').1
      omega
    · refine ⟨(fun x => nomatch x), ?_, q⟩
      rw [l1, l2, hk]
/-- x in a tuple: m items unlike, then one alike, or the end -/
def rInQ (K : PySem.W.Frag) (D : EqvB) (neg : Bool) : R2 := fun x y H Q => ∃ p xs m k, y = .ref p ∧ SqT K H p xs ∧ m ≤ xs.length ∧ (∀ (i : Nat) z, i < m → xs[i]? = some z → D z x false H) ∧
  ((k = true ∧ ∃ z, xs[m]? = some z ∧ D z x true H) ∨ (m = xs.length ∧ k = false)) ∧ ∀ H', Ext H H' → Q (.bl (if neg then !k else k)) H'
theorem call_inB (hD : MonB D) (h : EqBl X n D) (hr : Room (n + 1) X.A) {pins : List (Addr × Obj)} {s : Shared} {σ : L2.St} {H : Hp} {x : V} {u : Value} {p : Addr} {xs : List V} {m : Nat} {k : Bool} {R : Value → Shared → Prop} (I : Inv X pins σ H s) (rx : RelV x u) (hq : SqT X.K H p xs) (hm : m ≤ xs.length)
    (hall : ∀ (i : Nat) z, i < m → xs[i]? = some z → D z x false H) (hlast : (k = true ∧ ∃ z, xs[m]? = some z ∧ D z x true H) ∨ (m = xs.length ∧ k = false)) (q : ∀ s' H', Inv X pins σ H' s' → Ext H H' → R (.bool k) s') :
    s.TypeIs (.ref p) "tuple" ∧ wpAny (model X.prog X.w) X.A (call (.builtin "tuple.__contains__") [.ref p, u]) R X.xe s := by
  obtain ⟨its, r, e, z⟩ := I.tuple hq
  have l1 : its.toArray.size = xs.length := by rw [r.length]; simp
  obtain ⟨⟨cls, dd, data, sl⟩, ho, hc, n1, hd⟩ := id e
  simp only at hc hd
  subst hc hd
  refine ⟨⟨_, ho, rfl⟩, GQ.call_here F.slot_tuple_contains ⟨_, ho, rfl⟩ F.entry_tuple_contains (F.args_tuple_contains_2 _ _) ?_⟩
  refine tuple_inB (R := wants R X.xe) p u its.toArray n1 dd sl m (by rw [l1]; exact hm) (fun _ s' => ∃ H', Inv X pins σ H' s' ∧ Ext H H') (fun i h1 s' hi qq => ?_) (fun s' em qq => ?_) ho ⟨H, I, Ext.rfl'⟩
  · obtain ⟨H1, I1, e1⟩ := qq
    obtain ⟨z, gz, rz⟩ := item_of r h1
    have sb : Sub X (n + 1) X.A := ⟨hr, rfl⟩
    rcases Nat.lt_or_ge i m with lt | ge
    · refine wpAny_mono (h X.A.in1 pins s' σ H1 _ _ _ _ false sb.in1 I1 rz rx (hD _ _ _ _ _ e1 (hall i z lt gz))) (fun r s2 q2 => ?_) fun _ _ x => x
      obtain ⟨hr, H2, I2, e2⟩ := q2
      exact .inl ⟨lt, hr, H2, I2, e1.trans e2⟩
    · have e0 : i = m := Nat.le_antisymm hi ge
      subst e0
      rcases hlast with ⟨rfl, z', gz', d⟩ | ⟨em, _⟩
      · rw [gz] at gz'
        cases gz'
        refine wpAny_mono (h X.A.in1 pins s' σ H1 _ _ _ _ true sb.in1 I1 rz rx (hD _ _ _ _ _ e1 d)) (fun r s2 q2 => ?_) fun _ _ x => x
        obtain ⟨hr, H2, I2, e2⟩ := q2
        exact .inr ⟨hr, q _ _ I2 (e1.trans e2)⟩
      · omega
  · obtain ⟨H1, I1, e1⟩ := qq
    rcases hlast with ⟨rfl, z', gz', d⟩ | ⟨_, rfl⟩
    · have a1 := (List.getElem?_eq_some_iff.mp gz').1
      omega
    · exact q _ _ I1 e1
theorem op_inB (hD : MonB D) (h : EqBl X n D) (hr : Room (n + 1) X.A) : OpR X (compareOp .In) (rInQ X.K D false) := by
  intro pins s σ H x y u v Q I rx ry hh
  obtain ⟨p, xs, m, k, rfl, hq, hm, hall, hlast, q⟩ := hh
  cases ry
  obtain ⟨ty, cl⟩ := call_inB (R := fun r s' => wpAny (model X.prog X.w) X.A (truthy r) (fun b s2 => wpAny (model X.prog X.w) X.A (pure (Value.bool b)) (EP X pins σ Q) X.xe s2) X.xe s') hD h hr I rx hq hm hall hlast fun s' H' I' e => wpAny_truthy_bool (wpAny_pure ⟨.bl k, H', I', rfl, q H' e⟩)
  show wpAny _ X.A (do return .bool (← contains (.ref p) u)) (EP X pins σ Q) X.xe s
  exact wpAny_bind (wpAny_contains_slot ty F.slot_tuple_contains cl)
theorem op_notInB (hD : MonB D) (h : EqBl X n D) (hr : Room (n + 1) X.A) : OpR X (compareOp .NotIn) (rInQ X.K D true) := by
  intro pins s σ H x y u v Q I rx ry hh
  obtain ⟨p, xs, m, k, rfl, hq, hm, hall, hlast, q⟩ := hh
  cases ry
  obtain ⟨ty, cl⟩ := call_inB (R := fun r s' => wpAny (model X.prog X.w) X.A (truthy r) (fun b s2 => wpAny (model X.prog X.w) X.A (pure (Value.bool (!b))) (EP X pins σ Q) X.xe s2) X.xe s') hD h hr I rx hq hm hall hlast fun s' H' I' e => wpAny_truthy_bool (wpAny_pure ⟨.bl (!k), H', I', rfl, q H' e⟩)
  show wpAny _ X.A (do return .bool (!(← contains (.ref p) u))) (EP X pins σ Q) X.xe s
  exact wpAny_bind (wpAny_contains_slot ty F.slot_tuple_contains cl)
/-- x == y as an expression -/
def rEqB (D : EqvB) : R2 := fun x y H Q => ∃ k, D x y k H ∧ ∀ H', Ext H H' → Q (.bl k) H'
theorem op_eqB (h : RcBl X n D) (hr : Room n X.A) : OpR X (compareOp .Eq) (rEqB D) := by
  intro pins s σ H x y v u Q I rx ry hq
  obtain ⟨k, d, q⟩ := hq
  show wpAny (model X.prog X.w) X.A (richCompare .Eq v u) (EP X pins σ Q) X.xe s
  refine wpAny_mono (h X.A pins s σ H x y v u k ⟨hr, rfl⟩ I rx ry d) (fun r s' z => ?_) fun _ _ x => x
  obtain ⟨hr', H', I', e⟩ := z
  subst hr'
  exact ⟨.bl k, H', I', rfl, q H' e⟩
end
end G

/-! == of statements, whatever two they are. -/
namespace LW
open PySem L2 G
theorem eqvAll_chains : ∀ l m : List (List Str), PyData.eqvAll (l.map chD) (m.map chD) = decide (l = m)
  | [], [] => by simp [PyData.eqvAll]
  | [], _ :: _ => by simp [PyData.eqvAll]
  | _ :: _, [] => by simp [PyData.eqvAll]
  | a :: l, b :: m => by
    simp only [List.map_cons, PyData.eqvAll, eqv_chain, eqvAll_chains l m, List.cons.injEq]
    by_cases h : a = b <;> by_cases h2 : l = m <;> simp [h, h2]
theorem eqv_subj {d e : PyData} (hd : subjD d = true) (he : subjD e = true) : (PyData.eqv d e = true ↔ d = e) := by
  rcases subj_cases hd with ⟨ws, rfl, c⟩ | ⟨m, wss, rfl, c, l1, _⟩ <;> rcases subj_cases he with ⟨vs, rfl, c2⟩ | ⟨m2, vss, rfl, c2, k1, _⟩
  · rw [eqv_chain, decide_eq_true_iff]
    refine ⟨fun z => by rw [z], fun z => ?_⟩
    have := congrArg wordsD z
    rwa [wordsD_chain, wordsD_chain] at this
  · obtain ⟨w0, wr, rfl⟩ : ∃ w0 wr, ws = w0 :: wr := by
      cases ws with
      | nil => exact absurd c (by decide +kernel)
      | cons w0 wr => exact ⟨w0, wr, rfl⟩
    refine ⟨fun z => ?_, fun z => ?_⟩
    · simp [PyData.eqv, PyData.eqvAll] at z
    · have := PyData.tuple.inj z
      cases (List.cons.inj this).1
  · obtain ⟨w0, wr, rfl⟩ : ∃ w0 wr, vs = w0 :: wr := by
      cases vs with
      | nil => exact absurd c2 (by decide +kernel)
      | cons w0 wr => exact ⟨w0, wr, rfl⟩
    refine ⟨fun z => ?_, fun z => ?_⟩
    · simp [PyData.eqv, PyData.eqvAll] at z
    · have := PyData.tuple.inj z
      cases (List.cons.inj this).1
  · have e : PyData.eqv (.tuple [.int m, .tuple (wss.map chD)]) (.tuple [.int m2, .tuple (vss.map chD)]) = (decide (m = m2) && decide (wss = vss)) := by
      simp only [PyData.eqv, PyData.eqvAll, eqvAll_chains, Bool.and_true]
      by_cases h : m = m2 <;> simp [h]
    rw [e, Bool.and_eq_true, decide_eq_true_iff, decide_eq_true_iff]
    refine ⟨fun ⟨h, h2⟩ => by rw [h, h2], fun z => ?_⟩
    have z1 := PyData.tuple.inj z
    have z2 := PyData.tuple.inj (List.cons.inj (List.cons.inj z1).2).1
    have z3 := congrArg (List.map wordsD) z2
    rw [words_map, words_map] at z3
    exact ⟨PyData.int.inj (List.cons.inj z1).1, z3⟩
theorem MadeAt.nam {K : PySem.W.Frag} {H : Hp} {CN CL a : Addr} {p n : Str} {ws : List Str} {i j : Int} (m : MadeAt K H CN CL a (.nam p n ws i j)) (ok : (Plain.nam p n ws i j).Ok) : NamAt K H CN a p n ws i j := by
  obtain ⟨dx, q, c, h1, h2, h3⟩ := m
  exact ⟨⟨dx, q, c, _, h1, h2, h3⟩, words_strOk ok.2.2.1⟩
/-- the text in the heap -/
theorem MadeAt.tx {K : PySem.W.Frag} {H : Hp} {CN CL a : Addr} {pl : Plain} (m : MadeAt K H CN CL a pl) : ∃ C dx fs, H a = some (.ins C dx fs) ∧ fs.lookup (Str.ofString "_text") = some (V.str pl.text) := by
  cases pl with
  | nam p n ws i j =>
    obtain ⟨dx, q, c, h1, _⟩ := m
    refine ⟨_, _, _, h1, ?_⟩
    have e1 : (Str.ofString "_text" == Str.ofString "_person") = false := by decide +kernel
    have e2 : (Str.ofString "_text" == Str.ofString "_days") = false := by decide +kernel
    simp [List.lookup, e1, e2]
    rfl
  | lea p dj g h i j t =>
    obtain ⟨dx, q, ag, vj, h1, _⟩ := m
    exact ⟨_, _, _, h1, ll3⟩
theorem MadeAt.inj {K : PySem.W.Frag} {H : Hp} {CN CL a : Addr} {x y : Plain} (m : MadeAt K H CN CL a x) (m2 : MadeAt K H CN CL a y) (ok : x.Ok) (ok2 : y.Ok) : x = y := by
  obtain ⟨C, dx, fs, h1, t1⟩ := m.tx
  obtain ⟨C2, dx2, fs2, h2, t2⟩ := m2.tx
  rw [h1] at h2
  cases h2
  rw [t1] at t2
  exact text_inj ok ok2 (V.str.inj (Option.some.inj t2))
/-- the same -/
noncomputable def same? {α : Type} (a b : α) : Bool := @decide (a = b) (Classical.propDecidable _)
theorem same_iff {α : Type} {a b : α} : same? a b = true ↔ a = b := by
  exact @decide_eq_true_iff _ (Classical.propDecidable _)
theorem same_yes {α : Type} {a b : α} (h : a = b) : same? a b = true := same_iff.mpr h
theorem same_no {α : Type} {a b : α} (h : a ≠ b) : same? a b = false := Bool.eq_false_iff.mpr fun z => h (same_iff.mp z)
/-- two statements -/
def DSts (K : PySem.W.Frag) (CN CL : Addr) : EqvB := fun x y k H => ∃ (a b : Addr) (p q : Plain), x = .ref a ∧ y = .ref b ∧ MadeAt K H CN CL a p ∧ MadeAt K H CN CL b q ∧ p.Ok ∧ q.Ok ∧ k = same? p q
theorem ext_same {H H' : Hp} (e : Ext H H') : Same H H' := fun b o h => e b o h
theorem mon_sts {K : PySem.W.Frag} {CN CL : Addr} : MonB (DSts K CN CL) := fun x y k H H' e d => by
  obtain ⟨a, b, p, q, hx, hy, m1, m2, o1, o2, hk⟩ := d
  exact ⟨a, b, p, q, hx, hy, m1.keep (Keep.same (ext_same e)) o1, m2.keep (Keep.same (ext_same e)) o2, o1, o2, hk⟩
theorem sts_id {K : PySem.W.Frag} {CN CL : Addr} : ∀ x y k H, DSts K CN CL x y k H → ((∃ a, x = .ref a) ∨ ∃ a, y = .ref a) ∧ (x = y → k = true) := fun x y k H d => by
  obtain ⟨a, b, p, q, rfl, rfl, m1, m2, o1, o2, rfl⟩ := d
  refine ⟨.inl ⟨a, rfl⟩, fun e => ?_⟩
  cases e
  exact same_yes (m1.inj m2 o1 o2)
/-- the two classes' own ==, as the walk needs it -/
structure StEq (P : Program) (w : World) (K : PySem.W.Frag) (mg : Str → Option Value) (base : Heap) (CN CL fN fL : Addr) (dN dL : FuncData) : Prop where
  nc : NamC K CN
  lc : LeaC K CL
  iN : InsK K CN
  iL : InsK K CL
  kNL : PySem.W.kitOne K (.ref CN) (.ref CL) = some false
  kLN : PySem.W.kitOne K (.ref CL) (.ref CN) = some false
  eN : EqC K CN fN
  eL : EqC K CL fL
  oN : FnOk P w K mg base CX0 3 fN dN ["self", "other"] (spEqN K CN)
  oL : FnOk P w K mg base CX0 3 fL dL ["self", "other"] (spEqL K CL)
  bN : Binds K dN ["self", "other"] []
  bL : Binds K dL ["self", "other"] []
  nNL : PySem.W.notFirst K CN (.ref CL) = true
  nLN : PySem.W.notFirst K CL (.ref CN) = true
theorem notFirst_self {K : PySem.W.Frag} {C : Addr} : PySem.W.notFirst K C (.ref C) = true := by simp [PySem.W.notFirst]
theorem Ext0 {H : Hp} : Ext H H := Ext.rfl'
section
variable {X : Cx} {CN CL fN fL : Addr} {dN dL : FuncData}
theorem rc_sts (S : StEq X.prog X.w X.K X.mg X.base CN CL fN fL dN dL) : RcBl X 3 (DSts X.K CN CL) := by
  have hN : RcBl X 3 (fun x y k H => DSts X.K CN CL x y k H ∧ ∃ a p n ws i j, x = .ref a ∧ MadeAt X.K H CN CL a (.nam p n ws i j) ∧ (Plain.nam p n ws i j).Ok) := by
    refine rcBl_own S.oN S.eN S.bN fun x y k H d => ?_
    obtain ⟨⟨a, b, p, q, rfl, rfl, m1, m2, o1, o2, rfl⟩, a', pp, n, ws, i, j, e, m3, o3⟩ := d
    cases e
    have e2 := m1.inj m3 o1 o3
    subst e2
    obtain ⟨dx, _, _, h1, _⟩ := id m1
    cases q with
    | nam p2 n2 ws2 i2 j2 =>
      refine ⟨a, dx, _, _, rfl, h1, m2.tyN S.nc S.iN, notFirst_self, a, .ref b, pp, n, ws, i, j, rfl, m1.nam o1, .inl ⟨b, p2, n2, ws2, i2, j2, rfl, m2.nam o2, ?_, Ext0⟩⟩
      refine congrArg V.bl (Bool.eq_iff_iff.mpr ?_)
      simp only [decide_eq_true_iff, same_iff]
      exact ⟨fun ⟨e1, e2, e3, e4, e5⟩ => by rw [e1, e2, e3, e4, e5], fun z => by cases z; exact ⟨rfl, rfl, rfl, rfl, rfl⟩⟩
    | lea p2 dj g h i2 j2 t =>
      refine ⟨a, dx, _, _, rfl, h1, m2.tyL S.lc S.iL, S.nNL, a, .ref b, pp, n, ws, i, j, rfl, m1.nam o1, .inr ⟨_, m2.tyL S.lc S.iL, S.kLN, ?_, Ext0⟩⟩
      exact congrArg V.bl (same_no (by intro z; cases z)).symm
  have hL : RcBl X 3 (fun x y k H => DSts X.K CN CL x y k H ∧ ∃ a p dj g h i j t, x = .ref a ∧ MadeAt X.K H CN CL a (.lea p dj g h i j t) ∧ (Plain.lea p dj g h i j t).Ok) := by
    refine rcBl_own S.oL S.eL S.bL fun x y k H d => ?_
    obtain ⟨⟨a, b, p, q, rfl, rfl, m1, m2, o1, o2, rfl⟩, a', pp, dj, g, h, i, j, t, e, m3, o3⟩ := d
    cases e
    have e2 := m1.inj m3 o1 o3
    subst e2
    obtain ⟨dx, _, _, _, h1, _⟩ := id m1
    cases q with
    | nam p2 n2 ws2 i2 j2 =>
      refine ⟨a, dx, _, _, rfl, h1, m2.tyN S.nc S.iN, S.nLN, a, .ref b, pp, dj, g, h, i, j, t, rfl, m1, o1.2.1, .inr ⟨_, m2.tyN S.nc S.iN, S.kNL, ?_, Ext0⟩⟩
      exact congrArg V.bl (same_no (by intro z; cases z)).symm
    | lea p2 dj2 g2 h2 i2 j2 t2 =>
      refine ⟨a, dx, _, _, rfl, h1, m2.tyL S.lc S.iL, notFirst_self, a, .ref b, pp, dj, g, h, i, j, t, rfl, m1, o1.2.1, .inl ⟨b, p2, dj2, g2, h2, i2, j2, t2, rfl, m2, o2.2.1, ?_, Ext0⟩⟩
      refine congrArg V.bl (Bool.eq_iff_iff.mpr ?_)
      unfold eqvL
      simp only [Bool.and_eq_true, decide_eq_true_iff, same_iff, eqv_subj o1.2.1 o2.2.1]
      exact ⟨fun ⟨e1, e2, ⟨e3, e4⟩, ⟨e5, e6⟩, e7⟩ => by rw [e1, e2, e3, e4, e5, e6, e7], fun z => by cases z; exact ⟨rfl, rfl, ⟨rfl, rfl⟩, ⟨rfl, rfl⟩, rfl⟩⟩
  refine (hN.or hL).imp fun x y k H d => ?_
  obtain ⟨a, b, p, q, rfl, rfl, m1, m2, o1, o2, rfl⟩ := id d
  cases p with
  | nam p n ws i j => exact .inl ⟨d, a, p, n, ws, i, j, rfl, m1, o1⟩
  | lea p dj g h i j t => exact .inr ⟨d, a, p, dj, g, h, i, j, t, rfl, m1, o1⟩
theorem eq_sts (S : StEq X.prog X.w X.K X.mg X.base CN CL fN fL dN dL) : EqBl X 3 (DSts X.K CN CL) := (rc_sts S).eqBl sts_id
end
/-- where two lists part -/
theorem part_at {α : Type} : ∀ l m : List α, ∃ n, n ≤ min l.length m.length ∧ (∀ i x y, i < n → l[i]? = some x → m[i]? = some y → x = y) ∧
    ((l ≠ m ∧ ∃ x y, l[n]? = some x ∧ m[n]? = some y ∧ x ≠ y) ∨ (n = min l.length m.length ∧ (l = m ↔ l.length = m.length)))
  | [], m => ⟨0, Nat.zero_le _, fun i x y h => absurd h (Nat.not_lt_zero _), .inr ⟨by simp, by cases m <;> simp⟩⟩
  | a :: l, [] => ⟨0, Nat.zero_le _, fun i x y h => absurd h (Nat.not_lt_zero _), .inr ⟨by simp, by simp⟩⟩
  | a :: l, b :: m => by
    classical
    by_cases e : a = b
    · subst e
      obtain ⟨n, h1, h2, h3⟩ := part_at l m
      refine ⟨n + 1, by simp only [List.length_cons]; omega, fun i x y hi g1 g2 => ?_, ?_⟩
      · cases i with
        | zero =>
          simp at g1 g2
          exact g1.symm.trans g2
        | succ i =>
          simp at g1 g2
          exact h2 i x y (by omega) g1 g2
      · rcases h3 with ⟨h4, x, y, g1, g2, ne⟩ | ⟨h4, h5⟩
        · exact .inl ⟨fun z => h4 (List.cons.inj z).2, x, y, by simpa using g1, by simpa using g2, ne⟩
        · refine .inr ⟨by simp only [List.length_cons]; omega, ?_⟩
          simp only [List.cons.injEq, true_and, List.length_cons, h5]
          omega
    · exact ⟨0, Nat.zero_le _, fun i x y h => absurd h (Nat.not_lt_zero _), .inl ⟨fun z => e (List.cons.inj z).1, a, b, rfl, rfl, e⟩⟩
end LW

/-! A loop over what is walked, whatever stands within: for the loops of comprehensions with several clauses. -/
namespace G
open PySem PySem.Spec L2
theorem loop_it {J : It} {n : Nat} {G : Hp → Prop} {Y : Nat → Hp → V → Hp → Prop} (w : Walk J n G Y) {H0 : Hp} {Qd : Hp → Prop} {B : (Hp → Prop) → V → Hp → Prop} (Pv : Nat → Hp → Prop) (h0 : Pv 0 H0) (hG : ∀ i H, i ≤ n → Pv i H → G H)
    (hs : ∀ i x H H', i < n → Pv i H → Y i H x H' → B (Pv (i + 1)) x H') (hd : ∀ H, Pv n H → Qd H) :
    ∃ W : Nat → Nat → Hp → Prop, (∃ m, W 0 m H0) ∧ ∀ i m H, W i m H → (J.stop i H ∧ Qd H) ∨ (J.go i H ∧ ∃ Nx : Hp → Prop, (∀ H', Nx H' → ∃ m', m' < m ∧ W (i + 1) m' H') ∧ ∀ x H', J.yld i H x H' → B Nx x H') := by
  refine ⟨fun i m H => m = n - i ∧ i ≤ n ∧ Pv i H, ⟨n, by omega, Nat.zero_le _, h0⟩, fun i m H h => ?_⟩
  obtain ⟨rfl, hi, p⟩ := h
  have q := hG i H hi p
  rcases Nat.lt_or_eq_of_le hi with lt | rfl
  · exact .inr ⟨w.goes i H lt q, Pv (i + 1), fun H' p' => ⟨n - (i + 1), by omega, rfl, lt, p'⟩, fun x H' y => hs i x H H' lt p (w.yields i H x H' lt q y)⟩
  · exact .inl ⟨w.stops H q, hd H p⟩
end G

/-! Plain statements as data; the pool of statements. -/
namespace LW
open PySem L2 G
/-- plain statements in the heap -/
def Pls (K : PySem.W.Frag) (H : Hp) (ps : List (V × Plain)) : Prop := ∀ r ∈ ps, Da K H r.1 r.2.d ∧ r.2.Ok
theorem Pls.keep {K : PySem.W.Frag} {H H' : Hp} {ps : List (V × Plain)} (h : Pls K H ps) (k : Keep H H') : Pls K H' ps := fun r hr => ⟨(h r hr).1.keep k (Plain.flat (h r hr).2), (h r hr).2⟩
theorem texts_nd {l : List Plain} (ok : ∀ pl ∈ l, pl.Ok) (nd : l.Nodup) : (l.map Plain.text).Nodup :=
  List.pairwise_map.mpr (List.Pairwise.imp_of_mem (fun {a b} ha hb ne e => ne (text_inj (ok a ha) (ok b hb) e)) nd)
theorem lay_chain {ws : List Str} (h : ∀ z ∈ ws, PyData.strOk z = true) : (chD ws).canLay0 = true ∧ (chD ws).depth ≤ 1 := by
  refine ⟨by simp only [chD, PyData.canLay0, layStrs ws h], ?_⟩
  simp only [chD, PyData.depth, depStrs]
  omega
theorem lay_subj {d : PyData} (h : subjD d = true) : d.canLay0 = true ∧ d.depth ≤ 3 := by
  rcases subj_cases h with ⟨ws, rfl, c⟩ | ⟨m, wss, rfl, c, l1, l4, ch, rest⟩
  · have z := lay_chain (words_strOk c)
    exact ⟨z.1, by omega⟩
  · have a : PyData.canLayAll0 (wss.map chD) = true ∧ PyData.depthAll (wss.map chD) ≤ 1 := by
      clear c l1 l4 h rest
      induction wss with
      | nil => exact ⟨by simp [PyData.canLayAll0], by simp [PyData.depthAll]⟩
      | cons w r ih =>
        obtain ⟨i1, i2⟩ := ih fun ws hw => ch ws (List.mem_cons_of_mem _ hw)
        obtain ⟨h1, h2⟩ := lay_chain (words_strOk (ch w List.mem_cons_self))
        refine ⟨by simp only [List.map_cons, PyData.canLayAll0, h1, i1, Bool.and_self], ?_⟩
        simp only [List.map_cons, PyData.depthAll]
        omega
    refine ⟨by simp only [PyData.canLay0, PyData.canLayAll0, a.1, Bool.and_self], ?_⟩
    simp only [PyData.depth, PyData.depthAll]
    have := a.2
    omega
theorem lay_plain {pl : Plain} (ok : pl.Ok) : pl.d.canLay0 = true ∧ pl.d.depth ≤ 4 := by
  cases pl with
  | nam p n ws i j =>
    obtain ⟨h1, h2⟩ := lay_chain (words_strOk ok.2.2.1)
    have hn : PyData.strOk (Str.ofString "n") = true := by decide +kernel
    refine ⟨by simp only [Plain.d, PyData.canLay0, PyData.canLayAll0, layStrs ws (words_strOk ok.2.2.1), letters_strOk ok.1, letters_strOk ok.2.1, hn, Bool.and_self], ?_⟩
    simp only [Plain.d, PyData.depth, PyData.depthAll]
    simp only [chD, PyData.depth] at h2
    omega
  | lea p dj g h i j t =>
    obtain ⟨h1, h2⟩ := lay_subj ok.2.1
    have hn : PyData.strOk (Str.ofString "l") = true := by decide +kernel
    have ht : (timesP t).canLay0 = true ∧ (timesP t).depth ≤ 1 := by cases t <;> exact ⟨by simp [timesP, PyData.canLay0], by simp [timesP, PyData.depth]⟩
    refine ⟨by simp only [Plain.d, PyData.canLay0, PyData.canLayAll0, h1, ht.1, letters_strOk ok.1, hn, Bool.and_self], ?_⟩
    simp only [Plain.d, PyData.depth, PyData.depthAll]
    have := ht.2
    omega
theorem shaped_plain {pl : Plain} (ok : pl.Ok) : SeqAt.shaped pl.d = true := by
  obtain ⟨h1, h2⟩ := lay_plain ok
  have h3 : pl.d.depth ≤ 64 := by omega
  simp only [SeqAt.shaped, h1, h3, decide_true, Bool.and_self]
theorem shaped_plains : ∀ {pls : List Plain}, (∀ pl ∈ pls, pl.Ok) → SeqAt.shaped (.list (pls.map Plain.d)) = true := by
  intro pls ok
  have a : PyData.canLayAll0 (pls.map Plain.d) = true ∧ PyData.depthAll (pls.map Plain.d) ≤ 4 := by
    induction pls with
    | nil => exact ⟨by simp [PyData.canLayAll0], by simp [PyData.depthAll]⟩
    | cons w r ih =>
      obtain ⟨i1, i2⟩ := ih fun ws hw => ok ws (List.mem_cons_of_mem _ hw)
      obtain ⟨h1, h2⟩ := lay_plain (ok w List.mem_cons_self)
      refine ⟨by simp only [List.map_cons, PyData.canLayAll0, h1, i1, Bool.and_self], ?_⟩
      simp only [List.map_cons, PyData.depthAll]
      omega
  have h2 : (PyData.list (pls.map Plain.d)).depth ≤ 64 := by
    simp only [PyData.depth]
    have := a.2
    omega
  simp only [SeqAt.shaped, PyData.canLay0, a.1, h2, decide_true, Bool.and_self]
theorem any_no {pls : List Plain} {pl : Plain} (ok : pl.Ok) (h : ((pls.map Plain.d).any fun z => PyData.eqv z pl.d) = false) : pl ∉ pls := fun m => by
  have z := List.any_eq_false.mp h pl.d (List.mem_map.mpr ⟨pl, m, rfl⟩)
  exact z (SeqAt.eqv_refl _ (lay_plain ok).1)
theorem Pls.dps {K : PySem.W.Frag} {H : Hp} : ∀ {ps : List (V × Plain)}, Pls K H ps → DpAll K H (ps.map Prod.fst) ((ps.map Prod.snd).map Plain.d)
  | [], _ => .nil
  | r :: ps, h => .cons ((h r List.mem_cons_self).1.dp (Plain.flat (h r List.mem_cons_self).2)) (Pls.dps fun y hy => h y (List.mem_cons_of_mem _ hy))
theorem eqv_st (i j k l : Int) : PyData.eqv (stD i j) (stD k l) = decide (i = k ∧ j = l) := eqvPair i j k l
theorem eqv_times (t t2 : Option Int) : PyData.eqv (timesP t) (timesP t2) = true ↔ t = t2 := by
  cases t <;> cases t2 <;> simp [timesP, PyData.eqv]
theorem eqv_tup (a b : PyData) (as bs : List PyData) : PyData.eqv (.tuple (a :: as)) (.tuple (b :: bs)) = (PyData.eqv a b && PyData.eqvAll as bs) := by rw [PyData.eqv, PyData.eqvAll]
theorem eqvAll_cons (a b : PyData) (as bs : List PyData) : PyData.eqvAll (a :: as) (b :: bs) = (PyData.eqv a b && PyData.eqvAll as bs) := by rw [PyData.eqvAll]
theorem eqvAll_nil : PyData.eqvAll [] [] = true := by rw [PyData.eqvAll]
theorem eqv_str (a b : Str) : PyData.eqv (.str a) (.str b) = (a == b) := by rw [PyData.eqv]
theorem eqv_plain {p q : Plain} (okp : p.Ok) (okq : q.Ok) : PyData.eqv p.d q.d = true ↔ p = q := by
  cases p with
  | nam a n ws i j =>
    cases q with
    | nam a2 n2 ws2 i2 j2 =>
      have e : PyData.eqv (Plain.nam a n ws i j).d (Plain.nam a2 n2 ws2 i2 j2).d = ((Str.ofString "n" == Str.ofString "n") && ((a == a2) && ((n == n2) && (PyData.eqv (chD ws) (chD ws2) && (PyData.eqv (stD i j) (stD i2 j2) && true))))) := by
        unfold Plain.d
        rw [eqv_tup, eqvAll_cons, eqvAll_cons, eqvAll_cons, eqvAll_cons, eqvAll_nil, eqv_str, eqv_str, eqv_str]
      rw [e, eqv_chain, eqv_st]
      simp only [beq_self_eq_true, Bool.true_and, Bool.and_true, Bool.and_eq_true, beq_iff_eq, decide_eq_true_iff, Plain.nam.injEq]
    | lea a2 dj g h i2 j2 t =>
      refine ⟨fun z => ?_, fun z => by cases z⟩
      unfold Plain.d at z
      have ne : (Str.ofString "n" == Str.ofString "l") = false := by decide +kernel
      rw [eqv_tup, eqv_str, ne, Bool.false_and] at z
      cases z
  | lea a dj g h i j t =>
    cases q with
    | nam a2 n2 ws2 i2 j2 =>
      refine ⟨fun z => ?_, fun z => by cases z⟩
      unfold Plain.d at z
      have ne : (Str.ofString "l" == Str.ofString "n") = false := by decide +kernel
      rw [eqv_tup, eqv_str, ne, Bool.false_and] at z
      cases z
    | lea a2 dj2 g2 h2 i2 j2 t2 =>
      have e : PyData.eqv (Plain.lea a dj g h i j t).d (Plain.lea a2 dj2 g2 h2 i2 j2 t2).d = ((Str.ofString "l" == Str.ofString "l") && ((a == a2) && (PyData.eqv dj dj2 && (PyData.eqv (stD g h) (stD g2 h2) && (PyData.eqv (stD i j) (stD i2 j2) && (PyData.eqv (timesP t) (timesP t2) && true)))))) := by
        unfold Plain.d
        rw [eqv_tup, eqvAll_cons, eqvAll_cons, eqvAll_cons, eqvAll_cons, eqvAll_cons, eqvAll_nil, eqv_str, eqv_str]
      rw [e, eqv_st, eqv_st]
      simp only [beq_self_eq_true, Bool.true_and, Bool.and_true, Bool.and_eq_true, beq_iff_eq, decide_eq_true_iff, eqv_times, eqv_subj okp.2.1 okq.2.1, Plain.lea.injEq, and_assoc]
theorem any_plain {l : List Plain} {p : Plain} (ok : ∀ q ∈ l, q.Ok) (okp : p.Ok) : ((l.map Plain.d).any fun z => PyData.eqv z p.d) = true ↔ p ∈ l := by
  rw [List.any_map, List.any_eq_true]
  constructor
  · rintro ⟨q, hq, e⟩
    have e : PyData.eqv q.d p.d = true := e
    rwa [← (eqv_plain (ok q hq) okp).mp e]
  · exact fun h => ⟨p, h, (eqv_plain okp okp).mpr rfl⟩

end LW

/-! The pool of statements. -/
namespace LW
open PySem L2 G
abbrev sPool : Stmt := top 63
abbrev nmPo : List Str := ["_law_pen_here", "_law_many", "_law_top", "_law_words_here", "_law_people", "_law_names", "_law_found", "_law_k", "_law_make", "_law_plain"]
theorem scPool : FnScope nmPo ["_law_pen_here", "_law_many", "_law_top"] (defScope sPool) := ⟨rfl, rfl, rfl, by decide +kernel, rfl, by decide +kernel, by decide +kernel⟩
theorem Words.same' {H H' : Hp} {o1 o2 : Addr} {people words : List Str} (W : Words H o1 o2 people words) (s : Same H H') : Words H' o1 o2 people words := W.same s
theorem pen_ne_lst {H : Hp} {p c L : Addr} {cells : List Int} {t l : Int} {xs : List V} (N : PenAt H p c cells t l) (h : H L = some (.lst xs)) : L ≠ p := fun z => by
  rw [z, N.pen] at h
  cases h
theorem sqL_sm {K : PySem.W.Frag} {H H' : Hp} {a : Addr} {xs : List V} (S : Same H H') (h : SqL K H a xs) : SqL K H' a xs := S.seq h
def spPool (K : PySem.W.Frag) : Sp := fun vs H Q _ => ∃ (p c : Addr) (cells : List Int) (t l : Int), vs = [.ref p, .int 3, .int 4] ∧ PenAt H p c cells t l ∧ t ≤ 500000 ∧
  ∀ (L : Addr) (ps : List (V × Plain)) (t' l' : Int) (H' : Hp), H' L = some (.lst (ps.map Prod.fst)) → Pls K H' ps → 1 ≤ ps.length → ps.length ≤ 3 → t' ≤ t + 1000 → PenAt H' p c cells t' l' → Old p H H' → Q (.ref L) H'
theorem seven {ws : List Str} (h : (ws.length : Int) = 7) : ∃ a b c d e f g, ws = [a, b, c, d, e, f, g] := by
  match ws, h with
  | [a, b, c, d, e, f, g], _ => exact ⟨a, b, c, d, e, f, g, rfl⟩
section
variable {P : Program} {w : World} {K : PySem.W.Frag} {mg : Str → Option Value} {base : Heap} {fD fW fP fN fL : Addr} {dD dW dP dN dL : FuncData}
theorem ok_pool {f : Addr} {fd : FuncData} (F : Fun K "_law_statement_pool" "_law_statement_pool" sPool f fd) (ra : mg "range" = none)
    (GD : Fx P w K mg base CX0 1 "_law_draw" fD dD ["_law_pen_here", "_law_many"] spDraw) (GW : Fx P w K mg base CX0 3 "_law_words" fW dW ["_law_pen_here", "_law_many"] spWords) (GP : Fx P w K mg base CX0 2 "_law_pick" fP dP ["_law_pen_here", "_law_options"] (spPick K))
    (GN : Fx P w K mg base CX0 6 "_law_naming" fN dN ["_law_pen_here", "_law_people", "_law_words_here", "_law_top"] (spNamL K)) (GL : Fx P w K mg base CX0 6 "_law_leave" fL dL ["_law_pen_here", "_law_people", "_law_words_here", "_law_top"] (spNamL K)) :
    FnOk P w K mg base CX0 7 f fd ["_law_pen_here", "_law_many", "_law_top"] (spPool K) := by
  refine F.ok scPool (fun vs H Q E h => ?_) (fun cdv A outer s H vs Q E hr h => ?_)
  · obtain ⟨p, c, cells, t, l, rfl, _⟩ := h
    rfl
  · obtain ⟨p, c, cells, t, l, rfl, N, ht, k⟩ := h
    have hu : (A.deeper (PyProof.Rows.envOfC "_law_statement_pool" (defScope sPool) s.heap.objs.size f cdv)).units + 65 < cLine := by have := hr.un; omega
    have szl : sizeLine = 16777216 := sizeLine_eq
    have nd := scPool.nd
    have hS : ∀ g sp, (fun g => if g = fN ∨ g = fL then some (spNamL K) else none : Addr → Option Sp) g = some sp → Held P w K mg base 6 g sp := by
      intro g sp h
      dsimp only at h
      by_cases z : g = fN ∨ g = fL
      · rw [if_pos z] at h
        cases h
        rcases z with rfl | rfl
        · exact ⟨_, _, GN.ok, GN.k, GN.b⟩
        · exact ⟨_, _, GL.ok, GL.k, GL.b⟩
      · rw [if_neg z] at h
        cases h
    refine ⟨_, pss_cons (ps_set (i := 3) nd rfl (Or.inl rfl) (pe_call GW.ok (hr.mono (by decide)) (by rfl) GW.m GW.k GW.b .nil pass0 (pa_cons (pv 0) (pa_cons pe_int pa_nil))))
      (pss_cons (ps_par (i := 4) (j := 5) (by rfl) nd rfl rfl (by decide) rfl rfl (pa_cons (pe_slice sl_list (pv 3) po_none (po_some pe_int)) (pa_cons (pe_call GP.ok (hr.mono (by decide)) (by rfl) GP.m GP.k GP.b .nil pass0 (pa_cons (pv 0) (pa_cons (pe_lst (pa_cons (pe_slice sl_list (pv 3) (po_some pe_int) po_none) (pa_cons (pe_slice sl_list (pv 3) (po_some pe_int) (po_some pe_int)) (pa_cons (pe_slice sl_list (pv 3) po_none (po_some pe_int)) pa_nil)))) pa_nil))) pa_nil)) (by rfl))
      (pss_cons (ps_set (i := 6) nd rfl (Or.inl rfl) (pe_lst pa_nil))
      (pss_cons (ps_for PassesOwn.never rfl (pi_range1 rfl ra (pa_cons (pv 1) pa_nil)) (pg_name (i := 7) nd rfl (Or.inl rfl))
        (pss_cons (ps_set (i := 8) nd rfl (Or.inl rfl) (pe_ifExp (pt_cmpR op_gt (pe_call GD.ok (hr.mono (by decide)) (by rfl) GD.m GD.k GD.b .nil pass0 (pa_cons (pv 0) (pa_cons pe_int pa_nil))) pe_int (nomark _)) (pe_glob (v := .ref fN) (by rfl) GN.m rfl) (pe_glob (v := .ref fL) (by rfl) GL.m rfl)))
        (pss_cons (ps_set (i := 9) nd rfl (Or.inl rfl) (pe_callA (i := 8) hS hr rfl (Or.inl rfl) (pa_cons (pv 0) (pa_cons (pv 4) (pa_cons (pv 5) (pa_cons (pv 2) pa_nil))))))
        (pss_one (ps_if (pt_cmpR (op_notInD hu) (pv 9) (pv 6) rfl) (pss_one (ps_expr (pe_bm PySem.F.plainAttrs_list PySem.F.slot_list_append PySem.F.type_list_append mt_append (pv 6) (pa_cons (pv 9) pa_nil)))) pss_nil)))))
      (pss_one (ps_ret (pv 6)))))), ?_⟩
    refine ⟨_, rfl, p, c, cells, t, l, 7, rfl, N, by omega, by decide, by decide, fun q ws t1 l1 H1 l7 wq ndw gq _ ht1 N1 o1 => ?_⟩
    obtain ⟨w0, w1, w2, w3, w4, w5, w6, rfl⟩ := seven l7
    refine setIt ?_
    try dsimp only
    have sq1 : SqL K H1 q ([w0, w1, w2, w3, w4, w5, w6].map V.str) := SqL.of gq
    refine ⟨_, rfl, _, rfl, q, _, rfl, sq1, fun r1 hr1 => ?_⟩
    have cut1 : cutV ([w0, w1, w2, w3, w4, w5, w6].map V.str) none (some (4 : Int)) = [w0, w1, w2, w3].map V.str := rfl
    rw [cut1]
    have S1 : Same H1 (upd H1 r1 (.lst ([w0, w1, w2, w3].map V.str))) := same_new hr1
    have gr1 : (upd H1 r1 (.lst ([w0, w1, w2, w3].map V.str))) r1 = some (.lst ([w0, w1, w2, w3].map V.str)) := upd_same
    show _
    generalize upd H1 r1 (.lst ([w0, w1, w2, w3].map V.str)) = H2 at S1 gr1 ⊢
    refine ⟨_, rfl, _, rfl, _, rfl, q, _, rfl, sqL_sm S1 sq1, fun a1 ha1 => ?_⟩
    have cut2 : cutV ([w0, w1, w2, w3, w4, w5, w6].map V.str) (some (4 : Int)) none = [w4, w5, w6].map V.str := rfl
    rw [cut2]
    have S2 : Same H2 (upd H2 a1 (.lst ([w4, w5, w6].map V.str))) := same_new ha1
    have ga1 : (upd H2 a1 (.lst ([w4, w5, w6].map V.str))) a1 = some (.lst ([w4, w5, w6].map V.str)) := upd_same
    show _
    generalize upd H2 a1 (.lst ([w4, w5, w6].map V.str)) = H3 at S2 ga1 ⊢
    refine ⟨_, rfl, _, rfl, _, rfl, q, _, rfl, sqL_sm (S1.trans S2) sq1, fun a2 ha2 => ?_⟩
    have cut3 : cutV ([w0, w1, w2, w3, w4, w5, w6].map V.str) (some (2 : Int)) (some (5 : Int)) = [w2, w3, w4].map V.str := rfl
    rw [cut3]
    have S3 : Same H3 (upd H3 a2 (.lst ([w2, w3, w4].map V.str))) := same_new ha2
    have ga2 : (upd H3 a2 (.lst ([w2, w3, w4].map V.str))) a2 = some (.lst ([w2, w3, w4].map V.str)) := upd_same
    show _
    generalize upd H3 a2 (.lst ([w2, w3, w4].map V.str)) = H4 at S3 ga2 ⊢
    refine ⟨_, rfl, _, rfl, q, _, rfl, sqL_sm (S1.trans (S2.trans S3)) sq1, fun a3 ha3 => ?_⟩
    have cut4 : cutV ([w0, w1, w2, w3, w4, w5, w6].map V.str) none (some (2 : Int)) = [w0, w1].map V.str := rfl
    rw [cut4]
    have S4 : Same H4 (upd H4 a3 (.lst ([w0, w1].map V.str))) := same_new ha3
    have ga3 : (upd H4 a3 (.lst ([w0, w1].map V.str))) a3 = some (.lst ([w0, w1].map V.str)) := upd_same
    show _
    generalize upd H4 a3 (.lst ([w0, w1].map V.str)) = H5 at S4 ga3 ⊢
    refine ⟨by show 3 ≤ sizeLine; omega, fun Lo hLo => ?_⟩
    have S5 : Same H5 (upd H5 Lo (.lst [V.ref a1, .ref a2, .ref a3])) := same_new hLo
    have gLo : (upd H5 Lo (.lst [V.ref a1, .ref a2, .ref a3])) Lo = some (.lst [V.ref a1, .ref a2, .ref a3]) := upd_same
    show _
    generalize upd H5 Lo (.lst [V.ref a1, .ref a2, .ref a3]) = H6 at S5 gLo ⊢
    have S16 := S1.trans (S2.trans (S3.trans (S4.trans S5)))
    refine ⟨p, c, Lo, cells, t1, l1, _, rfl, N1.same S16, by omega, gLo, by show 1 ≤ 3; decide, by show 3 ≤ 1000000; decide, fun x t2 l2 H7 hx ht2 N7 o7 => ?_⟩
    have old17 : Old p H1 H7 := Old.trans (Same.old S16) o7
    have gr7 : H7 r1 = some (.lst ([w0, w1, w2, w3].map V.str)) := o7 _ _ ((S2.trans (S3.trans (S4.trans S5))) _ _ gr1) (pen_ne_lst (N1.same S1) gr1)
    obtain ⟨o2, words, rfl, gw, lw1, lw2, wq2⟩ : ∃ (o2 : Addr) (words : List Str), x = .ref o2 ∧ H7 o2 = some (.lst (words.map V.str)) ∧ 1 ≤ words.length ∧ words.length ≤ 3 ∧ ∀ y ∈ words, WordQ y := by
      simp only [List.mem_cons, List.not_mem_nil, or_false] at hx
      rcases hx with rfl | rfl | rfl
      · exact ⟨a1, [w4, w5, w6], rfl, o7 _ _ ((S3.trans (S4.trans S5)) _ _ ga1) (pen_ne_lst (N1.same (S1.trans S2)) ga1), by show 1 ≤ 3; decide, by show 3 ≤ 3; decide, fun y hy => wq y (by simp only [List.mem_cons, List.not_mem_nil, or_false] at hy ⊢; rcases hy with rfl | rfl | rfl <;> simp)⟩
      · exact ⟨a2, [w2, w3, w4], rfl, o7 _ _ ((S4.trans S5) _ _ ga2) (pen_ne_lst (N1.same (S1.trans (S2.trans S3))) ga2), by show 1 ≤ 3; decide, by show 3 ≤ 3; decide, fun y hy => wq y (by simp only [List.mem_cons, List.not_mem_nil, or_false] at hy ⊢; rcases hy with rfl | rfl | rfl <;> simp)⟩
      · exact ⟨a3, [w0, w1], rfl, o7 _ _ (S5 _ _ ga3) (pen_ne_lst (N1.same (S1.trans (S2.trans (S3.trans S4)))) ga3), by show 1 ≤ 2; decide, by show 2 ≤ 3; decide, fun y hy => wq y (by simp only [List.mem_cons, List.not_mem_nil, or_false] at hy ⊢; rcases hy with rfl | rfl <;> simp)⟩
    have W7 : Words H7 r1 o2 [w0, w1, w2, w3] words := ⟨gr7, gw, by show 1 ≤ 4; decide, lw1, by show 4 ≤ 1000; decide, by omega, fun y hy => wq y (by simp only [List.mem_cons, List.not_mem_nil, or_false] at hy ⊢; rcases hy with rfl | rfl | rfl | rfl <;> simp), wq2⟩
    refine ⟨_, _, rfl, ?_⟩
    refine ⟨by show 0 ≤ sizeLine; omega, fun D hD => ?_⟩
    refine setIt ?_
    try dsimp only
    have S8 : Same H7 (upd H7 D (.lst [])) := same_new hD
    have gD0 : (upd H7 D (.lst [])) D = some (.lst []) := upd_same
    have N8 := N7.same S8
    have npD := pen_ne_lst N8 gD0
    have W8 := W7.same S8
    have newD : ∀ {b : Addr} {o : HO}, H7 b = some o → b ≠ D := fun {b o} e z => by rw [z, hD] at e; cases e
    generalize upd H7 D (.lst []) = H8 at S8 gD0 N8 W8 ⊢
    refine ⟨_, rfl, 3, rfl, by decide, by decide, ?_⟩
    refine for_range (n := 3) (fun i σ G => ∃ (v7 v8 v9 : Option V) (ps : List (V × Plain)), σ = [some (.ref p), some (.int 3), some (.int 4), some (.ref q), some (.ref r1), some (.ref o2), some (.ref D), v7, v8, v9] ∧ ps.length ≤ i ∧ (1 ≤ i → 1 ≤ ps.length) ∧ Pls K G ps ∧ G D = some (.lst (ps.map Prod.fst)) ∧ Words G r1 o2 [w0, w1, w2, w3] words ∧
        ∃ t4 l4 : Int, PenAt G p c cells t4 l4 ∧ t4 ≤ t2 + 201 * i ∧ (∀ b o, H7 b = some o → b ≠ p → G b = some o)) ⟨_, _, _, [], rfl, Nat.zero_le _, fun z => absurd z (by decide), (fun _ z => nomatch z), gD0, W8, t2, l2, N8, by omega, fun b o e _ => S8 _ _ e⟩ (fun i σ G hi h => ?_) (fun σ G h => ?_)
    · obtain ⟨v7, v8, v9, ps, rfl, lk, lk1, hp, gD, WG, t4, l4, N4, ht4, O4⟩ := h
      refine setIt ?_
      try dsimp only
      refine ⟨_, rfl, p, c, cells, t4, l4, 3, rfl, N4, by omega, by decide, by decide, fun r t5 l5 G5 r0 r1' ht5 N5 old5 => ?_⟩
      have W5 := WG.old N4 old5
      have gD5 : G5 D = some (.lst (ps.map Prod.fst)) := old5 _ _ gD npD
      have hp5 := hp.keep (N4.keep old5)
      refine ⟨_, _, rfl, rfl, _, rfl, ?_⟩
      refine ite2 (fun _ => ?_) fun _ => ?_
      all_goals
        refine setIt ?_
        try dsimp only
        refine ⟨_, spNamL K, rfl, by first | exact if_pos (Or.inl rfl) | exact if_pos (Or.inr rfl), _, rfl, _, rfl, _, rfl, _, rfl, ?_⟩
        refine ⟨p, c, r1, o2, cells, t5, l5, 4, _, words, rfl, by decide, by decide, N5, by omega, W5, fun v pl t6 l6 G6 ok da ht6 N6 old6 => ?_⟩
        refine setIt ?_
        try dsimp only
        have gD6 := old6 _ _ gD5 npD
        have hp6 := hp5.keep (N5.keep old6)
        have W6 := W5.old N5 old6
        have O6 : ∀ b o, H7 b = some o → b ≠ p → G6 b = some o := fun b o e nb => old6 _ _ (old5 _ _ (O4 b o e nb) nb) nb
        have okp : ∀ q ∈ ps.map Prod.snd, q.Ok := fun q hq => by
          obtain ⟨y, hy, rfl⟩ := List.mem_map.mp hq
          exact (hp y hy).2
        refine ⟨_, rfl, _, rfl, _, _, da.dp (Plain.flat ok), .lst (SqL.of gD6) hp6.dps, shaped_plain ok, shaped_plains okp, _, rfl, ?_⟩
        cases an : ((ps.map Prod.snd).map Plain.d).any fun z => PyData.eqv z pl.d with
        | true =>
          refine iteF ⟨_, _, _, ps, rfl, by omega, fun _ => ?_, hp6, gD6, W6, t6, l6, N6, by omega, O6⟩
          cases ps with
          | nil => cases an
          | cons _ _ => rw [List.length_cons]; omega
        | false =>
          refine iteT ?_
          have kU : Keep G6 (upd G6 D (.lst (ps.map Prod.fst ++ [v]))) := Keep.put gD6
          refine ⟨_, rfl, .inl ⟨rfl, _, SqL.of gD6⟩, _, rfl, D, _, _, rfl, rfl, gD6, by rw [List.length_map, szl]; omega, ?_⟩
          refine ⟨_, _, _, ps ++ [(v, pl)], rfl, by rw [List.length_append, List.length_singleton]; omega, fun _ => by rw [List.length_append, List.length_singleton]; omega, fun r hr => ?_, by rw [upd_same, List.map_append]; rfl, ?_, t6, l6, ?_, by omega, fun b o e nb => by rw [upd_ne (newD e)]; exact O6 b o e nb⟩
          · rcases List.mem_append.mp hr with hr | hr
            · exact (hp6.keep kU) r hr
            · rw [List.mem_singleton.mp hr]
              exact ⟨da.keep kU (Plain.flat ok), ok⟩
          · exact ⟨by rw [upd_ne (newD W7.h1)]; exact W6.h1, by rw [upd_ne (newD W7.h2)]; exact W6.h2, W6.l1, W6.l2, W6.u1, W6.u2, W6.q1, W6.q2⟩
          · exact ⟨by rw [upd_ne (newD N7.pen)]; exact N6.pen, by rw [upd_ne (newD N7.lst)]; exact N6.lst, N6.few, N6.t0⟩
    · obtain ⟨v7, v8, v9, ps, rfl, lk, lk1, hp, gD, WG, t4, l4, N4, ht4, O4⟩ := h
      refine ⟨_, rfl, k D ps t4 l4 G gD hp (lk1 (by decide)) lk (by omega) N4 ?_⟩
      exact Old.trans o1 (Old.trans old17 (fun b o e nb => O4 b o e nb))
end
end LW

/-! Two readings of one expression, of one operator, side by side; a method called with keywords. -/
namespace G
open PySem PySem.Spec PyProof.Rows L2
section
variable {X : Cx} {e : Expr} {t u : TE}
theorem pe_alt (a : PE X e t) (b : PE X e u) : PE X e (fun σ H Q => t σ H Q ∨ u σ H Q) :=
  ⟨fun pins s σ H Q I h => h.elim (a.run pins s σ H Q I) (b.run pins s σ H Q I)⟩
theorem op_alt {f : Value → Value → Sem Value} {r q : R2} (a : OpR X f r) (b : OpR X f q) : OpR X f (fun x y H Q => r x y H Q ∨ q x y H Q) :=
  fun pins s σ H x y v u Q I rx ry h => h.elim (a pins s σ H x y v u Q I rx ry) (b pins s σ H x y v u Q I rx ry)
end
/-- o.m(k = v, ..) -/
def tMethK (C : Addr) (m : Str) (n : Nat) (sp : Sp) (gV : List V → List V → List V) (E : XK) (ta : TE) (tk : TA) : TE := fun σ H Q => ta σ H fun x H1 => ∃ a dx fs, x = .ref a ∧ H1 a = some (.ins C dx fs) ∧ fs.lookup m = none ∧ tk σ H1 fun zs H2 => zs.length = n ∧ sp (gV [x] zs) H2 Q E
section
variable {X : Cx} {CX : CXT} {k : Nat} {f C : Addr} {fd : FuncData} {ps ks : List Str} {sp : Sp} {E : XK} {m : Str} {pos apos : Pos} {o : Expr} {kws : List Keyword} {ta : TE} {tk : TA}
variable {g : List Value → List Value → List Value} {gV : List V → List V → List V}
theorem pe_methK0 {pl : Sem Bool} (he : PE X o ta) (c : Cls X.K C) (hm : Meth X.K C m f) (F : FnOk X.prog X.w X.K X.mg X.base CX k f fd ps sp) (hr : Room k X.A) (hb : KBn X.K fd ps 1 ks g gV) (pass : Passes CX X E) (hkw : PK X kws tk)
    (all : (backToKw pos (keywordEach kws X.env)).all (·.1.isSome) = true := by rfl) (hks : (backToKw pos (keywordEach kws X.env)).filterMap (·.1) = ks := by rfl)
    (plain : ((backTo pos (starEach [] X.env)).any (·.1) || (backToKw pos (keywordEach kws X.env)).any (·.1.isNone)) = false := by rfl)
    (ht : eval (.Call (.Attribute o m apos) [] kws pos) X.env = (do let ov ← eval o X.env; standAt apos.atName; let (f, first) ← holding [ov] (getMethod ov m pl); callWith pos f first (backTo pos (starEach [] X.env)) (backToKw pos (keywordEach kws X.env))) := by rfl) :
    PE X (.Call (.Attribute o m apos) [] kws pos) (tMethK C m ks.length sp gV E ta tk) := by
  refine ⟨fun pins s σ H Q I h => PySem.W.methodCall_KW (pl := pl) (thn (he.run pins s σ H _ I h) fun u s1 ⟨x, H1, I1, rx, a, dx, fs, ex, ea, l, q⟩ => ?_) ht⟩
  subst ex
  obtain rfl : u = Value.ref a := rx
  refine getmeth_ok I1 ea c hm l (PySem.W.callWith_KW0 (first := [.ref a]) (h₀ := X.base) I.ok.mod.kin hm.kp all (thn (hkw.run pos pins s1 σ H1 _ I1 q) fun ws s2 ⟨zs, H2, I2, rz, n, q2⟩ => ⟨I2.kIn, ?_⟩) plain)
  rw [hks]
  have r1 : Vals [V.ref a] [Value.ref a] := .cons rfl .nil
  have len : ws.length = ks.length := rz.length.symm.trans n
  refine wpAny_call (codeAny_mono (F.run X.A X.stack s2 H2 ⟨[.ref a], ks.zip ws⟩ (g [.ref a] ws) (gV [.ref a] zs) Q E hr I2.env0 (hb.to s2 [.ref a] ws I2.kIn rfl len) (hb.rel r1 rz) q2) fun r s' z => ?_)
  match r, z with
  | .error e, z => exact pass pins σ H2 s2 e s' I2 z
  | .ok (.ret u), z => exact I2.after z
/-- how keywords bind where the def has no defaults -/
theorem kbn_of {K : PySem.W.Frag} {x qual : Str} {st : Stmt} (F : Fun K x qual st f fd)
    (h : ∀ (kV doc pm : Value) (an : Option Addr) (cdv ct : Value) (us ws : List Value), us.length = 1 → ws.length = ks.length → bindArgs (PySem.W.fnOf x qual (defArgs st) (defBody st) (defScope st) .none kV doc pm an cdv ct) ⟨us, ks.zip ws⟩ = pure (ps.zip (us ++ ws))) : KBn K fd ps 1 ks (fun us ws => us ++ ws) (fun us ws => us ++ ws) := by
  obtain ⟨oc, od, kV, doc, pm, an, cdv, ct, osl, rfl, lk, hcd⟩ := F.ex
  exact ⟨fun s us ws X l1 l2 => BindsTo.of_looks fun M => .of_pure (h kV doc pm an cdv ct us ws l1 l2), fun a b => a.append b⟩
end
end G

/-! What is said of a statement, and what is due. -/
namespace LW
open PySem L2 G
abbrev sFacts : Stmt := top 64
abbrev sDueF : Stmt := top 65
def factsD : Plain → List PyData
  | .nam p n ws i j => [.str p, stD i j, .bool true, .str "n", .str n, chD ws]
  | .lea p dj g h i j t => [.str p, stD i j, .bool true, .str "l", dj, stD g h, timesP t]
def spFacts (K : PySem.W.Frag) (CN CL : Addr) : Sp := fun vs H Q _ => ∃ (a : Addr) (pl : Plain), vs = [.ref a] ∧ MadeAt K H CN CL a pl ∧ pl.Ok ∧ ∀ L xs H', Same H H' → H' L = some (.lst xs) → DaAll K H' xs (factsD pl) → Q (.ref L) H'
def spDueF (K : PySem.W.Frag) : Sp := fun vs H Q _ => ∃ (v : V) (pl : Plain), vs = [v] ∧ Da K H v pl.d ∧ pl.Ok ∧ ∀ L xs H', Same H H' → H' L = some (.lst xs) → DaAll K H' xs (factsD pl) → Q (.ref L) H'
/-- what is read of statements -/
structure Fc (P : Program) (w : World) (K : PySem.W.Frag) (mg : Str → Option Value) (base : Heap) (CN CL CS : Addr) : Prop where
  nc : NamC K CN
  lc : LeaC K CL
  iN : InsK K CN
  iL : InsK K CL
  np : ∃ p g d, Pr P w K mg base CN "person" "_person" p g d
  nd : ∃ p g d, Pr P w K mg base CN "days" "_days" p g d
  nt : ∃ p g d, Pr P w K mg base CN "text" "_text" p g d
  nn : ∃ p g d, Pr P w K mg base CN "name" "_name" p g d
  nh : ∃ p g d, Pr P w K mg base CN "chain" "_chain" p g d
  lp : ∃ p g d, Pr P w K mg base CL "person" "_person" p g d
  ld : ∃ p g d, Pr P w K mg base CL "days" "_days" p g d
  lt : ∃ p g d, Pr P w K mg base CL "text" "_text" p g d
  ls : ∃ p g d, Pr P w K mg base CL "subject" "_subject" p g d
  lg : ∃ p g d, Pr P w K mg base CL "tags" "_tags" p g d
  lm : ∃ p g d, Pr P w K mg base CL "times" "_times" p g d
  kNS : PySem.W.kitOne K (.ref CN) (.ref CS) = some true
  kLS : PySem.W.kitOne K (.ref CL) (.ref CS) = some true
  kLN : PySem.W.kitOne K (.ref CL) (.ref CN) = some false
  mS : mg "Statement" = some (.ref CS)
  mN : mg "Naming" = some (.ref CN)
section
variable {P : Program} {w : World} {K : PySem.W.Frag} {mg : Str → Option Value} {base : Heap} {CN CL CS : Addr}
theorem scFacts : FnScope ["_law_one", "_law_found"] ["_law_one"] (defScope sFacts) := ⟨rfl, rfl, rfl, by decide +kernel, rfl, by decide +kernel, by decide +kernel⟩
theorem ok_facts {f : Addr} {fd : FuncData} (F : Fun K "_law_facts" "_law_facts" sFacts f fd) (is : mg "isinstance" = none) (Z : Fc P w K mg base CN CL CS) : FnOk P w K mg base CX0 3 f fd ["_law_one"] (spFacts K CN CL) := by
  obtain ⟨_, _, _, np⟩ := Z.np
  obtain ⟨_, _, _, nd'⟩ := Z.nd
  obtain ⟨_, _, _, nn⟩ := Z.nn
  obtain ⟨_, _, _, nh⟩ := Z.nh
  obtain ⟨_, _, _, lp⟩ := Z.lp
  obtain ⟨_, _, _, ld⟩ := Z.ld
  obtain ⟨_, _, _, ls⟩ := Z.ls
  obtain ⟨_, _, _, lg⟩ := Z.lg
  obtain ⟨_, _, _, lm⟩ := Z.lm
  have nc := Z.nc
  have lc := Z.lc
  refine F.ok scFacts (fun vs H Q E h => ?_) (fun cdv A outer s H vs Q E hr h => ?_)
  · obtain ⟨a, pl, rfl, _⟩ := h
    rfl
  · obtain ⟨a, pl, rfl, m, ok, k⟩ := h
    have nd := scFacts.nd
    have szl : sizeLine = 16777216 := sizeLine_eq
    refine ⟨_, pss_cons (ps_set (i := 1) nd rfl (Or.inl rfl) (pe_lst (pa_cons (pe_alt (pe_prop (pv 0) nc.cl np.of np.ok hr np.b .nil pass0 rfl) (pe_prop (pv 0) lc.cl lp.of lp.ok hr lp.b .nil pass0 rfl)) (pa_cons (pe_alt (pe_prop (pv 0) nc.cl nd'.of nd'.ok hr nd'.b .nil pass0 rfl) (pe_prop (pv 0) lc.cl ld.of ld.ok hr ld.b .nil pass0 rfl))
        (pa_cons (pe_callB call_isi (by rfl) is (by decide +kernel) (pa_cons (pv 0) (pa_cons (pe_glob (v := .ref CS) (by rfl) Z.mS rfl) pa_nil))) pa_nil)))))
      (pss_cons (ps_if (pt_val (pe_callB call_isi (by rfl) is (by decide +kernel) (pa_cons (pv 0) (pa_cons (pe_glob (v := .ref CN) (by rfl) Z.mN rfl) pa_nil))))
        (pss_one (ps_ret (pe_op op_cat (pv 1) (pe_lst (pa_cons pe_str (pa_cons (pe_prop (pv 0) nc.cl nn.of nn.ok hr nn.b .nil pass0 rfl) (pa_cons (pe_prop (pv 0) nc.cl nh.of nh.ok hr nh.b .nil pass0 rfl) pa_nil))))))) pss_nil)
      (pss_one (ps_ret (pe_op op_cat (pv 1) (pe_lst (pa_cons pe_str (pa_cons (pe_prop (pv 0) lc.cl ls.of ls.ok hr ls.b .nil pass0 rfl) (pa_cons (pe_prop (pv 0) lc.cl lg.of lg.ok hr lg.b .nil pass0 rfl) (pa_cons (pe_prop (pv 0) lc.cl lm.of lm.ok hr lm.b .nil pass0 rfl) pa_nil))))))))), ?_⟩
    cases pl with
    | nam p n ws i j =>
      obtain ⟨dx, q, c, h1, hc, hq⟩ := id m
      refine Or.inl ⟨_, rfl, a, dx, _, rfl, h1, a, dx, _, _, rfl, h1, lk1, Or.inl ⟨_, rfl, a, dx, _, rfl, h1, a, dx, _, _, rfl, h1, lk2, ?_⟩⟩
      refine ⟨_, rfl, .ref a, .ref CS, _, _, true, rfl, .own CS, m.tyN nc Z.iN, Z.kNS, by show 3 ≤ sizeLine; omega, fun L hL => ?_⟩
      have S1 : Same H (upd H L (.lst [V.str p, .ref q, .bl true])) := same_new hL
      have gL : (upd H L (.lst [V.str p, .ref q, .bl true])) L = some (.lst [V.str p, .ref q, .bl true]) := upd_same
      refine setIt ?_
      try dsimp only
      show _
      generalize upd H L (.lst [V.str p, .ref q, .bl true]) = H1 at S1 gL ⊢
      have m1 := m.keep (Keep.same S1) ok
      refine ⟨_, rfl, .ref a, .ref CN, _, _, true, rfl, .own CN, m1.tyN nc Z.iN, Z.iN.self, _, rfl, iteT ?_⟩
      refine ⟨_, rfl, _, rfl, a, dx, _, rfl, S1 _ _ h1, a, dx, _, _, rfl, S1 _ _ h1, lk4, _, rfl, a, dx, _, rfl, S1 _ _ h1, a, dx, _, _, rfl, S1 _ _ h1, lk5, by show 3 ≤ sizeLine; omega, fun L2 hL2 => ?_⟩
      have S2 : Same H1 (upd H1 L2 (.lst [V.str "n", .str n, .ref c])) := same_new hL2
      refine ⟨L, L2, _, _, rfl, rfl, S2 _ _ gL, upd_same, by show 6 ≤ sizeLine; omega, fun L3 hL3 => ?_⟩
      have S3 := S2.trans (same_new (o := .lst ([V.str p, .ref q, .bl true] ++ [V.str "n", .str n, .ref c])) hL3)
      have S := S1.trans S3
      exact k L3 _ _ S upd_same (.cons (.str _) (.cons (da_stretch (sqT_same S hq)) (.cons (.bl _) (.cons (.str _) (.cons (.str _) (.cons (.tup (sqT_same S hc) (daStrs ws)) .nil))))))
    | lea p dj g h i j t =>
      obtain ⟨dx, q, ag, vj, h1, hj, hg, hq⟩ := id m
      have kNLf := Z.kLN
      refine Or.inr ⟨_, rfl, a, dx, _, rfl, h1, a, dx, _, _, rfl, h1, ll1, Or.inr ⟨_, rfl, a, dx, _, rfl, h1, a, dx, _, _, rfl, h1, ll2, ?_⟩⟩
      refine ⟨_, rfl, .ref a, .ref CS, _, _, true, rfl, .own CS, m.tyL lc Z.iL, Z.kLS, by show 3 ≤ sizeLine; omega, fun L hL => ?_⟩
      have S1 : Same H (upd H L (.lst [V.str p, .ref q, .bl true])) := same_new hL
      have gL : (upd H L (.lst [V.str p, .ref q, .bl true])) L = some (.lst [V.str p, .ref q, .bl true]) := upd_same
      refine setIt ?_
      try dsimp only
      show _
      generalize upd H L (.lst [V.str p, .ref q, .bl true]) = H1 at S1 gL ⊢
      have m1 := m.keep (Keep.same S1) ok
      refine ⟨_, rfl, .ref a, .ref CN, _, _, false, rfl, .own CN, m1.tyL lc Z.iL, Z.kLN, _, rfl, iteF ?_⟩
      unfold tNext
      dsimp only
      refine ⟨_, rfl, _, rfl, a, dx, _, rfl, S1 _ _ h1, a, dx, _, _, rfl, S1 _ _ h1, ll4, _, rfl, a, dx, _, rfl, S1 _ _ h1, a, dx, _, _, rfl, S1 _ _ h1, ll5, _, rfl, a, dx, _, rfl, S1 _ _ h1, a, dx, _, _, rfl, S1 _ _ h1, ll6, by show 4 ≤ sizeLine; omega, fun L2 hL2 => ?_⟩
      have S2 : Same H1 (upd H1 L2 (.lst [V.str "l", vj, .ref ag, timesV t])) := same_new hL2
      refine ⟨L, L2, _, _, rfl, rfl, S2 _ _ gL, upd_same, by show 7 ≤ sizeLine; omega, fun L3 hL3 => ?_⟩
      have S3 := S2.trans (same_new (o := .lst ([V.str p, .ref q, .bl true] ++ [V.str "l", vj, .ref ag, timesV t])) hL3)
      have S := S1.trans S3
      have dt : ∀ G : Hp, Da K G (timesV t) (timesP t) := fun G => by cases t with | none => exact .non | some y => exact .int y
      exact k L3 _ _ S upd_same (.cons (.str _) (.cons (da_stretch (sqT_same S hq)) (.cons (.bl _) (.cons (.str _) (.cons (hj.same S) (.cons (da_stretch (sqT_same S hg)) (.cons (dt _) .nil)))))))
theorem scDueF : FnScope ["_law_plain", "_law_found"] ["_law_plain"] (defScope sDueF) := ⟨rfl, rfl, rfl, by decide +kernel, rfl, by decide +kernel, by decide +kernel⟩
theorem ok_dueF {f : Addr} {fd : FuncData} (F : Fun K "_law_due_facts" "_law_due_facts" sDueF f fd) : FnOk P w K mg base CX0 1 f fd ["_law_plain"] (spDueF K) := by
  refine F.ok scDueF (fun vs H Q E h => ?_) (fun cdv A outer s H vs Q E hr h => ?_)
  · obtain ⟨v, pl, rfl, _⟩ := h
    rfl
  · obtain ⟨v, pl, rfl, hd, ok, k⟩ := h
    have nd := scDueF.nd
    have szl : sizeLine = 16777216 := sizeLine_eq
    refine ⟨_, pss_cons (ps_set (i := 1) nd rfl (Or.inl rfl) (pe_lst (pa_cons (pe_ix ix_tup (pv 0) pe_int (fun _ _ => rfl)) (pa_cons (pe_ix ix_tup (pv 0) pe_int (fun _ _ => rfl)) (pa_cons pe_bl (pa_cons (pe_ix ix_tup (pv 0) pe_int (fun _ _ => rfl)) (pa_cons (pe_ix ix_tup (pv 0) pe_int (fun _ _ => rfl)) (pa_cons (pe_ix ix_tup (pv 0) pe_int (fun _ _ => rfl)) pa_nil))))))))
      (pss_one (ps_ret (pe_ifExp (pt_cmpR op_eq (pe_ix ix_tup (pv 0) pe_int (fun _ _ => rfl)) pe_str (nomark _)) (pv 1) (pe_op op_cat (pv 1) (pe_lst (pa_cons (pe_ix ix_tup (pv 0) pe_int (fun _ _ => rfl)) pa_nil)))))), ?_⟩
    cases pl with
    | nam p n ws i j =>
      obtain ⟨a, v1, v2, v3, v4, v5, rfl, hS, a1, a2, a3, a4, a5⟩ := da_five hd
      cases a1
      refine ⟨_, rfl, a, _, 1, _, rfl, rfl, hS, rfl, _, rfl, a, _, 4, _, rfl, rfl, hS, rfl, _, rfl, a, _, 0, _, rfl, rfl, hS, rfl, _, rfl, a, _, 2, _, rfl, rfl, hS, rfl, _, rfl, a, _, 3, _, rfl, rfl, hS, rfl, by show 6 ≤ sizeLine; omega, fun L hL => ?_⟩
      have S := same_new (o := .lst [v2, v5, V.bl true, .str "n", v3, v4]) hL
      refine setIt ?_
      try dsimp only
      refine ⟨_, rfl, a, _, 0, _, rfl, rfl, sqT_same S hS, rfl, rfl, _, rfl, iteT ⟨_, rfl, ?_⟩⟩
      exact k L _ _ S upd_same (.cons (a2.same S) (.cons (a5.same S) (.cons (.bl _) (.cons (.str _) (.cons (a3.same S) (.cons (a4.same S) .nil))))))
    | lea p dj g h i j t =>
      obtain ⟨a, v1, v2, v3, v4, v5, v6, rfl, hS, a1, a2, a3, a4, a5, a6⟩ := da_six hd
      cases a1
      refine ⟨_, rfl, a, _, 1, _, rfl, rfl, hS, rfl, _, rfl, a, _, 4, _, rfl, rfl, hS, rfl, _, rfl, a, _, 0, _, rfl, rfl, hS, rfl, _, rfl, a, _, 2, _, rfl, rfl, hS, rfl, _, rfl, a, _, 3, _, rfl, rfl, hS, rfl, by show 6 ≤ sizeLine; omega, fun L hL => ?_⟩
      have S := same_new (o := .lst [v2, v5, V.bl true, .str "l", v3, v4]) hL
      have gL : (upd H L (.lst [v2, v5, V.bl true, .str "l", v3, v4])) L = some (.lst [v2, v5, V.bl true, .str "l", v3, v4]) := upd_same
      refine setIt ?_
      try dsimp only
      show _
      generalize upd H L (.lst [v2, v5, V.bl true, .str "l", v3, v4]) = H1 at S gL ⊢
      refine ⟨_, rfl, a, _, 0, _, rfl, rfl, sqT_same S hS, rfl, rfl, _, rfl, iteF ?_⟩
      refine ⟨_, rfl, _, rfl, a, _, 5, _, rfl, rfl, sqT_same S hS, rfl, by show 1 ≤ sizeLine; omega, fun L2 hL2 => ?_⟩
      have S2 : Same H1 (upd H1 L2 (.lst [v6])) := same_new hL2
      refine ⟨L, L2, _, _, rfl, rfl, S2 _ _ gL, upd_same, by show 7 ≤ sizeLine; omega, fun L3 hL3 => ?_⟩
      have T := S.trans (S2.trans (same_new (o := .lst ([v2, v5, V.bl true, .str "l", v3, v4] ++ [v6])) hL3))
      exact k L3 _ _ T upd_same (.cons (a2.same T) (.cons (a5.same T) (.cons (.bl _) (.cons (.str _) (.cons (a3.same T) (.cons (a4.same T) (.cons (a6.same T) .nil)))))))
end
end LW

/-! Statements of all days and of other ones. -/
namespace LW
open PySem L2 G TL
structure PcD (Pd : Str → Prop) : Prop where
  word : ∀ {x : Str}, isWordD (.str x) = true → Pd x
  num : ∀ {n : Nat}, n < 10 ^ 31 → Pd (numS (n : Int))
  pl : Pd (Str.ofString "+")
  eq : Pd (Str.ofString "=")
  gt : Pd (Str.ofString ">")
  co : Pd (Str.ofString ":")
  sl : Pd (Str.ofString "/")
theorem pcd_rows {Pd : Str → Prop} (D : PcD Pd) : ∀ {wss : List (List Str)}, (∀ ws ∈ wss, isChainD (chD ws) 4 = true) → (∀ x ∈ rowsPc wss, Pd x) ∧ (rowsPc wss).length ≤ 6 * wss.length
  | [], _ => ⟨fun x hx => (List.not_mem_nil hx).elim, Nat.zero_le _⟩
  | ws :: wss, h => by
    obtain ⟨a, b⟩ := pcd_rows D fun v hv => h v (List.mem_cons_of_mem _ hv)
    have c := h ws List.mem_cons_self
    obtain ⟨l1, l5⟩ := chain_len c
    have e : rowsPc (ws :: wss) = (Str.ofString "/" :: ws) ++ rowsPc wss := rfl
    rw [e]
    refine ⟨fun x hx => ?_, by rw [List.length_append, List.length_cons, List.length_cons]; omega⟩
    rcases List.mem_append.mp hx with hx | hx
    · rcases List.mem_cons.mp hx with rfl | hx
      · exact D.sl
      · exact D.word (chain_words c x hx)
    · exact a x hx
theorem pcd_subj {Pd : Str → Prop} (D : PcD Pd) {d : PyData} (h : subjD d = true) : (∀ x ∈ subjPc d, Pd x) ∧ (subjPc d).length ≤ 25 := by
  rcases subj_read h with ⟨ws, ed, cw, ep⟩ | ⟨m, wss, ed, m1, ml, l4, ch, nodup, ep⟩
  · rw [ep]
    obtain ⟨l1, l5⟩ := chain_len cw
    exact ⟨fun x hx => D.word (chain_words cw x hx), by omega⟩
  · rw [ep]
    obtain ⟨a, b⟩ := pcd_rows D ch
    refine ⟨fun x hx => ?_, by rw [List.length_cons]; omega⟩
    rcases List.mem_cons.mp hx with rfl | hx
    · exact D.num (by omega)
    · exact a x hx
theorem pcd_ok {Pd : Str → Prop} (D : PcD Pd) {pl : Plain} (ok : pl.Ok) (al : pl.days = (0, 10 ^ 30)) : (∀ x ∈ pl.pcs, Pd x) ∧ pl.pcs.length ≤ 100 := by
  cases pl with
  | nam p n ws i j =>
    obtain ⟨w1, w2, w3, sp⟩ := ok
    obtain ⟨e1, e2⟩ := Prod.mk.inj al
    have ed : daysPc i j = [] := if_pos ⟨e1, e2⟩
    have d1 : ∀ x ∈ daysPc i j, Pd x := fun x hx => by rw [ed] at hx; exact (List.not_mem_nil hx).elim
    have d2 : (daysPc i j).length ≤ 3 := by rw [ed]; decide
    obtain ⟨l1, l5⟩ := chain_len w3
    show (∀ x ∈ p :: n :: Str.ofString "=" :: (ws ++ daysPc i j), Pd x) ∧ (p :: n :: Str.ofString "=" :: (ws ++ daysPc i j)).length ≤ 100
    refine ⟨fun x hx => ?_, by simp only [List.length_cons, List.length_append]; omega⟩
    simp only [List.mem_cons, List.mem_append] at hx
    rcases hx with rfl | rfl | rfl | hx | hx
    · exact D.word w1
    · exact D.word w2
    · exact D.eq
    · exact D.word (chain_words w3 x hx)
    · exact d1 x hx
  | lea p dj g h i j t =>
    obtain ⟨w1, w2, sg, sp, n9⟩ := ok
    obtain ⟨e1, e2⟩ := Prod.mk.inj al
    have ed : daysPc i j = [] := if_pos ⟨e1, e2⟩
    have d1 : ∀ x ∈ daysPc i j, Pd x := fun x hx => by rw [ed] at hx; exact (List.not_mem_nil hx).elim
    have d2 : (daysPc i j).length ≤ 3 := by rw [ed]; decide
    obtain ⟨u1, u2⟩ := pcd_subj D w2
    have g0 := sg.lo
    have g1 := sg.le
    have g2 := sg.hi
    obtain ⟨g', rfl⟩ := nat_of g0
    obtain ⟨h', rfl⟩ := nat_of (Int.le_trans g0 g1)
    have tt : (∀ x ∈ timesPc t, Pd x) ∧ (timesPc t).length ≤ 2 := by
      cases t with
      | none => exact ⟨fun x hx => (List.not_mem_nil hx).elim, by decide⟩
      | some y =>
        obtain ⟨y0, y9⟩ := n9 y rfl
        obtain ⟨y', rfl⟩ := nat_of y0
        refine ⟨fun x hx => ?_, by show 2 ≤ 2; decide⟩
        have hx : x ∈ [Str.ofString "+", numS (y' : Int)] := hx
        simp only [List.mem_cons, List.not_mem_nil, or_false] at hx
        rcases hx with rfl | rfl
        · exact D.pl
        · exact D.num (by omega)
    obtain ⟨t1, t2⟩ := tt
    show (∀ x ∈ p :: Str.ofString ">" :: (subjPc dj ++ Str.ofString ":" :: numS (g' : Int) :: numS (h' : Int) :: (daysPc i j ++ timesPc t)), Pd x) ∧ (p :: Str.ofString ">" :: (subjPc dj ++ Str.ofString ":" :: numS (g' : Int) :: numS (h' : Int) :: (daysPc i j ++ timesPc t))).length ≤ 100
    refine ⟨fun x hx => ?_, by simp only [List.length_cons, List.length_append]; omega⟩
    simp only [List.mem_cons, List.mem_append] at hx
    rcases hx with rfl | rfl | hx | rfl | rfl | rfl | hx | hx
    · exact D.word w1
    · exact D.gt
    · exact u1 x hx
    · exact D.co
    · exact D.num (by omega)
    · exact D.num (by omega)
    · exact d1 x hx
    · exact t1 x hx

theorem no_at : PcD fun x => 64 ∉ tl x := by
  refine ⟨fun {x} h m => ?_, fun {n} _ => ?_, by decide +kernel, by decide +kernel, by decide +kernel, by decide +kernel, by decide +kernel⟩
  · have h2 : (decide (1 ≤ x.length) && decide (x.length ≤ 8) && lettersB x.cps.toList) = true := h
    simp only [Bool.and_eq_true, decide_eq_true_eq] at h2
    have := (letter_mem (of_decide_eq_true (List.all_eq_true.mp h2.2 64 m))).1
    omega
  · show 64 ∉ tl (numS (n : Int))
    rw [tl_numS]
    exact numL_free (Or.inr (by decide))
theorem text_no_at {pl : Plain} (ok : pl.Ok) (al : pl.days = (0, 10 ^ 30)) : decide (64 ∈ pl.text.cps.toList) = false := by
  obtain ⟨h, _⟩ := pcd_ok no_at ok al
  rw [text_pcs ok]
  refine decide_eq_false fun m => ?_
  have m : 64 ∈ tl (Txt.join (Str.ofString " ") pl.pcs) := m
  rw [join_eq, tl_join, tl_blank] at m
  cases e : pl.pcs with
  | nil =>
    rw [e] at m
    cases m
  | cons x l =>
    rw [e] at m h
    rw [joinL_J] at m
    rcases List.mem_append.mp m with m | m
    · exact h x List.mem_cons_self m
    · unfold J at m
      obtain ⟨y, hy, hm⟩ := List.mem_flatMap.mp m
      rcases List.mem_cons.mp hm with z | z
      · omega
      · exact h y (List.mem_cons_of_mem _ hy) z
/-- the same statement on other days -/
def Plain.on : Plain → Int → Int → Plain
  | .nam p n ws _ _, i, j => .nam p n ws i j
  | .lea p dj g h _ _ t, i, j => .lea p dj g h i j t
theorem on_ok {pl : Plain} (ok : pl.Ok) {i j : Int} (sp : Span i j) : (pl.on i j).Ok := by
  cases pl with
  | nam p n ws i' j' => exact ⟨ok.1, ok.2.1, ok.2.2.1, sp⟩
  | lea p dj g h i' j' t => exact ⟨ok.1, ok.2.1, ok.2.2.1, sp, ok.2.2.2.2⟩
theorem on_days {pl : Plain} {i j : Int} : (pl.on i j).days = (i, j) := by cases pl <;> rfl
/-- one == other, one != other -/
theorem eq_read {P : Program} {w : World} {K : PySem.W.Frag} {mg : Str → Option Value} {base : Heap} {CN CL fN fL : Addr} {dN dL : FuncData} (S : StEq P w K mg base CN CL fN fL dN dL) (neg : Bool) {H : Hp} {a b : Addr} {p q : Plain} {Q : VK} (m1 : MadeAt K H CN CL a p) (m2 : MadeAt K H CN CL b q) (o1 : p.Ok) (o2 : q.Ok)
    (k : Q (.bl (if neg then !(same? p q) else same? p q)) H) : rOwn K CN (spEqN K CN) neg (.ref a) (.ref b) H Q ∨ rOwn K CL (spEqL K CL) neg (.ref a) (.ref b) H Q := by
  cases p with
  | nam p n ws i j =>
    refine .inl ?_
    obtain ⟨dx, _, _, h1, _⟩ := id m1
    cases q with
    | nam p2 n2 ws2 i2 j2 =>
      refine ⟨a, dx, _, _, rfl, h1, m2.tyN S.nc S.iN, notFirst_self, a, .ref b, p, n, ws, i, j, rfl, m1.nam o1, .inl ⟨b, p2, n2, ws2, i2, j2, rfl, m2.nam o2, _, rfl, ?_⟩⟩
      have e : decide (p = p2 ∧ n = n2 ∧ ws = ws2 ∧ i = i2 ∧ j = j2) = same? (Plain.nam p n ws i j) (Plain.nam p2 n2 ws2 i2 j2) := by
        refine Bool.eq_iff_iff.mpr ?_
        simp only [decide_eq_true_iff, same_iff]
        exact ⟨fun ⟨e1, e2, e3, e4, e5⟩ => by rw [e1, e2, e3, e4, e5], fun z => by cases z; exact ⟨rfl, rfl, rfl, rfl, rfl⟩⟩
      rw [e]
      exact k
    | lea p2 dj g h i2 j2 t =>
      refine ⟨a, dx, _, _, rfl, h1, m2.tyL S.lc S.iL, S.nNL, a, .ref b, p, n, ws, i, j, rfl, m1.nam o1, .inr ⟨_, m2.tyL S.lc S.iL, S.kLN, _, rfl, ?_⟩⟩
      rw [same_no (by intro z; cases z)] at k
      exact k
  | lea p dj g h i j t =>
    refine .inr ?_
    obtain ⟨dx, _, _, _, h1, _⟩ := id m1
    cases q with
    | nam p2 n2 ws2 i2 j2 =>
      refine ⟨a, dx, _, _, rfl, h1, m2.tyN S.nc S.iN, S.nLN, a, .ref b, p, dj, g, h, i, j, t, rfl, m1, o1.2.1, .inr ⟨_, m2.tyN S.nc S.iN, S.kNL, _, rfl, ?_⟩⟩
      rw [same_no (by intro z; cases z)] at k
      exact k
    | lea p2 dj2 g2 h2 i2 j2 t2 =>
      refine ⟨a, dx, _, _, rfl, h1, m2.tyL S.lc S.iL, notFirst_self, a, .ref b, p, dj, g, h, i, j, t, rfl, m1, o1.2.1, .inl ⟨b, p2, dj2, g2, h2, i2, j2, t2, rfl, m2, o2.2.1, _, rfl, ?_⟩⟩
      have e : eqvL p p2 dj dj2 g h g2 h2 i j i2 j2 t t2 = same? (Plain.lea p dj g h i j t) (Plain.lea p2 dj2 g2 h2 i2 j2 t2) := by
        refine Bool.eq_iff_iff.mpr ?_
        unfold eqvL
        simp only [Bool.and_eq_true, decide_eq_true_iff, same_iff, eqv_subj o1.2.1 o2.2.1]
        exact ⟨fun ⟨e1, e2, ⟨e3, e4⟩, ⟨e5, e6⟩, e7⟩ => by rw [e1, e2, e3, e4, e5, e6, e7], fun z => by cases z; exact ⟨rfl, rfl, ⟨rfl, rfl⟩, ⟨rfl, rfl⟩, rfl⟩⟩
      rw [e]
      exact k
end LW

/-! Statements of all days and of other ones: the law. -/
namespace LW
open PySem L2 G TL
abbrev sDR : Stmt := top 66
abbrev nmDR : List Str := ["_law_plain", "_law_some", "_law_days_here", "_law_told", "_law_one"]
theorem scDR : FnScope nmDR ["_law_plain"] (defScope sDR) := ⟨rfl, rfl, rfl, by decide +kernel, rfl, by decide +kernel, by decide +kernel⟩
theorem yesIt {σ : L2.St} {H : Hp} {F G : Hp → Prop} (h : F H) : tYes σ H fun b H3 => if b = true then F H3 else G H3 := by
  show (if true = true then F H else G H)
  rw [if_pos rfl]
  exact h
abbrev XDR (w : World) (K : PySem.W.Frag) (mg : Str → Option Value) (base : Heap) (f : Addr) (cdv : Value) (A : Around) (outer : List Env) (s : Shared) (H : Hp) (E : XK) : Cx :=
  (cxOf CX0 PySem.Challenge.pw_namechains_k79_statements_written_and_re w K mg base nmDR "_law_days_right" (defScope sDR) f cdv A outer s H E).nox
abbrev db (i : Nat) : Stmt := nth (defBody sDR) i
/-- statements in the heap, as the plain ones are -/
def Mades (K : PySem.W.Frag) (H : Hp) (CN CL : Addr) : List Addr → List Plain → Prop
  | [], [] => True
  | a :: as, p :: ps => MadeAt K H CN CL a p ∧ Mades K H CN CL as ps
  | _, _ => False
def lastOf (pl : Plain) : Int × Int := match pl with
  | .nam _ _ _ _ _ => (0, 10 ^ 30 - 1)
  | .lea _ _ _ _ _ _ _ => (1, 10 ^ 30)
/-- what is handed over as days, three times -/
theorem three_days {K : PySem.W.Frag} {H : Hp} {x2 x3 : Addr} {i j : Int} (h2 : SqT K H x2 [.int 0, .int (10 ^ 30)]) (h3 : SqT K H x3 [.int i, .int j]) : ∀ (n : Nat) (v : V), [V.non, .ref x2, .ref x3][n]? = some v → ∃ i' j', DaysV K H v i' j' ∧ [((0 : Int), (10 ^ 30 : Int)), (0, 10 ^ 30), (i, j)][n]? = some (i', j') := by
  intro n v h
  match n, h with
  | 0, h => exact ⟨0, 10 ^ 30, by cases h; exact .inl ⟨rfl, rfl, rfl⟩, rfl⟩
  | 1, h => exact ⟨0, 10 ^ 30, by cases h; exact .inr (da_stretch h2), rfl⟩
  | 2, h => exact ⟨i, j, by cases h; exact .inr (da_stretch h3), rfl⟩
section
variable {w : World} {K : PySem.W.Frag} {mg : Str → Option Value} {base : Heap} {CN CL CS CW CC CST CJ CT fN fL : Addr} {dN dL : FuncData}
theorem dr_some {f : Addr} {cdv : Value} {A : Around} {outer : List Env} {s : Shared} {HS : Hp} {E : XK} (hr : Room 8 (XDR w K mg base f cdv A outer s HS E).A)
    (MN : Mk K CN fN) (GN : FnOk PySem.Challenge.pw_namechains_k79_statements_written_and_re w K mg base (L2.CX PySem.Challenge.pw_namechains_k79_statements_written_and_re w) 5 fN dN psN (spNam K CN CW CC CST)) (mN : mg "Naming" = some (.ref CN)) (bN : Binds K dN psN [])
    (ML : Mk K CL fL) (GL : FnOk PySem.Challenge.pw_namechains_k79_statements_written_and_re w K mg base (L2.CX PySem.Challenge.pw_namechains_k79_statements_written_and_re w) 6 fL dL psL (spLea K CL CW CJ CST CT)) (mL : mg "Leave" = some (.ref CL)) (bL : Binds K dL psL []) :
    ∃ t, PS (XDR w K mg base f cdv A outer s HS E) (db 0) t ∧ ∀ (D : Ends) (H : Hp) (v : V) (pl : Plain), Da K H v pl.d → pl.Ok →
      (∀ L a b c H', Same H H' → H' L = some (.lst [V.ref a, .ref b, .ref c]) → MadeAt K H' CN CL a (pl.on 0 (10 ^ 30)) → MadeAt K H' CN CL b (pl.on 0 (10 ^ 30)) → MadeAt K H' CN CL c (pl.on (lastOf pl).1 (lastOf pl).2) → D.nx [some v, some (.ref L), none, none, none] H') → t D [some v, none, none, none, none] H := by
  have nd := scDR.nd
  have szl : sizeLine = 16777216 := sizeLine_eq
  have pw : (0 : Int) ≤ 30 ∧ (30 : Int) ≤ 1000000 ∧ (10 : Int).natAbs < 2 ^ 64 := ⟨by decide, by decide, by decide⟩
  refine ⟨_, ps_if (pt_cmpR op_eq (pe_ix ix_tup (pv 0) pe_int (fun _ _ => rfl)) pe_str (nomark _))
    (pss_one (ps_setLc (i := 1) (own := [("_law_days_here", 2)]) (g := gName 2) (tt := tYes) (te := tMake CN (spNam K CN CW CC CST) [] E0 (tCons (tOp (rIxT K) (tVar 0) (tC (.int 1))) (tCons (tOp (rIxT K) (tVar 0) (tC (.int 2))) (tCons (tOp (rIxT K) (tVar 0) (tC (.int 3))) (tCons (tVar 2) tNil))))) rfl nd rfl rfl rfl (pi_tup (pe_tup (pa_cons pe_non (pa_cons (pe_tup (pa_cons pe_int (pa_cons (pe_op op_pow pe_int pe_int) pa_nil))) (pa_cons (pe_tup (pa_cons pe_int (pa_cons (pe_op op_sub (pe_op op_pow pe_int pe_int) pe_int) pa_nil))) pa_nil)))))
      (blkOk_by (own := [("_law_days_here", 2)]) (N := nmDR) (sc := defScope sDR) (by decide +kernel)) (fun _ _ _ _ _ => pg_name (i := 2) nd rfl (Or.inl rfl)) (fun _ _ _ _ _ => pts_nil)
      (fun _ _ _ _ _ => pe_make MN GN (hr.mono (by decide)) (by rfl) mN bN .nil (passes_call LamX.takes0 fun _ _ _ _ h => h) (pa_cons (pe_ix ix_tup (pv 0) pe_int (fun _ _ => rfl)) (pa_cons (pe_ix ix_tup (pv 0) pe_int (fun _ _ => rfl)) (pa_cons (pe_ix ix_tup (pv 0) pe_int (fun _ _ => rfl)) (pa_cons (pv 2) pa_nil)))))))
    (pss_one (ps_setLc (i := 1) (own := [("_law_days_here", 2)]) (g := gName 2) (tt := tYes) (te := tMake CL (spLea K CL CW CJ CST CT) [] E0 (tCons (tOp (rIxT K) (tVar 0) (tC (.int 1))) (tCons (tOp (rIxT K) (tVar 0) (tC (.int 2))) (tCons (tOp (rIxT K) (tVar 0) (tC (.int 3))) (tCons (tVar 2) (tCons (tOp (rIxT K) (tVar 0) (tC (.int 5))) tNil)))))) rfl nd rfl rfl rfl (pi_tup (pe_tup (pa_cons pe_non (pa_cons (pe_tup (pa_cons pe_int (pa_cons (pe_op op_pow pe_int pe_int) pa_nil))) (pa_cons (pe_tup (pa_cons pe_int (pa_cons (pe_op op_pow pe_int pe_int) pa_nil))) pa_nil)))))
      (blkOk_by (own := [("_law_days_here", 2)]) (N := nmDR) (sc := defScope sDR) (by decide +kernel)) (fun _ _ _ _ _ => pg_name (i := 2) nd rfl (Or.inl rfl)) (fun _ _ _ _ _ => pts_nil)
      (fun _ _ _ _ _ => pe_make ML GL (hr.mono (by decide)) (by rfl) mL bL .nil (passes_call LamX.takes0 fun _ _ _ _ h => h) (pa_cons (pe_ix ix_tup (pv 0) pe_int (fun _ _ => rfl)) (pa_cons (pe_ix ix_tup (pv 0) pe_int (fun _ _ => rfl)) (pa_cons (pe_ix ix_tup (pv 0) pe_int (fun _ _ => rfl)) (pa_cons (pv 2) (pa_cons (pe_ix ix_tup (pv 0) pe_int (fun _ _ => rfl)) pa_nil)))))))), ?_⟩
  intro D H v pl hd ok k
  cases pl with
  | nam p n ws i j =>
    obtain ⟨a, v1, v2, v3, v4, v5, rfl, hS, a1, a2, a3, a4, a5⟩ := da_five hd
    cases a1
    cases a2
    cases a3
    obtain ⟨c, rfl, hc⟩ := da_chain a4
    refine ⟨_, rfl, a, _, 0, _, rfl, rfl, hS, rfl, rfl, _, rfl, iteT ?_⟩
    refine ⟨_, _, rfl, rfl, pw, by show 2 ≤ sizeLine; omega, fun r1 hr1 => ?_⟩
    have S1 : Same H (upd H r1 (.tup [V.int 0, .int (10 ^ 30)])) := same_new hr1
    have g1 : SqT K (upd H r1 (.tup [V.int 0, .int (10 ^ 30)])) r1 [V.int 0, .int (10 ^ 30)] := SqT.of upd_same
    have e30 : (10 : Int) ^ (30 : Int).toNat = 10 ^ 30 := rfl
    dsimp only
    rw [e30]
    show _
    generalize upd H r1 (.tup [V.int 0, .int (10 ^ 30)]) = H1 at S1 g1 ⊢
    refine ⟨_, _, rfl, rfl, pw, _, _, rfl, rfl, by show 2 ≤ sizeLine; omega, fun r2 hr2 => ?_⟩
    have S2 : Same H1 (upd H1 r2 (.tup [V.int 0, .int (10 ^ 30 - 1)])) := same_new hr2
    have g2 : SqT K (upd H1 r2 (.tup [V.int 0, .int (10 ^ 30 - 1)])) r2 [V.int 0, .int (10 ^ 30 - 1)] := SqT.of upd_same
    dsimp only
    rw [e30]
    show _
    generalize upd H1 r2 (.tup [V.int 0, .int (10 ^ 30 - 1)]) = H2 at S2 g2 ⊢
    refine ⟨by show 3 ≤ sizeLine; omega, fun r3 hr3 => ?_⟩
    have S3 : Same H2 (upd H2 r3 (.tup [V.non, .ref r1, .ref r2])) := same_new hr3
    have g3 : SqT K (upd H2 r3 (.tup [V.non, .ref r1, .ref r2])) r3 [V.non, .ref r1, .ref r2] := SqT.of upd_same
    show _
    generalize upd H2 r3 (.tup [V.non, .ref r1, .ref r2]) = H3 at S3 g3 ⊢
    have S13 := S1.trans (S2.trans S3)
    have g13 := sqT_same (S2.trans S3) g1
    have g23 := sqT_same S3 g2
    refine ⟨r3, rfl, ⟨_, g3⟩, fun D0 hD0 => ?_⟩
    refine loop_it (walk_tup (K := K) (xs := [V.non, .ref r1, .ref r2])) (fun m G => ∃ as : List Addr, as.length = m ∧ G D0 = some (.lst (as.map V.ref)) ∧ Same H3 G ∧ ∀ (k : Nat) (b : Addr), as[k]? = some b → ∃ i' j', [((0 : Int), (10 ^ 30 : Int)), (0, 10 ^ 30), (0, 10 ^ 30 - 1)][k]? = some (i', j') ∧ MadeAt K G CN CL b ((Plain.nam p n ws i j).on i' j')) ⟨[], rfl, by rw [upd_same]; rfl, same_new hD0, fun k b h => by cases h⟩ (fun m G _ pv => by obtain ⟨_, _, _, S, _⟩ := pv; exact sqT_same S g3) (fun m x G G' hi pv yy => ?_) (fun G pv => ?_)
    · obtain ⟨rfl, hx⟩ := yy
      obtain ⟨as, la, gD, SG, hm⟩ := pv
      obtain ⟨i', j', dv, de⟩ := three_days (K := K) (H := G') (sqT_same SG g13) (sqT_same SG g23) m x hx
      have sp' : Span i' j' := by
        match m, hi, de with
        | 0, _, de => cases de; exact ⟨by omega, by omega, by omega⟩
        | 1, _, de => cases de; exact ⟨by omega, by omega, by omega⟩
        | 2, _, de => cases de; exact ⟨by omega, by omega, by omega⟩
      have hSG := sqT_same (S13.trans SG) hS
      refine ⟨rfl, yesIt ?_⟩
      refine ⟨_, rfl, a, _, 1, _, rfl, rfl, hSG, rfl, _, rfl, a, _, 2, _, rfl, rfl, hSG, rfl, _, rfl, a, _, 3, _, rfl, rfl, hSG, rfl, _, rfl, ?_⟩
      refine made_nam (CL := CL) (i := i') (j := j') (on_ok ok sp') (sqT_same (S13.trans SG) hc) dv fun b G2 S4 mb => ?_
      have gD2 := S4 _ _ gD
      have kp : Keep G2 (upd G2 D0 (.lst (as.map V.ref ++ [V.ref b]))) := Keep.put gD2
      have hi3 : m < 3 := hi
      refine ⟨_, gD2, by rw [List.length_map, szl]; omega, as ++ [b], by rw [List.length_append, la]; rfl, by rw [upd_same, List.map_append]; rfl, fun c o e => by rw [upd_ne (ne_of_none e hD0)]; exact S4 _ _ (SG _ _ e), fun k c hk => ?_⟩
      rcases Nat.lt_or_ge k as.length with lt | ge
      · rw [List.getElem?_append_left lt] at hk
        obtain ⟨i2, j2, e2, m2⟩ := hm k c hk
        have sp2 : Span i2 j2 := by
          match k, e2 with
          | 0, de => cases de; exact ⟨by omega, by omega, by omega⟩
          | 1, de => cases de; exact ⟨by omega, by omega, by omega⟩
          | 2, de => cases de; exact ⟨by omega, by omega, by omega⟩
        exact ⟨i2, j2, e2, (m2.keep (Keep.same S4) (on_ok ok sp2)).keep kp (on_ok ok sp2)⟩
      · rw [List.getElem?_append_right ge] at hk
        have kz : k - as.length = 0 := by
          have := (List.getElem?_eq_some_iff.mp hk).1
          simp at this
          omega
        rw [kz] at hk
        cases hk
        have km : k = m := by omega
        subst km
        exact ⟨i', j', de, mb.keep kp (on_ok ok sp')⟩
    · obtain ⟨as, la, gD, SG, hm⟩ := pv
      have la : as.length = 3 := la
      match as, la with
      | [b0, b1, b2], _ =>
        obtain ⟨i0, j0, e0, m0⟩ := hm 0 b0 rfl
        obtain ⟨i1, j1, e1, m1⟩ := hm 1 b1 rfl
        obtain ⟨i2, j2, e2, m2⟩ := hm 2 b2 rfl
        cases e0
        cases e1
        cases e2
        exact k D0 b0 b1 b2 G (S13.trans SG) gD m0 m1 m2
  | lea p dj g h i j t =>
    obtain ⟨a, v1, v2, v3, v4, v5, v6, rfl, hS, a1, a2, a3, a4, a5, a6⟩ := da_six hd
    cases a1
    cases a2
    obtain ⟨en, _⟩ := times_inv (times_ok ok.2.2.2.2) a6
    have to : timesO (timesP t) = t := by cases t <;> rfl
    rw [to] at en
    subst en
    refine ⟨_, rfl, a, _, 0, _, rfl, rfl, hS, rfl, rfl, _, rfl, iteF ?_⟩
    refine ⟨_, _, rfl, rfl, pw, by show 2 ≤ sizeLine; omega, fun r1 hr1 => ?_⟩
    have S1 : Same H (upd H r1 (.tup [V.int 0, .int (10 ^ 30)])) := same_new hr1
    have g1 : SqT K (upd H r1 (.tup [V.int 0, .int (10 ^ 30)])) r1 [V.int 0, .int (10 ^ 30)] := SqT.of upd_same
    have e30 : (10 : Int) ^ (30 : Int).toNat = 10 ^ 30 := rfl
    dsimp only
    rw [e30]
    show _
    generalize upd H r1 (.tup [V.int 0, .int (10 ^ 30)]) = H1 at S1 g1 ⊢
    refine ⟨_, _, rfl, rfl, pw, by show 2 ≤ sizeLine; omega, fun r2 hr2 => ?_⟩
    have S2 : Same H1 (upd H1 r2 (.tup [V.int 1, .int (10 ^ 30)])) := same_new hr2
    have g2 : SqT K (upd H1 r2 (.tup [V.int 1, .int (10 ^ 30)])) r2 [V.int 1, .int (10 ^ 30)] := SqT.of upd_same
    dsimp only
    rw [e30]
    show _
    generalize upd H1 r2 (.tup [V.int 1, .int (10 ^ 30)]) = H2 at S2 g2 ⊢
    refine ⟨by show 3 ≤ sizeLine; omega, fun r3 hr3 => ?_⟩
    have S3 : Same H2 (upd H2 r3 (.tup [V.non, .ref r1, .ref r2])) := same_new hr3
    have g3 : SqT K (upd H2 r3 (.tup [V.non, .ref r1, .ref r2])) r3 [V.non, .ref r1, .ref r2] := SqT.of upd_same
    show _
    generalize upd H2 r3 (.tup [V.non, .ref r1, .ref r2]) = H3 at S3 g3 ⊢
    have S13 := S1.trans (S2.trans S3)
    have g13 := sqT_same (S2.trans S3) g1
    have g23 := sqT_same S3 g2
    refine ⟨r3, rfl, ⟨_, g3⟩, fun D0 hD0 => ?_⟩
    refine loop_it (walk_tup (K := K) (xs := [V.non, .ref r1, .ref r2])) (fun m G => ∃ as : List Addr, as.length = m ∧ G D0 = some (.lst (as.map V.ref)) ∧ Same H3 G ∧ ∀ (k : Nat) (b : Addr), as[k]? = some b → ∃ i' j', [((0 : Int), (10 ^ 30 : Int)), (0, 10 ^ 30), (1, 10 ^ 30)][k]? = some (i', j') ∧ MadeAt K G CN CL b ((Plain.lea p dj g h i j t).on i' j')) ⟨[], rfl, by rw [upd_same]; rfl, same_new hD0, fun k b h => by cases h⟩ (fun m G _ pv => by obtain ⟨_, _, _, S, _⟩ := pv; exact sqT_same S g3) (fun m x G G' hi pv yy => ?_) (fun G pv => ?_)
    · obtain ⟨rfl, hx⟩ := yy
      obtain ⟨as, la, gD, SG, hm⟩ := pv
      obtain ⟨i', j', dv, de⟩ := three_days (K := K) (H := G') (sqT_same SG g13) (sqT_same SG g23) m x hx
      have sp' : Span i' j' := by
        match m, hi, de with
        | 0, _, de => cases de; exact ⟨by omega, by omega, by omega⟩
        | 1, _, de => cases de; exact ⟨by omega, by omega, by omega⟩
        | 2, _, de => cases de; exact ⟨by omega, by omega, by omega⟩
      have hSG := sqT_same (S13.trans SG) hS
      refine ⟨rfl, yesIt ?_⟩
      refine ⟨_, rfl, a, _, 1, _, rfl, rfl, hSG, rfl, _, rfl, a, _, 2, _, rfl, rfl, hSG, rfl, _, rfl, a, _, 3, _, rfl, rfl, hSG, rfl, _, rfl, _, rfl, a, _, 5, _, rfl, rfl, hSG, rfl, ?_⟩
      refine made_lea (CN := CN) (i := i') (j := j') (on_ok ok sp') (a3.same (S13.trans SG)) (a4.same (S13.trans SG)) dv fun b G2 S4 mb => ?_
      have gD2 := S4 _ _ gD
      have kp : Keep G2 (upd G2 D0 (.lst (as.map V.ref ++ [V.ref b]))) := Keep.put gD2
      have hi3 : m < 3 := hi
      refine ⟨_, gD2, by rw [List.length_map, szl]; omega, as ++ [b], by rw [List.length_append, la]; rfl, by rw [upd_same, List.map_append]; rfl, fun c o e => by rw [upd_ne (ne_of_none e hD0)]; exact S4 _ _ (SG _ _ e), fun k c hk => ?_⟩
      rcases Nat.lt_or_ge k as.length with lt | ge
      · rw [List.getElem?_append_left lt] at hk
        obtain ⟨i2, j2, e2, m2⟩ := hm k c hk
        have sp2 : Span i2 j2 := by
          match k, e2 with
          | 0, de => cases de; exact ⟨by omega, by omega, by omega⟩
          | 1, de => cases de; exact ⟨by omega, by omega, by omega⟩
          | 2, de => cases de; exact ⟨by omega, by omega, by omega⟩
        exact ⟨i2, j2, e2, (m2.keep (Keep.same S4) (on_ok ok sp2)).keep kp (on_ok ok sp2)⟩
      · rw [List.getElem?_append_right ge] at hk
        have kz : k - as.length = 0 := by
          have := (List.getElem?_eq_some_iff.mp hk).1
          simp at this
          omega
        rw [kz] at hk
        cases hk
        have km : k = m := by omega
        subst km
        exact ⟨i', j', de, mb.keep kp (on_ok ok sp')⟩
    · obtain ⟨as, la, gD, SG, hm⟩ := pv
      have la : as.length = 3 := la
      match as, la with
      | [b0, b1, b2], _ =>
        obtain ⟨i0, j0, e0, m0⟩ := hm 0 b0 rfl
        obtain ⟨i1, j1, e1, m1⟩ := hm 1 b1 rfl
        obtain ⟨i2, j2, e2, m2⟩ := hm 2 b2 rfl
        cases e0
        cases e1
        cases e2
        exact k D0 b0 b1 b2 G (S13.trans SG) gD m0 m1 m2

def spDR (K : PySem.W.Frag) : Sp := fun vs H Q _ => ∃ (v : V) (pl : Plain), vs = [v] ∧ Da K H v pl.d ∧ pl.Ok ∧ ∀ H', Same H H' → Q (.bl true) H'
theorem at_sign : V.str (Str.ofString "@") = V.str ⟨#[64]⟩ := congrArg V.str (by decide +kernel)
theorem ok_dright {f : Addr} {fd : FuncData} {gN gL : Addr} {eN eL : FuncData} (F : Fun K "_law_days_right" "_law_days_right" sDR f fd) (Z : Fc PySem.Challenge.pw_namechains_k79_statements_written_and_re w K mg base CN CL CS) (S : StEq PySem.Challenge.pw_namechains_k79_statements_written_and_re w K mg base CN CL gN gL eN eL)
    (MN : Mk K CN fN) (GN : FnOk PySem.Challenge.pw_namechains_k79_statements_written_and_re w K mg base (L2.CX PySem.Challenge.pw_namechains_k79_statements_written_and_re w) 5 fN dN psN (spNam K CN CW CC CST)) (mN : mg "Naming" = some (.ref CN)) (bN : Binds K dN psN [])
    (ML : Mk K CL fL) (GL : FnOk PySem.Challenge.pw_namechains_k79_statements_written_and_re w K mg base (L2.CX PySem.Challenge.pw_namechains_k79_statements_written_and_re w) 6 fL dL psL (spLea K CL CW CJ CST CT)) (mL : mg "Leave" = some (.ref CL)) (bL : Binds K dL psL []) :
    FnOk PySem.Challenge.pw_namechains_k79_statements_written_and_re w K mg base CX0 9 f fd ["_law_plain"] (spDR K) := by
  obtain ⟨_, _, _, nt⟩ := Z.nt
  obtain ⟨_, _, _, lt⟩ := Z.lt
  have nc := Z.nc
  have lc := Z.lc
  refine F.ok scDR (fun vs H Q E h => ?_) (fun cdv A outer s H vs Q E hr h => ?_)
  · obtain ⟨v, pl, rfl, _⟩ := h
    rfl
  · obtain ⟨v, pl, rfl, hd, ok, k⟩ := h
    have nd := scDR.nd
    have szl : sizeLine = 16777216 := sizeLine_eq
    obtain ⟨t0, p0, k0⟩ := dr_some (CW := CW) (CC := CC) (CST := CST) (CJ := CJ) (CT := CT) (f := f) (cdv := cdv) (A := A) (outer := outer) (s := s) (HS := H) (E := E) hr MN GN mN bN ML GL mL bL
    refine ⟨_, PSs.nox (pss_cons p0 (pss_cons (ps_setLc (i := 3) (own := [("_law_one", 4)]) (g := gName 4) (tt := tYes) (te := fun σ H Q => tProp CN (spGet CN "_text") [] E0 (tVar 4) σ H Q ∨ tProp CL (spGet CL "_text") [] E0 (tVar 4) σ H Q) rfl nd rfl rfl rfl (pi_list (pv 1))
        (blkOk_by (own := [("_law_one", 4)]) (N := nmDR) (sc := defScope sDR) (by decide +kernel)) (fun _ _ _ _ _ => pg_name (i := 4) nd rfl (Or.inl rfl)) (fun _ _ _ _ _ => pts_nil)
        (fun _ _ _ _ _ => pe_alt (pe_prop (pv 4) nc.cl nt.of nt.ok (hr.mono (by decide)) nt.b .nil pass0 rfl) (pe_prop (pv 4) lc.cl lt.of lt.ok (hr.mono (by decide)) lt.b .nil pass0 rfl)))
      (pss_one (ps_ret (pe_and (pe_chain op_eq op_ne (pe_ix ix_list (pv 3) pe_int (fun _ _ => rfl)) (pe_ix ix_list (pv 3) pe_int (fun _ _ => rfl)) (pe_ix ix_list (pv 3) pe_int (fun _ _ => rfl)))
        (pe_and (pe_cmpR (op_alt (op_eqO S.oN S.eN S.bN (hr.mono (by decide))) (op_eqO S.oL S.eL S.bL (hr.mono (by decide)))) (pe_ix ix_list (pv 1) pe_int (fun _ _ => rfl)) (pe_ix ix_list (pv 1) pe_int (fun _ _ => rfl)) (nomark _))
        (pe_and (pe_cmpR op_notIn_sign pe_str (pe_ix ix_list (pv 3) pe_int (fun _ _ => rfl)) (by rfl))
          (pe_one (pe_cmpR (op_alt (op_neO S.oN S.eN S.bN (hr.mono (by decide))) (op_neO S.oL S.eL S.bL (hr.mono (by decide)))) (pe_ix ix_list (pv 1) pe_int (fun _ _ => rfl)) (pe_ix ix_list (pv 1) pe_int (fun _ _ => rfl)) (nomark _)))))))))), ?_⟩
    refine k0 _ H v pl hd ok fun L a b c H1 S1 gL ma mb mc => ?_
    have sp0 : Span 0 (10 ^ 30) := ⟨by omega, by omega, by omega⟩
    have sp1 : Span (lastOf pl).1 (lastOf pl).2 := by
      cases pl with
      | nam _ _ _ _ _ => exact ⟨by show (0 : Int) ≤ 0; omega, by show (0 : Int) ≤ 10 ^ 30 - 1; omega, by show (10 : Int) ^ 30 - 1 ≤ 10 ^ 30; omega⟩
      | lea _ _ _ _ _ _ _ => exact ⟨by show (0 : Int) ≤ 1; omega, by show (1 : Int) ≤ 10 ^ 30; omega, by show (10 : Int) ^ 30 ≤ 10 ^ 30; omega⟩
    have ok0 := on_ok ok sp0
    have ok1 := on_ok ok sp1
    have ne : pl.on 0 (10 ^ 30) ≠ pl.on (lastOf pl).1 (lastOf pl).2 := fun z => by
      have z2 := congrArg Plain.days z
      rw [on_days, on_days] at z2
      cases pl with
      | nam _ _ _ _ _ =>
        have := (Prod.mk.inj z2).2
        have : (10 : Int) ^ 30 = 10 ^ 30 - 1 := this
        omega
      | lea _ _ _ _ _ _ _ =>
        have := (Prod.mk.inj z2).1
        have : (0 : Int) = 1 := this
        omega
    have tne : (pl.on 0 (10 ^ 30)).text ≠ (pl.on (lastOf pl).1 (lastOf pl).2).text := fun z => ne (text_inj ok0 ok1 z)
    -- the texts
    have txt : ∀ (G : Hp) (e : Addr) (q : Plain) (σ : L2.St) (R : VK), MadeAt K G CN CL e q → σ[4]? = some (some (.ref e)) → R (.str q.text) G → tProp CN (spGet CN "_text") [] E0 (tVar 4) σ G R ∨ tProp CL (spGet CL "_text") [] E0 (tVar 4) σ G R := by
      intro G e q σ R m h4 hR
      cases q with
      | nam p n ws i j =>
        obtain ⟨dx, q', c', h1, _⟩ := m
        exact .inl ⟨_, h4, e, dx, _, rfl, h1, e, dx, _, _, rfl, h1, lk3, hR⟩
      | lea p dj g h i j t =>
        obtain ⟨dx, q', ag, vj, h1, _⟩ := m
        exact .inr ⟨_, h4, e, dx, _, rfl, h1, e, dx, _, _, rfl, h1, ll3, hR⟩
    refine ⟨_, rfl, L, rfl, ⟨_, SqL.of gL⟩, fun W hW => ?_⟩
    refine loop_it (walk_list (K := K) (xs := [V.ref a, .ref b, .ref c])) (fun m G => Same H1 G ∧ G W = some (.lst (([(pl.on 0 (10 ^ 30)).text, (pl.on 0 (10 ^ 30)).text, (pl.on (lastOf pl).1 (lastOf pl).2).text].take m).map V.str))) ⟨same_new hW, by rw [upd_same]; rfl⟩ (fun m G _ pv => SqL.of (pv.1 _ _ gL)) (fun m x G G' hi pv yy => ?_) (fun G pv => ?_)
    · obtain ⟨rfl, hx⟩ := yy
      obtain ⟨SG, gW⟩ := pv
      have up : ∀ {e : Addr} {q : Plain}, MadeAt K H1 CN CL e q → q.Ok → MadeAt K G' CN CL e q := fun m o => m.keep (Keep.same SG) o
      have put : ∀ (z : Str), [(pl.on 0 (10 ^ 30)).text, (pl.on 0 (10 ^ 30)).text, (pl.on (lastOf pl).1 (lastOf pl).2).text][m]? = some z → ∃ acc, G' W = some (.lst acc) ∧ acc.length < sizeLine ∧ Same H1 (upd G' W (.lst (acc ++ [V.str z]))) ∧ (upd G' W (.lst (acc ++ [V.str z]))) W = some (.lst (([(pl.on 0 (10 ^ 30)).text, (pl.on 0 (10 ^ 30)).text, (pl.on (lastOf pl).1 (lastOf pl).2).text].take (m + 1)).map V.str)) := by
        intro z hz
        have hi3 : m < 3 := hi
        refine ⟨_, gW, by rw [List.length_map, List.length_take, szl]; omega, fun b o e => by rw [upd_ne (ne_of_none e hW)]; exact SG _ _ e, ?_⟩
        rw [upd_same, List.take_add_one, hz, List.map_append]
        rfl
      refine ⟨rfl, yesIt ?_⟩
      match m, hi, hx, put with
      | 0, _, hx, put =>
        cases hx
        exact txt G' a _ _ _ (up ma ok0) rfl (put _ rfl)
      | 1, _, hx, put =>
        cases hx
        exact txt G' b _ _ _ (up mb ok0) rfl (put _ rfl)
      | 2, _, hx, put =>
        cases hx
        exact txt G' c _ _ _ (up mc ok1) rfl (put _ rfl)
    · obtain ⟨SG, gW⟩ := pv
      have gW : G W = some (.lst [V.str (pl.on 0 (10 ^ 30)).text, .str (pl.on 0 (10 ^ 30)).text, .str (pl.on (lastOf pl).1 (lastOf pl).2).text]) := gW
      have gL2 := SG _ _ gL
      have up : ∀ {e : Addr} {q : Plain}, MadeAt K H1 CN CL e q → q.Ok → MadeAt K G CN CL e q := fun m o => m.keep (Keep.same SG) o
      refine ⟨_, rfl, W, _, 0, _, rfl, rfl, SqL.of gW, rfl, _, rfl, W, _, 1, _, rfl, rfl, SqL.of gW, rfl, (show scal (V.str _) (V.str _) = true from rfl), _, rfl, ?_⟩
      rw [decide_eq_true rfl]
      refine iteT ?_
      refine ⟨_, rfl, W, _, 2, _, rfl, rfl, SqL.of gW, rfl, (show scal (V.str _) (V.str _) = true from rfl), ?_⟩
      rw [decide_eq_false fun z => tne (V.str.inj z)]
      refine ⟨_, rfl, iteT ?_⟩
      refine ⟨_, rfl, L, _, 0, _, rfl, rfl, SqL.of gL2, rfl, _, rfl, L, _, 1, _, rfl, rfl, SqL.of gL2, rfl, ?_⟩
      refine eq_read S false (up ma ok0) (up mb ok0) ok0 ok0 ?_
      rw [same_yes rfl]
      refine ⟨_, rfl, iteT ?_⟩
      refine ⟨_, rfl, W, _, 0, _, rfl, rfl, SqL.of gW, rfl, 64, _, at_sign, rfl, ?_⟩
      rw [text_no_at ok0 on_days]
      refine ⟨_, rfl, iteT ?_⟩
      refine ⟨_, rfl, L, _, 0, _, rfl, rfl, SqL.of gL2, rfl, _, rfl, L, _, 2, _, rfl, rfl, SqL.of gL2, rfl, ?_⟩
      refine eq_read S true (up ma ok0) (up mc ok1) ok0 ok1 ?_
      rw [same_no ne]
      exact k G (S1.trans SG)
end
end LW

/-! How long shown data may be. -/
namespace LW
open PySem L2 G TL
theorem text_len : ∀ (ts : List Str) (k : Nat) (acc : Str), (PySem.textFrom k acc ts).length ≤ acc.length + (ts.map (·.length)).sum + 2 * ts.length
  | [], k, acc => by
    show acc.length ≤ _
    omega
  | t :: ts, k, acc => by
    have h := text_len ts (k + 1) (acc ++ (if k > 0 then ", " else "" : String) ++ t)
    have e : (Str.ofString (if k > 0 then ", " else "" : String)).length ≤ 2 := by
      split
      · decide +kernel
      · decide +kernel
    show (PySem.textFrom (k + 1) (acc ++ (if k > 0 then ", " else "" : String) ++ t) ts).length ≤ _
    rw [sl, sl] at h
    simp only [List.map_cons, List.sum_cons, List.length_cons]
    omega
theorem list_len (ts : List Str) : (listText ts).length ≤ (ts.map (·.length)).sum + 2 * ts.length + 2 := by
  have h := text_len ts 0 "["
  have a : (Str.ofString "[").length = 1 := by decide +kernel
  have b : (Str.ofString "]").length = 1 := by decide +kernel
  show (PySem.textFrom 0 "[" ts ++ Str.ofString "]").length ≤ _
  rw [sl, b]
  omega
theorem tuple_len (ts : List Str) : (tupleText ts).length ≤ (ts.map (·.length)).sum + 2 * ts.length + 3 := by
  have h := join_len (Str.ofString ", ") ts
  have a : (Str.ofString "(").length = 1 := by decide +kernel
  have b : (Str.ofString ", ").length = 2 := by decide +kernel
  have c : (Str.ofString (if ts.length == 1 then ",)" else ")" : String)).length ≤ 2 := by
    split
    · decide +kernel
    · decide +kernel
  show (Str.ofString "(" ++ Str.join ", " ts ++ Str.ofString (if ts.length == 1 then ",)" else ")" : String)).length ≤ _
  rw [b] at h
  rw [sl, sl, a]
  omega
theorem shown_all : ∀ {ds : List PyData}, PyData.shownAll ds = ds.map PyData.shown
  | [] => by simp only [PyData.shownAll, List.map_nil]
  | d :: ds => by simp only [PyData.shownAll, List.map_cons, shown_all (ds := ds)]
theorem show_all : ∀ {ds : List PyData}, (∀ d ∈ ds, d.showable = true) → PyData.showableAll ds = true
  | [], _ => by simp only [PyData.showableAll]
  | d :: ds, h => by simp only [PyData.showableAll, h d List.mem_cons_self, show_all fun e he => h e (List.mem_cons_of_mem _ he), Bool.and_self]
theorem depth_all : ∀ {ds : List PyData} {n : Nat}, (∀ d ∈ ds, d.depth ≤ n) → PyData.depthAll ds ≤ n
  | [], n, _ => by simp only [PyData.depthAll]; omega
  | d :: ds, n, h => by
    have a := h d List.mem_cons_self
    have b := depth_all fun e he => h e (List.mem_cons_of_mem _ he)
    simp only [PyData.depthAll]
    omega
theorem sum_all {ds : List PyData} {n : Nat} (h : ∀ d ∈ ds, d.shown.length ≤ n) : ((PyData.shownAll ds).map (·.length)).sum ≤ n * ds.length := by
  rw [shown_all]
  induction ds with
  | nil => simp
  | cons d ds ih =>
    have a := h d List.mem_cons_self
    have b := ih fun e he => h e (List.mem_cons_of_mem _ he)
    simp only [List.map_cons, List.sum_cons, List.length_cons]
    rw [Nat.mul_succ]
    omega
theorem shown_len (ds : List PyData) : (PyData.shownAll ds).length = ds.length := by rw [shown_all, List.length_map]

structure Sh (k n : Nat) (d : PyData) : Prop where
  show_ : d.showable = true
  dep : d.depth ≤ k
  len : d.shown.length ≤ n
theorem Sh.up {k n k2 n2 : Nat} {d : PyData} (h : Sh k n d) (a : k ≤ k2) (b : n ≤ n2) : Sh k2 n2 d := ⟨h.show_, Nat.le_trans h.dep a, Nat.le_trans h.len b⟩
theorem Sh.tup {k n m : Nat} {ds : List PyData} (h : ∀ d ∈ ds, Sh k n d) (few : ds.length ≤ m) : Sh (k + 1) ((n + 2) * m + 3) (.tuple ds) := by
  refine ⟨?_, ?_, ?_⟩
  · simp only [PyData.showable]
    exact show_all fun d hd => (h d hd).show_
  · have := depth_all fun d hd => (h d hd).dep
    simp only [PyData.depth]
    omega
  · have a := tuple_len (PyData.shownAll ds)
    have b := sum_all (n := n) fun d hd => (h d hd).len
    rw [shown_len] at a
    have c : n * ds.length ≤ n * m := Nat.mul_le_mul_left n few
    show (tupleText (PyData.shownAll ds)).length ≤ _
    rw [Nat.add_mul]
    omega
theorem Sh.lst {k n m : Nat} {ds : List PyData} (h : ∀ d ∈ ds, Sh k n d) (few : ds.length ≤ m) : Sh (k + 1) ((n + 2) * m + 3) (.list ds) := by
  refine ⟨?_, ?_, ?_⟩
  · simp only [PyData.showable]
    exact show_all fun d hd => (h d hd).show_
  · have := depth_all fun d hd => (h d hd).dep
    simp only [PyData.depth]
    omega
  · have a := list_len (PyData.shownAll ds)
    have b := sum_all (n := n) fun d hd => (h d hd).len
    rw [shown_len] at a
    have c : n * ds.length ≤ n * m := Nat.mul_le_mul_left n few
    show (listText (PyData.shownAll ds)).length ≤ _
    rw [Nat.add_mul]
    omega
theorem Sh.str {z : Str} {n : Nat} (l : z.length ≤ n) (o : ∀ c ∈ tl z, c < 0x110000) : Sh 0 (10 * n + 2) (.str z) := by
  refine ⟨rfl, Nat.le_refl _, ?_⟩
  have h := PySem.StrLaws.reprText_len z fun c hc => by
    have := o c hc
    omega
  show (reprText z).length ≤ _
  omega
theorem int_len {i : Int} {k : Nat} (hk : 0 < k) (h : i.natAbs < 10 ^ k) : (Str.ofString (toString i)).length ≤ k + 1 := by
  have e : ((10 ^ k : Nat) : Int) = (10 : Int) ^ k := by
    rw [Int.natCast_pow]
    rfl
  by_cases n : i < 0
  · rw [PyProof.Rows.len_text_neg n]
    have := PyProof.Rows.toString_length_le (v := 0 - i) (k := k) (by omega) hk (by rw [← e]; omega)
    omega
  · have := PyProof.Rows.toString_length_le (v := i) (k := k) (by omega) hk (by rw [← e]; omega)
    omega

theorem Sh.int {i : Int} (h : i.natAbs < 10 ^ 60) : Sh 0 61 (.int i) := by
  refine ⟨?_, Nat.le_refl _, int_len (by decide) h⟩
  simp only [PyData.showable, decide_eq_true_eq]
  by_cases z : i.natAbs = 0
  · rw [z]
    decide +kernel
  · exact (Nat.log2_lt z).mpr (Nat.lt_of_lt_of_le h (by decide +kernel))
theorem Sh.repr {k n : Nat} {K : PySem.W.Frag} {H : Hp} {v : V} {d : PyData} {Q : VK} (f : Sh k n d) (h : Da K H v d) (a : k ≤ 30) (b : n ≤ 2000000) (q : Q (.str d.shown) H) : rRepr K [v] H Q :=
  ⟨v, d, rfl, h, f.1, by have := f.dep; omega, by have := f.len; rw [sizeLine_eq]; omega, q⟩
theorem strOk_tl {z : Str} (h : PyData.strOk z = true) : ∀ c ∈ tl z, c < 0x110000 := fun c hc => by
  have q : ∀ x ∈ z.cps.toList, decide (x < 0x110000) = true := List.all_eq_true.mp (by rw [Array.all_toList]; exact h)
  exact of_decide_eq_true (q c hc)
theorem sh_word {z : Str} (h : isWordD (.str z) = true) : Sh 0 82 (.str z) := by
  obtain ⟨y, e, _, l⟩ := word_inv h
  cases e
  exact Sh.str (n := 8) l (strOk_tl (letters_strOk h))
theorem sh_stretch {i j : Int} (sp : Span i j) : Sh 1 129 (stD i j) := by
  have l := sp.lo
  have l2 := sp.le
  have l3 := sp.hi
  have p : (10 : Nat) ^ 30 < 10 ^ 60 := by decide +kernel
  have q : (10 : Int) ^ 30 = ((10 ^ 30 : Nat) : Int) := by decide +kernel
  refine (Sh.tup (k := 0) (n := 61) (m := 2) (ds := [.int i, .int j]) (fun d hd => ?_) (by show 2 ≤ 2; decide)).up (by decide) (by decide)
  simp only [List.mem_cons, List.not_mem_nil, or_false] at hd
  rcases hd with rfl | rfl
  · exact Sh.int (by omega)
  · exact Sh.int (by omega)
theorem sh_chain {ws : List Str} (c : isChainD (chD ws) 4 = true) : Sh 1 423 (chD ws) := by
  obtain ⟨l1, l5⟩ := chain_len c
  refine (Sh.tup (k := 0) (n := 82) (m := 5) (fun d hd => ?_) (by rw [List.length_map]; exact l5)).up (by decide) (by decide)
  obtain ⟨z, hz, rfl⟩ := List.mem_map.mp hd
  exact sh_word (chain_words c z hz)
theorem sh_subj {d : PyData} (h : subjD d = true) : Sh 3 3413 d := by
  rcases subj_cases h with ⟨ws, rfl, c⟩ | ⟨m, wss, rfl, _, l1, l4, ch, m1, m2, _⟩
  · exact (sh_chain c).up (by decide) (by decide)
  · refine (Sh.tup (k := 2) (n := 1703) (m := 2) (fun d hd => ?_) (by show 2 ≤ 2; decide)).up (by decide) (by decide)
    simp only [List.mem_cons, List.not_mem_nil, or_false] at hd
    rcases hd with rfl | rfl
    · have p : (4 : Nat) < 10 ^ 60 := by decide +kernel
      exact (Sh.int (by omega)).up (by decide) (by decide)
    · refine (Sh.tup (k := 1) (n := 423) (m := 4) (fun d hd => ?_) (by rw [List.length_map]; exact l4)).up (by decide) (by decide)
      obtain ⟨ws, hw, rfl⟩ := List.mem_map.mp hd
      exact sh_chain (ch ws hw)
theorem sh_facts {pl : Plain} (ok : pl.Ok) : Sh 4 23908 (.list (factsD pl)) := by
  have bt : Sh 0 82 (.bool true) := ⟨rfl, Nat.le_refl _, by decide +kernel⟩
  have sn : Sh 0 82 (.str (Str.ofString "n")) := sh_word (by decide +kernel)
  have sl' : Sh 0 82 (.str (Str.ofString "l")) := sh_word (by decide +kernel)
  cases pl with
  | nam p n ws i j =>
    obtain ⟨w1, w2, w3, sp⟩ := ok
    refine (Sh.lst (k := 3) (n := 3413) (m := 7) (fun d hd => ?_) (by show 6 ≤ 7; decide)).up (by decide) (by decide)
    have hd : d ∈ [PyData.str p, stD i j, .bool true, .str (Str.ofString "n"), .str n, chD ws] := hd
    simp only [List.mem_cons, List.not_mem_nil, or_false] at hd
    rcases hd with rfl | rfl | rfl | rfl | rfl | rfl
    · exact (sh_word w1).up (by decide) (by decide)
    · exact (sh_stretch sp).up (by decide) (by decide)
    · exact bt.up (by decide) (by decide)
    · exact sn.up (by decide) (by decide)
    · exact (sh_word w2).up (by decide) (by decide)
    · exact (sh_chain w3).up (by decide) (by decide)
  | lea p dj g h i j t =>
    obtain ⟨w1, w2, sg, sp, n9⟩ := ok
    refine (Sh.lst (k := 3) (n := 3413) (m := 7) (fun d hd => ?_) (by show 7 ≤ 7; decide)).up (by decide) (by decide)
    have hd : d ∈ [PyData.str p, stD i j, .bool true, .str (Str.ofString "l"), dj, stD g h, timesP t] := hd
    simp only [List.mem_cons, List.not_mem_nil, or_false] at hd
    rcases hd with rfl | rfl | rfl | rfl | rfl | rfl | rfl
    · exact (sh_word w1).up (by decide) (by decide)
    · exact (sh_stretch sp).up (by decide) (by decide)
    · exact bt.up (by decide) (by decide)
    · exact sl'.up (by decide) (by decide)
    · exact (sh_subj w2).up (by decide) (by decide)
    · exact (sh_stretch sg).up (by decide) (by decide)
    · cases t with
      | none => exact ⟨rfl, by show 0 ≤ 3; decide, by show (PyData.none).shown.length ≤ 3413; decide +kernel⟩
      | some y =>
        obtain ⟨y0, y9⟩ := n9 y rfl
        have p : (9 : Nat) < 10 ^ 60 := by decide +kernel
        exact (Sh.int (by omega)).up (by decide) (by decide)
theorem sh_text {pl : Plain} (ok : pl.Ok) : Sh 0 1000002 (.str pl.text) := by
  obtain ⟨h, l⟩ := pcs_ok ok
  have e := text_pcs ok
  refine Sh.str (n := 100000) (by rw [e]; exact join_len_pcs l h) fun c hc => ?_
  rw [e] at hc
  have m : c ∈ tl (Txt.join (Str.ofString " ") pl.pcs) := hc
  rw [join_eq, tl_join, tl_blank] at m
  cases e2 : pl.pcs with
  | nil =>
    rw [e2] at m
    cases m
  | cons x l =>
    rw [e2] at m h
    rw [joinL_J] at m
    rcases List.mem_append.mp m with m | m
    · exact strOk_tl (h x List.mem_cons_self).2.1 c m
    · unfold J at m
      obtain ⟨y, hy, hm⟩ := List.mem_flatMap.mp m
      rcases List.mem_cons.mp hm with z | z
      · omega
      · exact strOk_tl (h y (List.mem_cons_of_mem _ hy)).2.1 c z
end LW

/-! tuple * int, none and one included. -/
namespace L2
open PySem PySem.Spec PyProof.Rows
theorem tuple_mul1 (l : Addr) (items : Array Value) (n : Nat) (dd : Option Addr) (sl : Array (Option Value)) (u : Tok) :
    Meets (Builtin.«tuple.__mul__» ⟨[.ref l, .int 1 u], []⟩) (fun _ R s => s.heap.get? l = some { cls := .type "tuple", dict := dd, data := .seq items n, slots := sl } ∧
      R (.ok (.ret (Value.ref l))) s) :=
  .of_wp fun prog w A R s h => by
    obtain ⟨hp, g, d, tk, os⟩ := s
    obtain ⟨hl, h⟩ := h
    have f1 := AutoSeq1.idx_int
    wp_walk using wpAny_loadPart' hl
    repeat (first
      | (refine wpAny_ite_false (decide_eq_false (by decide)) ?_; wp_walk using wpAny_loadPart' hl)
      | (refine wpAny_ite_true (decide_eq_true (by rw [Bool.or_eq_true]; exact .inr rfl)) ?_; wp_walk using wpAny_loadPart' hl))
    all_goals exact ⟨_, rfl, h⟩
theorem tuple_mul0 (l : Addr) (items : Array Value) (n : Nat) (dd : Option Addr) (sl : Array (Option Value)) (u : Tok) (c1 : items.isEmpty = false) :
    Meets (Builtin.«tuple.__mul__» ⟨[.ref l, .int 0 u], []⟩) (fun _ R s => s.heap.get? l = some { cls := .type "tuple", dict := dd, data := .seq items n, slots := sl } ∧
      R (.ok (.ret (Value.ref s.heap.objs.size))) { s with heap := s.heap.push { cls := Value.type "tuple", data := Data.seq #[] }, toks := s.toks }) :=
  .of_wp fun prog w A R s h => by
    obtain ⟨hp, g, d, tk, os⟩ := s
    obtain ⟨hl, h⟩ := h
    have f1 := AutoSeq1.idx_int
    wp_walk using wpAny_loadPart' hl
    repeat (first
      | (refine wpAny_ite_false (decide_eq_false (by decide)) ?_; wp_walk using wpAny_loadPart' hl)
      | (refine wpAny_ite_false (decide_eq_false (by rw [c1]; decide)) ?_; wp_walk using wpAny_loadPart' hl)
      | (refine wpAny_ite_true (decide_eq_true (by decide)) ?_; wp_walk using wpAny_loadPart' hl))
    all_goals exact ⟨_, rfl, h⟩
def rMulT (K : PySem.W.Frag) : R2 := fun x y H Q => ∃ l k xs, x = .ref l ∧ y = .int k ∧ SqT K H l xs ∧ xs ≠ [] ∧ 0 ≤ k ∧ k ≤ 1000 ∧ xs.length ≤ 1000 ∧ (k = 1 → Q (.ref l) H) ∧ (k ≠ 1 → ∀ p, H p = none → Q (.ref p) (upd H p (.tup (List.replicate k.toNat xs).flatten)))
section
variable {X : Cx}
theorem op_mulT : OpR X (binaryOp .Mult) (rMulT X.K) := by
  intro pins s σ H x y v u Q I rx ry h
  obtain ⟨l, k, xs, rfl, rfl, hT, hne, h1, h2, hz, q1, q2⟩ := h
  by_cases k2 : 2 ≤ k
  · exact op_repT pins s σ H _ _ v u Q I rx ry ⟨l, k, xs, rfl, rfl, hT, hne, k2, h2, hz, q2 (by omega)⟩
  cases rx
  obtain ⟨t, rfl⟩ := ry
  obtain ⟨its, r, ⟨⟨cls, dd, data, sl⟩, ho, hc, n, hd⟩, hs⟩ := I.tuple hT
  simp only at hc hd
  subst hc hd
  have hle : its.length = xs.length := r.length.symm
  have hn : its ≠ [] := fun e => hne (by
    rw [e] at hle
    exact List.eq_nil_of_length_eq_zero hle.symm)
  have hi : its.toArray.isEmpty = false := by
    cases its with
    | nil => exact absurd rfl hn
    | cons a b => rfl
  have hk : k = 0 ∨ k = 1 := by omega
  rcases hk with rfl | rfl
  · refine wpAny_binaryOp_repeat_ref (T := "tuple") (U := "int") (by decide) ⟨_, ho, rfl⟩ (fun s' => typeIs_int s' 0 t) noFill_tuple_mul F.fills_int_mul F.slot_int_rmul repeat_tuple F.slot_int_index.lookup
      (call_meets F.slot_int_rmul (typeIs_int s 0 t) F.entry_int_rmul (F.args_int_rmul_2 _ _) (int_rmul_tuple 0 t l its.toArray n dd sl)
        ⟨ho, rfl, ⟨_, ho, rfl⟩, call_meets F.slot_tuple_mul ⟨_, ho, rfl⟩ F.entry_tuple_mul (F.args_tuple_mul_2 _ _) (tuple_mul0 l its.toArray n dd sl t hi) ⟨ho, ?_⟩⟩)
    refine ⟨.ref s.heap.objs.size, _, I.laid (t' := s.toks) (o := .tup []) (fun b ob q => Heap.get?_push_of_some _ q) (Nat.le_refl _) ?_, rfl, q2 (by decide) _ (I.hok.fresh (Nat.le_refl _))⟩
    exact ⟨Nat.zero_le _, _, .nil, IsTup.new _ _⟩
  · refine wpAny_binaryOp_repeat_ref (T := "tuple") (U := "int") (by decide) ⟨_, ho, rfl⟩ (fun s' => typeIs_int s' 1 t) noFill_tuple_mul F.fills_int_mul F.slot_int_rmul repeat_tuple F.slot_int_index.lookup
      (call_meets F.slot_int_rmul (typeIs_int s 1 t) F.entry_int_rmul (F.args_int_rmul_2 _ _) (int_rmul_tuple 1 t l its.toArray n dd sl)
        ⟨ho, rfl, ⟨_, ho, rfl⟩, call_meets F.slot_tuple_mul ⟨_, ho, rfl⟩ F.entry_tuple_mul (F.args_tuple_mul_2 _ _) (tuple_mul1 l its.toArray n dd sl t) ⟨ho, ?_⟩⟩)
    exact ⟨.ref l, _, I, rfl, q1 rfl⟩
end
end L2

/-! f(k = v, ..): a def called with keywords alone. -/
namespace G
open PySem PySem.Spec PyProof.Rows L2
/-- two items, turned round -/
def swap2 {α : Type} : List α → List α
  | [a, b] => [b, a]
  | l => l
theorem swap2_vals : ∀ {zs : List V} {ws : List Value}, Vals zs ws → Vals (swap2 zs) (swap2 ws)
  | _, _, .nil => .nil
  | _, _, .cons a .nil => .cons a .nil
  | _, _, .cons a (.cons b .nil) => .cons b (.cons a .nil)
  | _, _, .cons a (.cons b (.cons c t)) => .cons a (.cons b (.cons c t))
def tCallK0 (m : Nat) (perm : {α : Type} → List α → List α) (sp : Sp) (E : XK) (tk : TA) : TE := fun σ H Q => tk σ H fun zs H1 => zs.length = m ∧ sp (perm zs) H1 Q E
section
variable {X : Cx} {CX : CXT} {k : Nat} {f : Addr} {fd : FuncData} {ps ks : List Str} {sp : Sp} {E : XK} {x : Str} {p pos : Pos} {kws : List Keyword} {tk : TA}
theorem pe_callK0 (perm : {α : Type} → List α → List α) (hp : ∀ {zs : List V} {ws : List Value}, Vals zs ws → Vals (perm zs) (perm ws)) (F : FnOk X.prog X.w X.K X.mg X.base CX k f fd ps sp) (hr : Room k X.A) (hg : Gl X x) (hm : X.mg x = some (.ref f)) (hk : PySem.W.keepIn X.K (.ref f) = true)
    (hb : ∀ (s : Shared) (ws : List Value), X.K.In s.heap → ws.length = ks.length → BindsTo s fd ⟨[], ks.zip ws⟩ (ps.zip (perm ws))) (hx : Passes CX X E) (hkw : PK X kws tk)
    (hall : (backToKw pos (keywordEach kws X.env)).all (·.1.isSome) = true := by rfl) (hks : (backToKw pos (keywordEach kws X.env)).filterMap (·.1) = ks := by rfl) (hdb : (x == ("__debug__" : Str)) = false := by decide)
    (hpl : ((backTo pos (starEach [] X.env)).any (·.1) || (backToKw pos (keywordEach kws X.env)).any (·.1.isNone)) = false := by rfl) :
    PE X (.Call (.Name x p) [] kws pos) (tCallK0 ks.length perm sp E tk) := by
  refine ⟨fun pins s σ H Q I h => ?_⟩
  refine wpAny_Call_Name_kw (ld_glob I hg hm (PySem.W.callWith_KW0 (h₀ := X.base) I.ok.mod.kin hk hall (thn (hkw.run pos pins s σ H _ I h) fun ws s1 ⟨zs, H1, I1, rz, n, q⟩ => ⟨I1.kIn, ?_⟩) hpl) hdb)
  rw [hks]
  have len : ws.length = ks.length := rz.length.symm.trans n
  refine wpAny_call (codeAny_mono (F.run X.A X.stack s1 H1 ⟨[], ks.zip ws⟩ (perm ws) (perm zs) Q E hr I1.env0 (hb s1 ws I1.kIn len) (hp rz) q) fun r s' hq => ?_)
  cases r with
  | error e => exact hx pins σ H1 s1 e s' I1 hq
  | ok fl =>
    cases fl with
    | ret u => exact I1.after hq
    | next => exact False.elim hq
    | brk => exact False.elim hq
    | cont => exact False.elim hq
/-- how keywords alone bind where the def has no defaults -/
theorem kb0_of {K : PySem.W.Frag} {x qual : Str} {st : Stmt} {f : Addr} {fd : FuncData} {ps ks : List Str} (perm : {α : Type} → List α → List α) (F : Fun K x qual st f fd)
    (h : ∀ (kV doc pm : Value) (an : Option Addr) (cdv ct : Value) (ws : List Value), ws.length = ks.length → bindArgs (PySem.W.fnOf x qual (defArgs st) (defBody st) (defScope st) .none kV doc pm an cdv ct) ⟨[], ks.zip ws⟩ = pure (ps.zip (perm ws))) :
    ∀ (s : Shared) (ws : List Value), K.In s.heap → ws.length = ks.length → BindsTo s fd ⟨[], ks.zip ws⟩ (ps.zip (perm ws)) := by
  obtain ⟨oc, od, kV, doc, pm, an, cdv, ct, osl, rfl, lk, hcd⟩ := F.ex
  exact fun s ws X l => BindsTo.of_looks fun M => .of_pure (h kV doc pm an cdv ct ws l)
end
end G

/-! The law: its parts. -/
namespace LW
open PySem L2 G TL
abbrev sLaw : Stmt := top 67
abbrev fA (i : Nat) : Stmt := LW.nth (forBody (LW.nth (defBody sLaw) 1)) i
abbrev lb (i : Nat) : Stmt := LW.nth (forBody (fA 1)) i
abbrev nmLaw : List Str := ["_law_script", "_law_pen_here", "_law_turn", "_law_pool", "_law_plain", "_law_one", "_law_due", "_law_told", "_law_other", "_law_many", "_law_links", "e"]
theorem scLaw : FnScope nmLaw ["_law_script"] (defScope sLaw) := ⟨rfl, rfl, rfl, by decide +kernel, rfl, by decide +kernel, by decide +kernel⟩
abbrev XL (w : World) (K : PySem.W.Frag) (mg : Str → Option Value) (base : Heap) (f : Addr) (cdv : Value) (A : Around) (outer : List Env) (s : Shared) (H : Hp) (E : XK) : Cx :=
  (cxOf CX0 PySem.Challenge.pw_namechains_k79_statements_written_and_re w K mg base nmLaw "law" (defScope sLaw) f cdv A outer s H E).nox
def tTxt (CN CL : Addr) (i : Nat) : TE := fun σ H Q => tProp CN (spGet CN "_text") [] E0 (tVar i) σ H Q ∨ tProp CL (spGet CL "_text") [] E0 (tVar i) σ H Q
theorem txt_at {K : PySem.W.Frag} {CN CL e : Addr} {i : Nat} {G : Hp} {q : Plain} {σ : L2.St} {R : VK} (m : MadeAt K G CN CL e q) (h4 : σ[i]? = some (some (.ref e))) (hR : R (.str q.text) G) : tTxt CN CL i σ G R := by
  cases q with
  | nam p n ws i j =>
    obtain ⟨dx, q', c', h1, _⟩ := m
    exact .inl ⟨_, h4, e, dx, _, rfl, h1, e, dx, _, _, rfl, h1, lk3, hR⟩
  | lea p dj g h i j t =>
    obtain ⟨dx, q', ag, vj, h1, _⟩ := m
    exact .inr ⟨_, h4, e, dx, _, rfl, h1, e, dx, _, _, rfl, h1, ll3, hR⟩
theorem facts_repr {K : PySem.W.Frag} {H : Hp} {L : Addr} {xs : List V} {pl : Plain} {Q : VK} (ok : pl.Ok) (np : ∀ a zs, V.ref L = .ref a → H a = some (.lst zs) → a ≠ sysModules) (g : H L = some (.lst xs)) (da : DaAll K H xs (factsD pl))
    (q : Q (.str (PyData.list (factsD pl)).shown) H) : rRepr K [.ref L] H Q := (sh_facts ok).repr (.lst (np L xs rfl g) (SqL.of g) da) (by decide) (by decide) q
theorem nilIt {σ : L2.St} {H : Hp} {R : List V → Hp → Prop} (h : R [] H) : tNil σ H R := h
theorem str_ne {z : Str} {Q : V → Prop} (q : Q (.bl false)) : (scal (V.str z) (V.str z) = true) ∧ Q (.bl (!decide (V.str z = V.str z))) := ⟨rfl, by rw [decide_eq_true rfl]; exact q⟩
section
variable {w : World} {K : PySem.W.Frag} {mg : Str → Option Value} {base : Heap} {f : Addr} {cdv : Value} {A : Around} {outer : List Env} {s : Shared} {HS : Hp} {E : XK}
variable {CN CL CS CE aM aT aP aF aD aR aS gN gL : Addr} {eM eT eP eF eD eR eS eN eL : FuncData}
theorem bod0 (hr : Room 10 (XL w K mg base f cdv A outer s HS E).A) (GM : Fx PySem.Challenge.pw_namechains_k79_statements_written_and_re w K mg base CX0 8 "_law_made" aM eM ["_law_plain"] (spMadeL K CN CL)) (GT : Fx PySem.Challenge.pw_namechains_k79_statements_written_and_re w K mg base CX0 1 "_law_text" aT eT ["_law_plain"] (spTextL K)) :
    ∃ t, PS (XL w K mg base f cdv A outer s HS E) (lb 0) t ∧ ∀ (D : Ends) (H : Hp) (v : V) (pl : Plain) (u0 u1 u2 u3 u5 u6 : Option V) (us : List (Option V)), Da K H v pl.d → pl.Ok →
      (∀ (a : Addr) (H' : Hp), Same H H' → MadeAt K H' CN CL a pl → D.nx (u0 :: u1 :: u2 :: u3 :: some v :: some (.ref a) :: some (.str pl.text) :: us) H') → t D (u0 :: u1 :: u2 :: u3 :: some v :: u5 :: u6 :: us) H := by
  refine ⟨_, ps_par (i := 5) (j := 6) (by rfl) scLaw.nd rfl rfl (by decide) rfl rfl (pa_cons (pe_call GM.ok (hr.mono (by decide)) (by rfl) GM.m GM.k GM.b .nil pass0 (pa_cons (pv 4) pa_nil)) (pa_cons (pe_call GT.ok (hr.mono (by decide)) (by rfl) GT.m GT.k GT.b .nil pass0 (pa_cons (pv 4) pa_nil)) pa_nil)) (by rfl), ?_⟩
  intro D H v pl u0 u1 u2 u3 u5 u6 us hd ok k
  refine ⟨_, rfl, v, pl, rfl, hd, ok, fun a H1 S1 m => ?_⟩
  refine ⟨_, rfl, v, pl, rfl, hd.same S1, ok, fun H2 S2 => ?_⟩
  exact ⟨_, _, rfl, k a H2 (S1.trans S2) (m.keep (Keep.same S2) ok)⟩
theorem pe_txt {i : Nat} {n : Str} {p pos : Pos} {X : Cx} (Z : Fc X.prog X.w X.K X.mg X.base CN CL CS) (hr : Room 10 X.A) (hv : PE X (.Name n p) (tVar i)) (ab : attributeBase (.Name n p) "text" X.env (eval (.Name n p) X.env) = eval (.Name n p) X.env) :
    PE X (.Attribute (.Name n p) "text" pos) (tTxt CN CL i) := by
  obtain ⟨_, _, _, nt⟩ := Z.nt
  obtain ⟨_, _, _, lt⟩ := Z.lt
  exact pe_alt (pe_prop hv Z.nc.cl nt.of nt.ok (hr.mono (by decide)) nt.b .nil pass0 ab) (pe_prop hv Z.lc.cl lt.of lt.ok (hr.mono (by decide)) lt.b .nil pass0 ab)
theorem bod1 (hg : (XL w K mg base f cdv A outer s HS E).A.guards = some []) (hr : Room 10 (XL w K mg base f cdv A outer s HS E).A) (sys : sysB K = true) (rep : mg "repr" = none) (Z : Fc PySem.Challenge.pw_namechains_k79_statements_written_and_re w K mg base CN CL CS)
    (GF : Fx PySem.Challenge.pw_namechains_k79_statements_written_and_re w K mg base CX0 3 "_law_facts" aF eF ["_law_one"] (spFacts K CN CL)) (GD : Fx PySem.Challenge.pw_namechains_k79_statements_written_and_re w K mg base CX0 1 "_law_due_facts" aD eD ["_law_plain"] (spDueF K)) :
    ∃ t, PS (XL w K mg base f cdv A outer s HS E) (lb 1) t ∧ ∀ (D : Ends) (H : Hp) (v : V) (pl : Plain) (a : Addr) (u0 u1 u2 u3 : Option V) (us : List (Option V)), Da K H v pl.d → pl.Ok → MadeAt K H CN CL a pl →
      (∀ (H' : Hp), Same H H' → D.nx (u0 :: u1 :: u2 :: u3 :: some v :: some (.ref a) :: some (.str pl.text) :: us) H') → t D (u0 :: u1 :: u2 :: u3 :: some v :: some (.ref a) :: some (.str pl.text) :: us) H := by
  have hu : (XL w K mg base f cdv A outer s HS E).A.units + 64 < cLine := by have := hr.un; omega
  refine ⟨_, ps_if (PW.pt (pw_or (pt_cmpR op_ne (pe_callB (call_repr hg hu) (by rfl) rep (by decide +kernel) (pa_cons (pe_txt Z hr (pv 5) rfl) pa_nil)) (pe_callB (call_repr hg hu) (by rfl) rep (by decide +kernel) (pa_cons (pv 6) pa_nil)) (nomark _))
      (pw_or1 (pt_cmpR op_ne (pe_callB (call_repr hg hu) (by rfl) rep (by decide +kernel) (pa_cons (pe_np sys (pe_call GF.ok (hr.mono (by decide)) (by rfl) GF.m GF.k GF.b .nil pass0 (pa_cons (pv 5) pa_nil))) pa_nil))
        (pe_callB (call_repr hg hu) (by rfl) rep (by decide +kernel) (pa_cons (pe_np sys (pe_call GD.ok (hr.mono (by decide)) (by rfl) GD.m GD.k GD.b .nil pass0 (pa_cons (pv 4) pa_nil))) pa_nil)) (nomark _))))) (pss_one (ps_ret pe_bl)) pss_nil, ?_⟩
  intro D H v pl a u0 u1 u2 u3 us hd ok m k
  refine txt_at (i := 5) m rfl (nilIt ?_)
  refine (sh_text ok).repr (.str _) (by decide) (by decide) ?_
  refine ⟨_, rfl, nilIt ?_⟩
  refine (sh_text ok).repr (.str _) (by decide) (by decide) ?_
  refine ⟨rfl, ?_⟩
  rw [decide_eq_true rfl]
  refine ⟨_, rfl, iteF ?_⟩
  refine ⟨_, rfl, a, pl, rfl, m, ok, fun L xs H1 S1 gL da np => ?_⟩
  refine nilIt (facts_repr ok np gL da ?_)
  refine ⟨_, rfl, v, pl, rfl, hd.same S1, ok, fun L2 xs2 H2 S2 gL2 da2 np2 => ?_⟩
  refine nilIt (facts_repr ok np2 gL2 da2 ?_)
  refine ⟨rfl, ?_⟩
  rw [decide_eq_true rfl]
  exact ⟨_, rfl, iteF (k H2 (S1.trans S2))⟩
theorem bod2 (hr : Room 10 (XL w K mg base f cdv A outer s HS E).A) (GR : Fx PySem.Challenge.pw_namechains_k79_statements_written_and_re w K mg base (L2.CX PySem.Challenge.pw_namechains_k79_statements_written_and_re w) 9 "read_statement" aR eR ["text"] (spReadS K CN CL CE))
    (kR : ∀ (s : Shared) (ws : List Value), K.In s.heap → ws.length = ([("text" : Str)] : List Str).length → BindsTo s eR ⟨[], ([("text" : Str)] : List Str).zip ws⟩ (([("text" : Str)] : List Str).zip (id ws))) :
    ∃ t, PS (XL w K mg base f cdv A outer s HS E) (lb 2) t ∧ ∀ (D : Ends) (H : Hp) (pl : Plain) (u0 u1 u2 u3 u4 u5 u7 : Option V) (us : List (Option V)), pl.Ok →
      (∀ (b : Addr) (H' : Hp), Same H H' → MadeAt K H' CN CL b pl → D.nx (u0 :: u1 :: u2 :: u3 :: u4 :: u5 :: some (.str pl.text) :: some (.ref b) :: us) H') → t D (u0 :: u1 :: u2 :: u3 :: u4 :: u5 :: some (.str pl.text) :: u7 :: us) H := by
  have passL : Passes (L2.CX PySem.Challenge.pw_namechains_k79_statements_written_and_re w) (XL w K mg base f cdv A outer s HS E) E0 := passes_call LamX.takes0 fun _ _ _ _ h => h
  refine ⟨_, ps_set (i := 7) scLaw.nd rfl (Or.inl rfl) (pe_callK0 (ks := ["text"]) id (fun h => h) GR.ok (hr.mono (by decide)) (by rfl) GR.m GR.k kR passL (pk_cons (pv 6) pk_nil)), ?_⟩
  intro D H pl u0 u1 u2 u3 u4 u5 u7 us ok k
  exact ⟨_, rfl, rfl, _, rfl, .inl ⟨pl, ok, rfl, fun b H' S m => k b H' S m⟩⟩
theorem bod3 (hg : (XL w K mg base f cdv A outer s HS E).A.guards = some []) (hr : Room 10 (XL w K mg base f cdv A outer s HS E).A) (sys : sysB K = true) (rep : mg "repr" = none) (Z : Fc PySem.Challenge.pw_namechains_k79_statements_written_and_re w K mg base CN CL CS) (S : StEq PySem.Challenge.pw_namechains_k79_statements_written_and_re w K mg base CN CL gN gL eN eL)
    (GF : Fx PySem.Challenge.pw_namechains_k79_statements_written_and_re w K mg base CX0 3 "_law_facts" aF eF ["_law_one"] (spFacts K CN CL)) :
    ∃ t, PS (XL w K mg base f cdv A outer s HS E) (lb 3) t ∧ ∀ (D : Ends) (H : Hp) (pl : Plain) (a b : Addr) (u0 u1 u2 u3 u4 : Option V) (us : List (Option V)), pl.Ok → MadeAt K H CN CL a pl → MadeAt K H CN CL b pl →
      (∀ (H' : Hp), Same H H' → D.nx (u0 :: u1 :: u2 :: u3 :: u4 :: some (.ref a) :: some (.str pl.text) :: some (.ref b) :: us) H') → t D (u0 :: u1 :: u2 :: u3 :: u4 :: some (.ref a) :: some (.str pl.text) :: some (.ref b) :: us) H := by
  have hu : (XL w K mg base f cdv A outer s HS E).A.units + 64 < cLine := by have := hr.un; omega
  refine ⟨_, ps_if (PW.pt (pw_or (pt_not (pt_cmpR (op_alt (op_eqO S.oN S.eN S.bN (hr.mono (by decide))) (op_eqO S.oL S.eL S.bL (hr.mono (by decide)))) (pv 7) (pv 5) (nomark _)))
      (pw_or (pt_cmpR (op_alt (op_neO S.oN S.eN S.bN (hr.mono (by decide))) (op_neO S.oL S.eL S.bL (hr.mono (by decide)))) (pv 5) (pv 7) (nomark _))
      (pw_or (pt_cmpR op_ne (pe_callB (call_repr hg hu) (by rfl) rep (by decide +kernel) (pa_cons (pe_np sys (pe_call GF.ok (hr.mono (by decide)) (by rfl) GF.m GF.k GF.b .nil pass0 (pa_cons (pv 7) pa_nil))) pa_nil))
        (pe_callB (call_repr hg hu) (by rfl) rep (by decide +kernel) (pa_cons (pe_np sys (pe_call GF.ok (hr.mono (by decide)) (by rfl) GF.m GF.k GF.b .nil pass0 (pa_cons (pv 5) pa_nil))) pa_nil)) (nomark _))
      (pw_or1 (pt_cmpR op_ne (pe_txt Z hr (pv 7) rfl) (pv 6) (nomark _))))))) (pss_one (ps_ret pe_bl)) pss_nil, ?_⟩
  intro D H pl a b u0 u1 u2 u3 u4 us ok ma mb k
  refine ⟨_, rfl, _, rfl, ?_⟩
  refine eq_read S false mb ma ok ok ?_
  rw [same_yes rfl]
  refine ⟨_, rfl, iteF ?_⟩
  refine ⟨_, rfl, _, rfl, ?_⟩
  refine eq_read S true ma mb ok ok ?_
  rw [same_yes rfl]
  refine ⟨_, rfl, iteF ?_⟩
  refine ⟨_, rfl, b, pl, rfl, mb, ok, fun L xs H1 S1 gL da np => ?_⟩
  refine nilIt (facts_repr ok np gL da ?_)
  have ma1 := ma.keep (Keep.same S1) ok
  refine ⟨_, rfl, a, pl, rfl, ma1, ok, fun L2 xs2 H2 S2 gL2 da2 np2 => ?_⟩
  refine nilIt (facts_repr ok np2 gL2 da2 ?_)
  refine ⟨rfl, ?_⟩
  rw [decide_eq_true rfl]
  refine ⟨_, rfl, iteF ?_⟩
  refine txt_at (i := 7) (mb.keep (Keep.same (S1.trans S2)) ok) rfl ?_
  refine ⟨_, rfl, rfl, ?_⟩
  rw [decide_eq_true rfl]
  exact ⟨_, rfl, iteF (k H2 (S1.trans S2))⟩
end
end LW

/-! The law: a turn. -/
namespace LW
open PySem L2 G TL
theorem ends_of {ps : List (V × Plain)} (h1 : 1 ≤ ps.length) (h3 : ps.length ≤ 3) : ∃ r z, r ∈ ps ∧ z ∈ ps ∧ atI (ps.map Prod.fst) 0 = some r.1 ∧ atI (ps.map Prod.fst) (-1) = some z.1 := by
  match ps, h1, h3 with
  | [a], _, _ => exact ⟨a, a, by simp, by simp, rfl, rfl⟩
  | [a, b], _, _ => exact ⟨a, b, by simp, by simp, rfl, rfl⟩
  | [a, b, c], _, _ => exact ⟨a, c, by simp, by simp, rfl, rfl⟩
section
variable {w : World} {K : PySem.W.Frag} {mg : Str → Option Value} {base : Heap} {f : Addr} {cdv : Value} {A : Around} {outer : List Env} {s : Shared} {HS : Hp} {E : XK}
variable {CN CL CS CE aM aT aP aF aD aR aS gN gL : Addr} {eM eT eP eF eD eR eS eN eL : FuncData}
theorem part0 (hr : Room 10 (XL w K mg base f cdv A outer s HS E).A) (GP : Fx PySem.Challenge.pw_namechains_k79_statements_written_and_re w K mg base CX0 7 "_law_statement_pool" aP eP ["_law_pen_here", "_law_many", "_law_top"] (spPool K)) :
    ∃ t, PS (XL w K mg base f cdv A outer s HS E) (fA 0) t ∧ ∀ (D : Ends) (H : Hp) (p c : Addr) (cells : List Int) (tt l : Int) (u0 u2 u3 : Option V) (us : List (Option V)), PenAt H p c cells tt l → tt ≤ 500000 →
      (∀ (L : Addr) (ps : List (V × Plain)) (H' : Hp) (t' l' : Int), H' L = some (.lst (ps.map Prod.fst)) → Pls K H' ps → 1 ≤ ps.length → ps.length ≤ 3 → PenAt H' p c cells t' l' → t' ≤ tt + 1000 → D.nx (u0 :: some (.ref p) :: u2 :: some (.ref L) :: us) H') →
      t D (u0 :: some (.ref p) :: u2 :: u3 :: us) H := by
  refine ⟨_, ps_set (i := 3) scLaw.nd rfl (Or.inl rfl) (pe_call GP.ok (hr.mono (by decide)) (by rfl) GP.m GP.k GP.b .nil pass0 (pa_cons (pv 1) (pa_cons pe_int (pa_cons pe_int pa_nil)))), ?_⟩
  intro D H p c cells tt l u0 u2 u3 us N ht k
  exact ⟨_, rfl, p, c, cells, tt, l, rfl, N, ht, fun L ps t' l' H' gL hp l1 l3 ht' N' _ => k L ps H' t' l' gL hp l1 l3 N' ht'⟩
theorem part1 (hg : (XL w K mg base f cdv A outer s HS E).A.guards = some []) (hr : Room 10 (XL w K mg base f cdv A outer s HS E).A) (sys : sysB K = true) (rep : mg "repr" = none) (Z : Fc PySem.Challenge.pw_namechains_k79_statements_written_and_re w K mg base CN CL CS) (S : StEq PySem.Challenge.pw_namechains_k79_statements_written_and_re w K mg base CN CL gN gL eN eL)
    (GM : Fx PySem.Challenge.pw_namechains_k79_statements_written_and_re w K mg base CX0 8 "_law_made" aM eM ["_law_plain"] (spMadeL K CN CL)) (GT : Fx PySem.Challenge.pw_namechains_k79_statements_written_and_re w K mg base CX0 1 "_law_text" aT eT ["_law_plain"] (spTextL K))
    (GF : Fx PySem.Challenge.pw_namechains_k79_statements_written_and_re w K mg base CX0 3 "_law_facts" aF eF ["_law_one"] (spFacts K CN CL)) (GD : Fx PySem.Challenge.pw_namechains_k79_statements_written_and_re w K mg base CX0 1 "_law_due_facts" aD eD ["_law_plain"] (spDueF K))
    (GR : Fx PySem.Challenge.pw_namechains_k79_statements_written_and_re w K mg base (L2.CX PySem.Challenge.pw_namechains_k79_statements_written_and_re w) 9 "read_statement" aR eR ["text"] (spReadS K CN CL CE))
    (kR : ∀ (s : Shared) (ws : List Value), K.In s.heap → ws.length = ([("text" : Str)] : List Str).length → BindsTo s eR ⟨[], ([("text" : Str)] : List Str).zip ws⟩ (([("text" : Str)] : List Str).zip (id ws))) :
    ∃ t, PS (XL w K mg base f cdv A outer s HS E) (fA 1) t ∧ ∀ (D : Ends) (H : Hp) (L : Addr) (ps : List (V × Plain)) (u0 u1 u2 u4 u5 u6 u7 : Option V) (us : List (Option V)), H L = some (.lst (ps.map Prod.fst)) → Pls K H ps →
      (∀ (H' : Hp) (v4 v5 v6 v7 : Option V), Same H H' → D.nx (u0 :: u1 :: u2 :: some (.ref L) :: v4 :: v5 :: v6 :: v7 :: us) H') →
      t D (u0 :: u1 :: u2 :: some (.ref L) :: u4 :: u5 :: u6 :: u7 :: us) H := by
  obtain ⟨t0, p0, k0⟩ := bod0 (f := f) (cdv := cdv) (A := A) (outer := outer) (s := s) (HS := HS) (E := E) hr GM GT
  obtain ⟨t1, p1, k1⟩ := bod1 (f := f) (cdv := cdv) (A := A) (outer := outer) (s := s) (HS := HS) (E := E) hg hr sys rep Z GF GD
  obtain ⟨t2, p2, k2⟩ := bod2 (f := f) (cdv := cdv) (A := A) (outer := outer) (s := s) (HS := HS) (E := E) hr GR kR
  obtain ⟨t3, p3, k3⟩ := bod3 (f := f) (cdv := cdv) (A := A) (outer := outer) (s := s) (HS := HS) (E := E) hg hr sys rep Z S GF
  refine ⟨_, ps_for PassesOwn.never rfl (pi_list (pv 3)) (pg_name (i := 4) scLaw.nd rfl (Or.inl rfl)) (pss_cons p0 (pss_cons p1 (pss_cons p2 (pss_one p3)))), ?_⟩
  intro D H L ps u0 u1 u2 u4 u5 u6 u7 us gL hp k
  refine ⟨_, rfl, L, rfl, ⟨_, SqL.of gL⟩, ?_⟩
  refine for_list (K := K) (a := L) (xs := ps.map Prod.fst) (fun i σ G => ∃ v4 v5 v6 v7 : Option V, σ = u0 :: u1 :: u2 :: some (.ref L) :: v4 :: v5 :: v6 :: v7 :: us ∧ Same H G) ⟨_, _, _, _, rfl, Same.refl H⟩ (fun i σ G _ h => ?_) (fun i x σ G hx h => ?_) (fun σ G h => ?_)
  · obtain ⟨_, _, _, _, _, S⟩ := h
    exact SqL.of (S _ _ gL)
  · obtain ⟨v4, v5, v6, v7, rfl, SG⟩ := h
    rw [List.getElem?_map] at hx
    obtain ⟨r, hr', rfl⟩ := Option.map_eq_some_iff.mp hx
    obtain ⟨da, ok⟩ := (hp.keep (Keep.same SG)) r (List.mem_of_getElem? hr')
    refine setIt ?_
    try dsimp only
    refine k0 _ G r.1 r.2 _ _ _ _ _ _ _ da ok fun a H1 S1 ma => ?_
    refine k1 _ H1 r.1 r.2 a _ _ _ _ _ (da.same S1) ok ma fun H2 S2 => ?_
    refine k2 _ H2 r.2 _ _ _ _ _ _ _ _ ok fun b H3 S3 mb => ?_
    refine k3 _ H3 r.2 a b _ _ _ _ _ _ ok (ma.keep (Keep.same (S2.trans S3)) ok) mb fun H4 S4 => ?_
    exact ⟨_, _, _, _, rfl, SG.trans (S1.trans (S2.trans (S3.trans S4)))⟩
  · obtain ⟨v4, v5, v6, v7, rfl, SG⟩ := h
    exact k G v4 v5 v6 v7 SG
theorem part2 (hr : Room 10 (XL w K mg base f cdv A outer s HS E).A) (GY : Fx PySem.Challenge.pw_namechains_k79_statements_written_and_re w K mg base CX0 9 "_law_days_right" aS eS ["_law_plain"] (spDR K)) :
    ∃ t, PS (XL w K mg base f cdv A outer s HS E) (fA 2) t ∧ ∀ (D : Ends) (H : Hp) (L : Addr) (xs : List V) (v : V) (pl : Plain) (u0 u1 u2 : Option V) (us : List (Option V)), H L = some (.lst xs) → atI xs 0 = some v → Da K H v pl.d → pl.Ok →
      (∀ (H' : Hp), Same H H' → D.nx (u0 :: u1 :: u2 :: some (.ref L) :: us) H') → t D (u0 :: u1 :: u2 :: some (.ref L) :: us) H := by
  refine ⟨_, ps_if (pt_not (pt_val (pe_call GY.ok (hr.mono (by decide)) (by rfl) GY.m GY.k GY.b .nil pass0 (pa_cons (pe_ix ix_list (pv 3) pe_int (fun _ _ => rfl)) pa_nil)))) (pss_one (ps_ret pe_bl)) pss_nil, ?_⟩
  intro D H L xs v pl u0 u1 u2 us gL hv da ok k
  refine ⟨_, rfl, L, xs, 0, v, rfl, rfl, SqL.of gL, hv, v, pl, rfl, da, ok, fun H1 S1 => ?_⟩
  exact ⟨_, rfl, iteF (k H1 S1)⟩
theorem part3 (hr : Room 10 (XL w K mg base f cdv A outer s HS E).A) (GM : Fx PySem.Challenge.pw_namechains_k79_statements_written_and_re w K mg base CX0 8 "_law_made" aM eM ["_law_plain"] (spMadeL K CN CL)) :
    ∃ t, PS (XL w K mg base f cdv A outer s HS E) (fA 3) t ∧ ∀ (D : Ends) (H : Hp) (L : Addr) (xs : List V) (v z : V) (pl ql : Plain) (u0 u1 u2 u4 u5 u6 u7 u8 : Option V) (us : List (Option V)), H L = some (.lst xs) → atI xs 0 = some v → atI xs (-1) = some z → Da K H v pl.d → pl.Ok → Da K H z ql.d → ql.Ok →
      (∀ (a b : Addr) (H' : Hp), Same H H' → MadeAt K H' CN CL a pl → MadeAt K H' CN CL b ql → D.nx (u0 :: u1 :: u2 :: some (.ref L) :: u4 :: some (.ref a) :: u6 :: u7 :: some (.ref b) :: us) H') → t D (u0 :: u1 :: u2 :: some (.ref L) :: u4 :: u5 :: u6 :: u7 :: u8 :: us) H := by
  refine ⟨_, ps_par (i := 5) (j := 8) (by rfl) scLaw.nd rfl rfl (by decide) rfl rfl (pa_cons (pe_call GM.ok (hr.mono (by decide)) (by rfl) GM.m GM.k GM.b .nil pass0 (pa_cons (pe_ix ix_list (pv 3) pe_int (fun _ _ => rfl)) pa_nil)) (pa_cons (pe_call GM.ok (hr.mono (by decide)) (by rfl) GM.m GM.k GM.b .nil pass0 (pa_cons (pe_ix ix_list (pv 3) (pe_un un_neg pe_int) (fun _ _ => rfl)) pa_nil)) pa_nil)) (by rfl), ?_⟩
  intro D H L xs v z pl ql u0 u1 u2 u4 u5 u6 u7 u8 us gL hv hz da ok da2 ok2 k
  refine ⟨_, rfl, L, xs, 0, v, rfl, rfl, SqL.of gL, hv, v, pl, rfl, da, ok, fun a H1 S1 ma => ?_⟩
  refine ⟨_, rfl, _, rfl, L, xs, -1, z, rfl, rfl, SqL.of (S1 _ _ gL), hz, z, ql, rfl, da2.same S1, ok2, fun b H2 S2 mb => ?_⟩
  exact ⟨_, _, rfl, k a b H2 (S1.trans S2) (ma.keep (Keep.same S2) ok) mb⟩
theorem part4 (hr : Room 10 (XL w K mg base f cdv A outer s HS E).A) (Z : Fc PySem.Challenge.pw_namechains_k79_statements_written_and_re w K mg base CN CL CS) (S : StEq PySem.Challenge.pw_namechains_k79_statements_written_and_re w K mg base CN CL gN gL eN eL) :
    ∃ t, PS (XL w K mg base f cdv A outer s HS E) (fA 4) t ∧ ∀ (D : Ends) (H : Hp) (a b : Addr) (pl ql : Plain) (u0 u1 u2 u3 u4 u6 u7 : Option V) (us : List (Option V)), pl.Ok → ql.Ok → MadeAt K H CN CL a pl → MadeAt K H CN CL b ql →
      D.nx (u0 :: u1 :: u2 :: u3 :: u4 :: some (.ref a) :: u6 :: u7 :: some (.ref b) :: us) H → t D (u0 :: u1 :: u2 :: u3 :: u4 :: some (.ref a) :: u6 :: u7 :: some (.ref b) :: us) H := by
  refine ⟨_, ps_if (PW.pt (pw_or (pt_cmpR op_ne (pe_cmpR (op_alt (op_eqO S.oN S.eN S.bN (hr.mono (by decide))) (op_eqO S.oL S.eL S.bL (hr.mono (by decide)))) (pv 5) (pv 8) (nomark _)) (pe_cmpR op_eq (pe_txt Z hr (pv 5) rfl) (pe_txt Z hr (pv 8) rfl) (nomark _)) (nomark _))
      (pw_or1 (pt_cmpR op_ne (pe_cmpR (op_alt (op_neO S.oN S.eN S.bN (hr.mono (by decide))) (op_neO S.oL S.eL S.bL (hr.mono (by decide)))) (pv 5) (pv 8) (nomark _)) (pe_cmpR op_ne (pe_txt Z hr (pv 5) rfl) (pe_txt Z hr (pv 8) rfl) (nomark _)) (nomark _))))) (pss_one (ps_ret pe_bl)) pss_nil, ?_⟩
  intro D H a b pl ql u0 u1 u2 u3 u4 u6 u7 us ok ok2 ma mb k
  have e : decide (V.str pl.text = V.str ql.text) = same? pl ql := by
    by_cases h : pl = ql
    · rw [same_yes h, h, decide_eq_true rfl]
    · rw [same_no h]
      exact decide_eq_false fun z => h (text_inj ok ok2 (V.str.inj z))
  have e1 : (!decide (V.bl (if false = true then !same? pl ql else same? pl ql) = V.bl (same? pl ql))) = false := by
    rw [if_neg Bool.false_ne_true, decide_eq_true rfl]
    rfl
  have e2 : (!decide (V.bl (if true = true then !same? pl ql else same? pl ql) = V.bl (!same? pl ql))) = false := by
    rw [if_pos rfl, decide_eq_true rfl]
    rfl
  refine ⟨_, rfl, _, rfl, ?_⟩
  refine eq_read S false ma mb ok ok2 ?_
  refine txt_at (i := 5) ma rfl ?_
  refine txt_at (i := 8) mb rfl ?_
  refine ⟨rfl, ?_⟩
  rw [e]
  refine ⟨rfl, ?_⟩
  rw [e1]
  refine ⟨_, rfl, iteF ?_⟩
  refine ⟨_, rfl, _, rfl, ?_⟩
  refine eq_read S true ma mb ok ok2 ?_
  refine txt_at (i := 5) ma rfl ?_
  refine txt_at (i := 8) mb rfl ?_
  refine ⟨rfl, ?_⟩
  rw [e]
  refine ⟨rfl, ?_⟩
  rw [e2]
  exact ⟨_, rfl, iteF k⟩
end
end LW

/-! Several except clauses that name what they caught; isinstance of a caught error that bears fields. -/
namespace G
open PySem PySem.Spec PyProof.Rows L2
abbrev Suit := Addr → Value → Option Addr → TS
/-- slot i forgets its value -/
def emptied (i : Nat) (D : Ends) : Ends := { nx := fun τ G => D.nx (τ.set i none) G, rt := D.rt, bk := fun τ G => D.bk (τ.set i none) G, ct := fun τ G => D.ct (τ.set i none) G }
/-- what clauses «except c as n» wish of what the body raises; each with its class, the slot of its name and its suite's reading -/
def wClauses (K : PySem.W.Frag) (Wo : WX) (D : Ends) : List (Value × Nat × Suit) → WX
  | [] => Wo
  | (c, i, ts) :: more => fun k d τ G => ∃ yes, PySem.W.exmOne K k c = some yes ∧ (yes = true → ∀ a, G a = none → ts a k d (emptied i D) (τ.set i (some (.ref a))) G) ∧ (yes = false → wClauses K Wo D more k d τ G)
inductive Clauses (X : Cx) : List ExceptHandler → List (Value × Nat × Suit) → Prop
  | done : Clauses X [] []
  | next {x n : Str} {c : Value} {i : Nat} {ts : Suit} {s0 : Stmt} {suite : List Stmt} {p1 p2 : Pos} {hs : List ExceptHandler} {l : List (Value × Nat × Suit)} (nm : Names X x c) (at_ : X.N[i]? = some n) (lc : X.env.kindOf n = some .local)
      (body : ∀ (a : Addr) (oe : Obj) (k : Value) (d : Option Addr) (pn : List (Addr × Obj)), Zc k d oe → (∃ vs, oe.data = .fields vs) → PSs (X.suite a ((a, oe) :: pn)) (s0 :: suite) (ts a k d)) (more : Clauses X hs l) :
      Clauses X (.ExceptHandler (some (.Name x p1)) (some n) (s0 :: suite) p2 :: hs) ((c, i, ts) :: l)
section
variable {X : Cx} {pins : List (Addr × Obj)} {D : Ends} {Wo : WX}
/-- an exception flies behind the body: the state without it is I's, the ground is B -/
theorem clauses_run (ok : X.Ok) (hs : X.stack = X.env :: X.outer) (hf : X.env.frame = some X.env.locals) (nd : X.N.Nodup) (tk : Takes X Wo) {sI : Shared} {τ : L2.St} {G : Hp} {B : Heap} {a : Addr} {k : Value} {d : Option Addr} {os' : OsState}
    (I : Inv X pins τ G sI) (nb : ∀ b o, sI.heap.get? b = some o → b ∉ frs X.stack → B.get? b = some o) (na : G a = none) (nL : a ≠ X.env.locals) (nF : a ∉ X.fs) :
    ∀ {cl : List ExceptHandler} {l : List (Value × Nat × Suit)}, Clauses X cl l → ∀ s : Shared, HandSPX.FlyingZ B (X.env :: X.outer) a (Zc k d) s.heap → sI.heap.UpToSlots s.heap → s.os = sI.os → AllBare s.gens → wClauses X.K Wo D l k d τ G →
      wpAny (model X.prog X.w) X.A (handleBy (.ref a) X.env cl) (SP X pins D) X.xe s := by
  intro cl l C
  induction C with
  | done =>
    intro s fl up os bare w
    refine wpAny_handleBy_nil ?_
    have fl2 := fl
    obtain ⟨_, _, _, oe, vs, T, _, _, ge, _, dd, v1, _⟩ := fl2
    have go : wpAny (model X.prog X.w) X.A (setFlight (.ref a) X.env.frame) (fun _ z => wpAny (model X.prog X.w) X.A (throw (.ref a) : Sem Flow) (SP X pins D) X.xe z) X.xe s := by
      rw [hf]
      refine HandSPX.setFlight_upZ fl fun h4 held up4 => ?_
      refine wpAny_throw (tk _ _ ⟨a, B, sI, pins, τ, G, k, d, rfl, I, nb, up.trans up4, ?_, na, os, bare, w⟩)
      rw [hs]
      exact Or.inr (Or.inr held)
    unfold PySem.passOn
    refine wpAny_bind (wpAny_field ge dd v1 ?_)
    have nn : ¬ ((Value.ref T == Value.none) = true) := by simp
    rw [if_neg nn]
    first
      | exact wpAny_bind (wpAny_pure (wpAny_bind go))
      | exact wpAny_bind go
  | @next x n c i ts s0 suite p1 p2 cl2 l2 nm at_ lc body more ih =>
    intro s fl up os bare w
    obtain ⟨yes, hy, hyes, hno⟩ := w
    obtain ⟨oe, vs, ge, hz, dd⟩ := fl.there
    have J : Inv X pins τ G s := I.landed nb fl.1 up os bare
    have S := J.suite ge dd na nL nF
    have kind : PySem.W.Looks (model X.prog X.w) s.heap (typeOf (.ref a)) k := fun A Q E z kk q => wpAny_typeOf_ref (kk _ _ ge) (by rw [hz.1]; exact q)
    have fits := PySem.W.exm_one (M := model X.prog X.w) J.kIn kind hy
    refine wpAny_handleBy_cons (codeAny_handlers_test ?_) (fun z => by cases z)
    have name : ∀ {Q : Value → Shared → Prop} {E : Value → Shared → Prop}, Q c s → wpAny (model X.prog X.w) (X.A.mark (some (.ref a))) (eval (.Name x p1) X.env) Q E s := fun {Q E} q => by
      obtain ⟨g, nd', m⟩ := nm
      cases m with
      | inl m => exact ld_glob (X := X.suite a ((a, oe) :: (X.pn ++ pins))) S g m q nd'
      | inr m => exact ld_blt (X := X.suite a ((a, oe) :: (X.pn ++ pins))) S g m.1 m.2.1 q m.2.2 nd'
    refine name (fits.here ?_)
    cases yes with
    | false => exact ih s fl up os bare (hno rfl)
    | true =>
      refine codeAny_handlers_suite_as (HandSPX.lands_againZ fl fun h4 fl4 up4 => ?_)
      obtain ⟨oe4, vs4, ge4, hz4, dd4⟩ := fl4.there
      have J4 : Inv X pins τ G { s with heap := h4 } := I.landed nb fl4.1 (up.trans up4) os bare
      have S4 := J4.suite ge4 dd4 na nL nF
      refine store_ok (X := X.suite a ((a, oe4) :: (X.pn ++ pins))) (v := .ref a) S4 nd at_ (.inl lc) rfl (fun s5 S5 => ?_) (.inr lc)
      refine wpAny_mono ((body a oe4 k d (X.pn ++ pins) hz4 ⟨_, dd4⟩).run [] s5 _ G _ S5 (hyes rfl a na)) (fun fw s6 q => ?_) (fun _ _ z => z.elim)
      have out : ∀ {σ6 : L2.St} {H6 : Hp} {R : Shared → Prop}, Inv (X.suite a ((a, oe4) :: (X.pn ++ pins))) [] σ6 H6 s6 → (∀ z, Inv X pins (σ6.set i none) H6 z → R z) →
          wpAny (model X.prog X.w) X.A (do bindName X.env n .none; unbindBehindTheSuite X.env n p2) (fun _ z => R z) X.xe s6 := fun I6 r => gone_ok (I6.unsuite ok) nd at_ lc r
      match fw, q with
      | .next, ⟨_, _, I6, q6⟩ => exact out I6 fun _ I7 => ⟨_, _, I7, q6⟩
      | .brk, ⟨_, _, I6, q6⟩ => exact out I6 fun _ I7 => ⟨_, _, I7, q6⟩
      | .cont, ⟨_, _, I6, q6⟩ => exact out I6 fun _ I7 => ⟨_, _, I7, q6⟩
      | .ret u, ⟨_, _, _, I6, r6, q6⟩ => exact out I6 fun _ I7 => ⟨_, _, _, I7, r6, q6⟩
theorem ps_clauses {body : List Stmt} {h0 : ExceptHandler} {cl : List ExceptHandler} {l : List (Value × Nat × Suit)} {pos : Pos} {tb : WX → TS} (hs : X.stack = X.env :: X.outer) (hf : X.env.frame = some X.env.locals) (nd : X.N.Nodup) (tk : Takes X Wo)
    (hb : ∀ (W : WX) (pn : List (Addr × Obj)) (xe : Value → Shared → Prop), Takes (X.tr pn xe) W → PassesOwn (model X.prog X.w) X.A X.env xe → PSs (X.tr pn xe) body (tb W)) (C : Clauses X (h0 :: cl) l) :
    PS X (.Try body (h0 :: cl) [] [] pos) (fun D σ H => tb (wClauses X.K Wo D l) D σ H) := by
  refine ⟨fun pins s σ H D I h => ?_⟩
  have ok := I.ok
  have hfr : X.A.frames = some (X.env :: X.outer) := by rw [ok.frames, hs]
  let xe2 : Value → Shared → Prop := fun e z => wpAny (model X.prog X.w) X.A (noteFrame e X.env) (fun _ z2 => wpAny (model X.prog X.w) X.A (setFlight e none) (fun _ z3 =>
    wpAny (model X.prog X.w) X.A (handleBy e X.env (h0 :: cl)) (SP X pins D) X.xe z3) X.xe z2) X.xe z
  have tk2 : Takes (X.tr (X.pn ++ pins) xe2) (wClauses X.K Wo D l) := by
    rintro u z ⟨a, B, sI, pins', τ, G, k, d, rfl, J', nb, up, sky, na, os, bare, w⟩
    have J : Inv X pins τ G sI := J'.ofTry ok
    have sky2 : Sky B (X.env :: X.outer) a (Zc k d) X.env.locals z.heap := by rw [← hs]; exact sky
    show wpAny (model X.prog X.w) X.A (noteFrame (.ref a) X.env) _ X.xe z
    refine Sky.land Zc.steady hfr hf sky2 fun h3 fl up3 => ?_
    obtain ⟨oe, vs, ge, _, dd⟩ := fl.there
    have away : a ∉ frs (X.env :: X.outer) := fun m => by
      obtain ⟨_, o2, g2, n2⟩ := fl.2.2.1.mem m
      rw [ge] at g2
      cases g2
      exact n2 _ dd
    have nL : a ≠ X.env.locals := fun q => away (List.mem_filterMap.mpr ⟨X.env, List.mem_cons_self, by rw [hf, q]⟩)
    have nF : a ∉ X.fs := fun m => away (by
      obtain ⟨e, he, q⟩ := List.mem_filterMap.mp m
      exact List.mem_filterMap.mpr ⟨e, List.mem_cons_of_mem _ he, q⟩)
    exact clauses_run (os' := z.os) ok hs hf nd tk J nb na nL nF C { z with heap := h3 } fl (up.trans up3) os bare w
  refine wpAny_Try_except (wpAny_mono ((hb (wClauses X.K Wo D l) (X.pn ++ pins) xe2 tk2 PassesOwn.looking).run [] s σ H D (I.toTry _) h) (fun fw s1 q => ?_) fun e z q => q)
  match fw, q with
  | .next, ⟨_, _, J, q⟩ => exact wpAny_execs_nil ⟨_, _, J.ofTry ok, q⟩
  | .brk, ⟨_, _, J, q⟩ => exact ⟨_, _, J.ofTry ok, q⟩
  | .cont, ⟨_, _, J, q⟩ => exact ⟨_, _, J.ofTry ok, q⟩
  | .ret u, ⟨_, _, _, J, r, q⟩ => exact ⟨_, _, _, J.ofTry ok, r, q⟩
end
/-- isinstance(e, c) in the suite, e's class D, its own dict at dd -/
def rIsX (K : PySem.W.Frag) (D a dd : Addr) : List V → Hp → VK → Prop := fun xs H Q => ∃ (c : V) (cv : Value) (b : Bool) (fs : List (Str × V)), xs = [.ref a, c] ∧ H dd = some (.xd fs) ∧ (∀ u, RelV c u → u = cv) ∧ PySem.W.kitOne K (.ref D) cv = some b ∧ Q (.bl b) H
theorem call_isX {X : Cx} {a D dd : Addr} {oe : Obj} {pn : List (Addr × Obj)} (C : ExcC X.K D) (hz : Zc (.ref D) (some dd) oe) (hf : ∃ vs, oe.data = .fields vs) : CallR (X.suite a ((a, oe) :: pn)) (.builtin "isinstance") (rIsX X.K D a dd) := by
  intro pins s σ H xs us Q I r h
  obtain ⟨c, cv, b, fs, rfl, hx, hcv, e, q⟩ := h
  cases r with
  | cons rx rr =>
  cases rr with
  | cons rt rr =>
  cases rr
  cases rx
  obtain rfl := hcv _ rt
  have here := (I.pin (a, oe) (List.mem_append_left _ List.mem_cons_self)).1
  obtain ⟨vs, hv⟩ := hf
  have ok : ObjOk X.prog X.w H s.heap dd (.xd fs) := I.hok dd _ hx
  obtain ⟨m, hns, _⟩ := ok
  obtain ⟨od, ho, _⟩ := lookIn_ns hns
  have J : PySem.W.InstAt s.heap a oe D (some od) := ⟨here, hz.1, by unfold PySem.W.notCls; rw [hv] <;> rfl, by rw [hz.2]; exact ho⟩
  have cl : (PySem.W.clsIn X.K D).isSome = true := by
    obtain ⟨cd, hc, _⟩ := PySem.W.any_some C.hd
    rw [hc]
    rfl
  exact PySem.W.kia_one (PySem.W.kitx_exc cl C.hg C.hk C.hs C.ha C.hn C.ht C.hm) I.kIn J e (fun z => nomatch z) fun tk => ⟨.bl b, H, I.kept (t' := tk) fun _ _ z => z, rfl, q⟩
end G

/-! The law: chains of all lengths; a text with one name too many. -/
namespace LW
open PySem L2 G TL
/-- what the written part says of InvalidText in a clause -/
structure CaughtT (K : PySem.W.Frag) (C : Addr) : Prop where
  xf : XfC K C
  ex : ExcC K C
  nf : PySem.W.findIn K (.ref C) "index" = some none
  le : PySem.W.kitOne K (.ref C) (.type "ValueError") = some true
def tsT (K : PySem.W.Frag) (C : Addr) : Suit := fun a cls d D σ H => ∃ (dd : Addr), cls = .ref C ∧ d = some dd ∧ (∃ τ : L2.St, σ = τ.set 11 (some (.ref a))) ∧ H dd = some (.xd [("index", .int 8)]) ∧ CaughtT K C ∧ D.rt (.bl true) H
abbrev sFor : Stmt := LW.nth (defBody sLaw) 2
abbrev sTry : Stmt := LW.nth (defBody sLaw) 3
abbrev aS : Str := Str.ofString "a"
abbrev bS : Str := Str.ofString "b"
abbrev nW (i : Nat) : List Str := aS :: List.replicate i bS
theorem five_ok {i : Nat} (h : i < 5) : (Plain.nam bS aS (nW i) 0 (10 ^ 30)).Ok := by
  refine ⟨by decide +kernel, by decide +kernel, ?_, ⟨by omega, by omega, by omega⟩⟩
  match i, h with
  | 0, _ => decide +kernel
  | 1, _ => decide +kernel
  | 2, _ => decide +kernel
  | 3, _ => decide +kernel
  | 4, _ => decide +kernel
theorem five_text {i : Nat} (h : i < 5) : Txt.join (Str.ofString " ") (bS :: aS :: Str.ofString "=" :: nW i) = (Plain.nam bS aS (nW i) 0 (10 ^ 30)).text := by
  rw [text_pcs (five_ok h)]
  have e : (Plain.nam bS aS (nW i) 0 (10 ^ 30)).pcs = bS :: aS :: Str.ofString "=" :: (nW i ++ daysPc 0 (10 ^ 30)) := rfl
  have e2 : daysPc 0 (10 ^ 30) = [] := if_pos ⟨rfl, rfl⟩
  rw [e, e2, List.append_nil]
abbrev lT : Str := Str.ofString "b a = a b b b b b"
theorem long_ok : Long bS aS (nW 4) [bS] := by
  have a1 : isWordD (.str aS) = true := by decide +kernel
  have b1 : isWordD (.str bS) = true := by decide +kernel
  refine ⟨b1, a1, rfl, fun x hx => ?_, by simp, fun x hx => ?_, fun x hx => ?_, by show 1 ≤ 50; decide⟩
  · have hx : x ∈ [aS, bS, bS, bS, bS] := hx
    simp only [List.mem_cons, List.not_mem_nil, or_false] at hx
    rcases hx with rfl | rfl | rfl | rfl | rfl
    · exact a1
    all_goals exact b1
  · cases hx
    decide +kernel
  · rw [List.mem_singleton.mp hx]
    exact pc_word b1
theorem long_text : lT = Txt.join (Str.ofString " ") (longPcs bS aS (nW 4) [bS]) := by decide +kernel
section
variable {w : World} {K : PySem.W.Frag} {mg : Str → Option Value} {base : Heap} {f : Addr} {cdv : Value} {A : Around} {outer : List Env} {s : Shared} {HS : Hp} {E : XK}
variable {CN CL CS CE aR : Addr} {eR : FuncData}
theorem part5 (hg : (XL w K mg base f cdv A outer s HS E).A.guards = some []) (hr : Room 10 (XL w K mg base f cdv A outer s HS E).A) (ra : mg "range" = none) (rep : mg "repr" = none) (Z : Fc PySem.Challenge.pw_namechains_k79_statements_written_and_re w K mg base CN CL CS)
    (GR : Fx PySem.Challenge.pw_namechains_k79_statements_written_and_re w K mg base (L2.CX PySem.Challenge.pw_namechains_k79_statements_written_and_re w) 9 "read_statement" aR eR ["text"] (spReadS K CN CL CE)) :
    ∃ t, PS (XL w K mg base f cdv A outer s HS E) sFor t ∧ ∀ (D : Ends) (H : Hp) (u0 u1 u2 u3 u4 u5 u6 u7 u8 u9 u10 u11 : Option V),
      (∀ (H' : Hp) (v9 v10 : Option V), D.nx [u0, u1, u2, u3, u4, u5, u6, u7, u8, v9, v10, u11] H') → t D [u0, u1, u2, u3, u4, u5, u6, u7, u8, u9, u10, u11] H := by
  obtain ⟨_, _, _, nh⟩ := Z.nh
  have nc := Z.nc
  have hu : (XL w K mg base f cdv A outer s HS E).A.units + 64 < cLine := by have := hr.un; omega
  have szl : sizeLine = 16777216 := sizeLine_eq
  have nd := scLaw.nd
  have passL : Passes (L2.CX PySem.Challenge.pw_namechains_k79_statements_written_and_re w) (XL w K mg base f cdv A outer s HS E) E0 := passes_call LamX.takes0 fun _ _ _ _ h => h
  refine ⟨_, ps_for PassesOwn.never rfl (pi_range1 (by rfl) ra (pa_cons pe_int pa_nil)) (pg_name (i := 9) nd rfl (Or.inl rfl))
    (pss_cons (ps_set (i := 10) nd rfl (Or.inl rfl) (pe_op op_catT (pe_tup (pa_cons pe_str pa_nil)) (pe_op op_mulT (pe_tup (pa_cons pe_str pa_nil)) (pv 9))))
    (pss_one (ps_if (pt_cmpR op_ne (pe_callB (call_repr hg hu) (by rfl) rep (by decide +kernel) (pa_cons (pe_prop (pe_call GR.ok (hr.mono (by decide)) (by rfl) GR.m GR.k GR.b .nil passL (pa_cons (pe_join pe_str (pe_op op_catT (pe_tup (pa_cons pe_str (pa_cons pe_str (pa_cons pe_str pa_nil)))) (pv 10))) pa_nil)) nc.cl nh.of nh.ok (hr.mono (by decide)) nh.b .nil pass0 rfl) pa_nil))
      (pe_callB (call_repr hg hu) (by rfl) rep (by decide +kernel) (pa_cons (pv 10) pa_nil)) (nomark _)) (pss_one (ps_ret pe_bl)) pss_nil))), ?_⟩
  intro D H u0 u1 u2 u3 u4 u5 u6 u7 u8 u9 u10 u11 k
  refine ⟨5, rfl, by decide, by decide, ?_⟩
  refine for_range (n := 5) (fun i σ G => ∃ v9 v10 : Option V, σ = [u0, u1, u2, u3, u4, u5, u6, u7, u8, v9, v10, u11]) ⟨_, _, rfl⟩ (fun i σ G hi h => ?_) (fun σ G h => ?_)
  · obtain ⟨v9, v10, rfl⟩ := h
    have hi : i < 5 := hi
    have ok := five_ok hi
    refine setIt ?_
    try dsimp only
    refine ⟨by show 1 ≤ sizeLine; omega, fun r1 hr1 => ?_⟩
    have g1 : SqT K (upd G r1 (.tup [V.str aS])) r1 [V.str aS] := SqT.of upd_same
    show _
    generalize upd G r1 (.tup [V.str aS]) = G1 at g1 ⊢
    refine ⟨by show 1 ≤ sizeLine; omega, fun r2 hr2 => ?_⟩
    have S2 : Same G1 (upd G1 r2 (.tup [V.str bS])) := same_new hr2
    have g2 : SqT K (upd G1 r2 (.tup [V.str bS])) r2 [V.str bS] := SqT.of upd_same
    have g12 := sqT_same S2 g1
    show _
    generalize upd G1 r2 (.tup [V.str bS]) = G2 at g2 g12 ⊢
    have fl : ∀ n : Nat, (List.replicate n [V.str bS]).flatten = (List.replicate n bS).map V.str := fun n => by
      induction n with
      | zero => rfl
      | succ n ih =>
        rw [List.replicate_succ, List.flatten_cons, ih, List.replicate_succ]
        rfl
    -- what stands behind the product
    have key : ∀ (m : Addr) (G3 : Hp), Same G2 G3 → SqT K G3 m ((List.replicate i bS).map V.str) → ∀ {R : VK}, (∀ (l : Addr) (G4 : Hp), SqT K G4 l ((nW i).map V.str) → R (.ref l) G4) → rCatT K (.ref r1) (.ref m) G3 R := by
      intro m G3 S3 g3 R q
      refine ⟨r1, m, [V.str aS], _, rfl, rfl, sqT_same S3 g12, g3, by simp, by rw [List.length_map, List.length_replicate]; simp; omega, fun z => ?_, fun _ p hp => ?_⟩
      · refine q r1 G3 ?_
        have e : List.replicate i bS = [] := List.map_eq_nil_iff.mp z
        show SqT K G3 r1 ((aS :: List.replicate i bS).map V.str)
        rw [e]
        exact sqT_same S3 g12
      · exact q p _ (SqT.of upd_same)
    have prod : ∀ {R : VK}, (∀ (m : Addr) (G3 : Hp), Same G2 G3 → SqT K G3 m ((List.replicate i bS).map V.str) → R (.ref m) G3) →
        rMulT K (.ref r2) (.int ((0 : Int) + (i : Nat))) G2 R := by
      intro R q
      refine ⟨r2, ((0 : Int) + (i : Nat)), [V.str bS], rfl, rfl, g2, by simp, by omega, by omega, by show 1 ≤ 1000; decide, fun e1 => q r2 G2 (Same.refl G2) ?_, fun _ p hp => q p _ (same_new hp) (SqT.of ?_)⟩
      · have e2 : i = 1 := by omega
        rw [e2]
        exact g2
      · have e3 : ((0 : Int) + (i : Nat)).toNat = i := by omega
        rw [upd_same, e3, fl]
    refine ⟨_, rfl, prod fun m G3 S3 g3 => ?_⟩
    refine key m G3 S3 g3 fun l G4 g4 => ?_
    refine setIt ?_
    try dsimp only
    refine ⟨⟨_, rfl⟩, by show 3 ≤ sizeLine; omega, fun r5 hr5 => ?_⟩
    have S5 : Same G4 (upd G4 r5 (.tup [V.str bS, V.str aS, V.str (Str.ofString "=")])) := same_new hr5
    have g5 : SqT K (upd G4 r5 (.tup [V.str bS, V.str aS, V.str (Str.ofString "=")])) r5 [V.str bS, V.str aS, V.str (Str.ofString "=")] := SqT.of upd_same
    have g45 := sqT_same S5 g4
    show _
    generalize upd G4 r5 (.tup [V.str bS, V.str aS, V.str (Str.ofString "=")]) = G5 at g5 g45 ⊢
    refine ⟨_, rfl, r5, l, _, _, rfl, rfl, g5, g45, by simp, by rw [List.length_map]; simp [nW]; omega, fun z => by simp [nW] at z, fun _ r6 hr6 => ?_⟩
    have S6 : Same G5 (upd G5 r6 (.tup ([V.str bS, V.str aS, V.str (Str.ofString "=")] ++ (nW i).map V.str))) := same_new hr6
    have g6 : SqT K (upd G5 r6 (.tup ([V.str bS, V.str aS, V.str (Str.ofString "=")] ++ (nW i).map V.str))) r6 ((bS :: aS :: Str.ofString "=" :: nW i).map V.str) := SqT.of upd_same
    have g46 := sqT_same S6 g45
    show _
    generalize upd G5 r6 (.tup ([V.str bS, V.str aS, V.str (Str.ofString "=")] ++ (nW i).map V.str)) = G6 at g6 g46 ⊢
    refine ⟨_, r6, bS :: aS :: Str.ofString "=" :: nW i, rfl, rfl, .inr g6, ?_, ?_⟩
    · have q : ∀ n : Nat, ((List.replicate n bS).map (·.length)).sum = n := fun n => by
        induction n with
        | zero => rfl
        | succ n ih =>
          rw [List.replicate_succ, List.map_cons, List.sum_cons, ih]
          have : bS.length = 1 := by decide +kernel
          omega
      have l1 : aS.length = 1 := by decide +kernel
      have l2 : bS.length = 1 := by decide +kernel
      have l3 : (Str.ofString "=").length = 1 := by decide +kernel
      have l4 : (Str.ofString " ").length = 1 := by decide +kernel
      simp only [List.map_cons, List.sum_cons, List.length_cons, List.length_replicate, q, l1, l2, l3, l4]
      omega
    refine nilIt ⟨_, rfl, .inl ⟨_, ok, five_text hi, fun x H' S m => ?_⟩⟩
    obtain ⟨dx, q, c, h1, hc, hq⟩ := id m
    refine ⟨x, dx, _, rfl, h1, x, dx, _, _, rfl, h1, lk5, nilIt ?_⟩
    refine (sh_chain ok.2.2.1).repr (.tup hc (daStrs (nW i))) (by decide) (by decide) ?_
    refine ⟨_, rfl, nilIt ?_⟩
    refine (sh_chain ok.2.2.1).repr (.tup (sqT_same S g46) (daStrs (nW i))) (by decide) (by decide) ?_
    refine ⟨rfl, ?_⟩
    rw [decide_eq_true rfl]
    exact ⟨_, rfl, iteF ⟨_, _, rfl⟩⟩
  · obtain ⟨v9, v10, rfl⟩ := h
    exact k _ _ _
theorem suite_T {X : Cx} {a : Addr} {oe : Obj} {k : Value} {d : Option Addr} {pn : List (Addr × Obj)} {jc : Nat} {p1 p2 p3 p4 p5 p6 p7 p8 p9 p10 : Pos}
    (is : X.mg "isinstance" = none) (ve : X.mg "ValueError" = none) (g2 : Gl X "isinstance") (g3 : Gl X "ValueError") (nl : X.N.length = 12) (nm : X.N[11]? = some (Str.ofString "e")) (vis : Vis X.env.scope "e") (hz : Zc k d oe) (hf : ∃ vs, oe.data = .fields vs) :
    PSs (X.suite a ((a, oe) :: pn)) [.Return (some (.BoolOp .And [.Compare (.Attribute (.Name "e" p1) "index" p2) [.Eq] [.Constant (.int 8) jc p3] p4, .Call (.Name "isinstance" p5) [.Name "e" p6, .Name "ValueError" p7] [] p8] p9)) p10] (tsT X.K CE a k d) := by
  refine ⟨fun pins s σ H D I h => ?_⟩
  obtain ⟨dd, rfl, rfl, ⟨τ, eτ⟩, hdd, cC, q⟩ := h
  have e1 : σ[11]? = some (some (V.ref a)) := by
    have l : σ.length = X.N.length := I.len
    rw [eτ, List.length_set, nl] at l
    rw [eτ, List.getElem?_set_self (by omega)]
  have nmS : (X.suite a ((a, oe) :: pn)).N[11]? = some (Str.ofString "e") := nm
  have visS : Vis (X.suite a ((a, oe) :: pn)).env.scope (Str.ofString "e") := vis
  refine (pss_one (ps_ret (pe_and (pe_cmpR op_eq (pe_xf cC.xf cC.nf hz hf (pe_var (i := 11) nmS visS)) pe_int (nomark _))
    (pe_one (pe_callB (call_isX cC.ex hz hf) g2 is (by decide +kernel) (pa_cons (pe_var (i := 11) nmS visS) (pa_cons (pe_bltn (v := .ty "ValueError") g3 ve (by decide +kernel) rfl) pa_nil))))))).run pins s σ H D I ?_
  refine ⟨_, e1, rfl, rfl, dd, _, .int 8, rfl, hdd, by simp [List.lookup], ?_⟩
  refine ⟨rfl, ?_⟩
  rw [decide_eq_true rfl]
  refine ⟨_, rfl, iteT ?_⟩
  exact ⟨_, e1, .ty "ValueError", .type "ValueError", true, _, rfl, hdd, fun u r => r, cC.le, q⟩
end
end LW

/-! The law. -/
namespace LW
open PySem L2 G TL
section
variable {w : World} {K : PySem.W.Frag} {mg : Str → Option Value} {base : Heap} {f : Addr} {cdv : Value} {A : Around} {outer : List Env} {s : Shared} {HS : Hp} {E : XK}
variable {CN CL CS CE aR : Addr} {eR : FuncData}
theorem part6 (hr : Room 10 (XL w K mg base f cdv A outer s HS E).A) (is : mg "isinstance" = none) (ve : mg "ValueError" = none) (gE : mg "InvalidText" = some (.ref CE)) (cE : CaughtT K CE) (ee : PySem.W.exmOne K (.ref CE) (.ref CE) = some true)
    (GR : Fx PySem.Challenge.pw_namechains_k79_statements_written_and_re w K mg base (L2.CX PySem.Challenge.pw_namechains_k79_statements_written_and_re w) 9 "read_statement" aR eR ["text"] (spReadS K CN CL CE)) :
    ∃ t, PS (XL w K mg base f cdv A outer s HS E) sTry t ∧ ∀ (D : Ends) (σ : L2.St) (H : Hp), (∀ (H' : Hp), D.rt (.bl true) H') → t D σ H := by
  refine ⟨_, ps_clauses (X := XL w K mg base f cdv A outer s HS E) (Wo := fun _ _ _ _ => False)
      (tb := fun W => tDrop (tCall (spReadS K CN CL CE) [] (fun cls d H' => ∀ σ', W cls d σ' H') (tCons (tC (.str lT)) tNil)))
      rfl rfl scLaw.nd LamX.takes0
      (fun W pn xe tk _ => pss_one (ps_expr (pe_call GR.ok (hr.mono (by decide)) (by rfl) GR.m GR.k GR.b .nil (passes_call tk fun _ _ _ _ h => h _) (pa_cons pe_str pa_nil))))
      (.next (c := .ref CE) (i := 11) (ts := tsT K CE) ⟨rfl, by decide +kernel, .inl gE⟩ rfl rfl (fun a oe k d pn hz hf => suite_T (X := XL w K mg base f cdv A outer s HS E) is ve rfl rfl rfl rfl (.inl rfl) hz hf) .done), ?_⟩
  intro D σ H k
  dsimp only [tDrop, tCall, tCons, tNil, tC]
  refine ⟨_, rfl, .inr ⟨bS, aS, nW 4, [bS], long_ok, long_text, ?_⟩⟩
  intro dd H' S n e σ'
  exact ⟨true, ee, fun _ a na => ⟨dd, rfl, rfl, ⟨σ', rfl⟩, e, cE, k _⟩, fun z => by cases z⟩
end
def spLaw (K : PySem.W.Frag) : Sp := fun vs H Q _ => ∃ (a : Addr) (ns : List Int), vs = [.ref a] ∧ SqL K H a (ns.map V.int) ∧ ns.length ≤ 63 ∧ ∀ H', Q (.bl true) H'
section
variable {w : World} {K : PySem.W.Frag} {mg : Str → Option Value} {f : Addr} {fd : FuncData}
variable {CN CL CS CE aK aM aT aP aF aD aR aS gN gL : Addr} {eK eM eT eP eF eD eR eS eN eL : FuncData}
theorem run_law (F : Fun K "law" "law" sLaw f fd) (T : Bt mg) (ra : mg "range" = none) (mi : mg "min" = none) (rep : mg "repr" = none) (is : mg "isinstance" = none) (ve : mg "ValueError" = none) (sys : sysB K = true)
    (GK : ∀ base : Heap, Fx PySem.Challenge.pw_namechains_k79_statements_written_and_re w K mg base CX0 1 "_law_pen" aK eK ["_law_script"] (spPen K)) (GP : ∀ base : Heap, Fx PySem.Challenge.pw_namechains_k79_statements_written_and_re w K mg base CX0 7 "_law_statement_pool" aP eP ["_law_pen_here", "_law_many", "_law_top"] (spPool K))
    (GM : ∀ base : Heap, Fx PySem.Challenge.pw_namechains_k79_statements_written_and_re w K mg base CX0 8 "_law_made" aM eM ["_law_plain"] (spMadeL K CN CL)) (GT : ∀ base : Heap, Fx PySem.Challenge.pw_namechains_k79_statements_written_and_re w K mg base CX0 1 "_law_text" aT eT ["_law_plain"] (spTextL K))
    (GF : ∀ base : Heap, Fx PySem.Challenge.pw_namechains_k79_statements_written_and_re w K mg base CX0 3 "_law_facts" aF eF ["_law_one"] (spFacts K CN CL)) (GD : ∀ base : Heap, Fx PySem.Challenge.pw_namechains_k79_statements_written_and_re w K mg base CX0 1 "_law_due_facts" aD eD ["_law_plain"] (spDueF K))
    (GR : ∀ base : Heap, Fx PySem.Challenge.pw_namechains_k79_statements_written_and_re w K mg base (L2.CX PySem.Challenge.pw_namechains_k79_statements_written_and_re w) 9 "read_statement" aR eR ["text"] (spReadS K CN CL CE))
    (kR : ∀ (s : Shared) (ws : List Value), K.In s.heap → ws.length = ([("text" : Str)] : List Str).length → BindsTo s eR ⟨[], ([("text" : Str)] : List Str).zip ws⟩ (([("text" : Str)] : List Str).zip (id ws)))
    (GY : ∀ base : Heap, Fx PySem.Challenge.pw_namechains_k79_statements_written_and_re w K mg base CX0 9 "_law_days_right" aS eS ["_law_plain"] (spDR K)) (Z : ∀ base : Heap, Fc PySem.Challenge.pw_namechains_k79_statements_written_and_re w K mg base CN CL CS) (S : ∀ base : Heap, StEq PySem.Challenge.pw_namechains_k79_statements_written_and_re w K mg base CN CL gN gL eN eL)
    (gE : mg "InvalidText" = some (.ref CE)) (cE : CaughtT K CE) (ee : PySem.W.exmOne K (.ref CE) (.ref CE) = some true) :
    RunA PySem.Challenge.pw_namechains_k79_statements_written_and_re w K mg callerA f fd ["_law_script"] (spLaw K) := by
  refine runA_of (k := 10) F scLaw (fun vs H Q E h => ?_) ⟨rfl, by decide, by decide⟩ (fun base cdv outer s H vs Q E kb nb hr h => ?_)
  · obtain ⟨a, ns, rfl, _⟩ := h
    rfl
  · obtain ⟨a, ns, rfl, hS, few, q⟩ := h
    have hr1 : Room 1 _ := hr.mono (by decide)
    have hg : (callerA.deeper (PyProof.Rows.envOfC "law" (defScope sLaw) s.heap.objs.size f cdv)).guards = some [] := rfl
    obtain ⟨t0, p0, k0⟩ := part0 (f := f) (cdv := cdv) (A := callerA) (outer := outer) (s := s) (HS := H) (E := E) hr (GP base)
    obtain ⟨t1, p1, k1⟩ := part1 (f := f) (cdv := cdv) (A := callerA) (outer := outer) (s := s) (HS := H) (E := E) hg hr sys rep (Z base) (S base) (GM base) (GT base) (GF base) (GD base) (GR base) kR
    obtain ⟨t2, p2, k2⟩ := part2 (f := f) (cdv := cdv) (A := callerA) (outer := outer) (s := s) (HS := H) (E := E) hr (GY base)
    obtain ⟨t3, p3, k3⟩ := part3 (f := f) (cdv := cdv) (A := callerA) (outer := outer) (s := s) (HS := H) (E := E) hr (GM base)
    obtain ⟨t4, p4, k4⟩ := part4 (f := f) (cdv := cdv) (A := callerA) (outer := outer) (s := s) (HS := H) (E := E) hr (Z base) (S base)
    obtain ⟨t5, p5, k5⟩ := part5 (f := f) (cdv := cdv) (A := callerA) (outer := outer) (s := s) (HS := H) (E := E) hg hr ra rep (Z base) (GR base)
    obtain ⟨t6, p6, k6⟩ := part6 (f := f) (cdv := cdv) (A := callerA) (outer := outer) (s := s) (HS := H) (E := E) hr is ve gE cE ee (GR base)
    refine ⟨_, pss_cons (ps_set (i := 1) scLaw.nd rfl (Or.inl rfl) (pe_call (GK base).ok hr1 (by rfl) (GK base).m (GK base).k (GK base).b .nil pass0 (pa_cons (pv 0) pa_nil)))
      (pss_cons (ps_for PassesOwn.never rfl (pi_range1 (by rfl) ra (pa_cons (pe_op op_add pe_int (pe_callB (call_min2 rfl) (by rfl) mi (by decide +kernel) (pa_cons pe_int (pa_cons (pe_callB call_len (by rfl) T.len PySem.boot_len (pa_cons (pv 0) pa_nil)) pa_nil)))) pa_nil)) (pg_name (i := 2) scLaw.nd rfl (Or.inl rfl))
        (pss_cons p0 (pss_cons p1 (pss_cons p2 (pss_cons p3 (pss_one p4)))))) (pss_cons p5 (pss_cons p6 (pss_one (ps_ret pe_bl))))), ?_⟩
    refine ⟨_, rfl, a, ns, rfl, hS, few, fun p c H1 np nc s1 N => ?_⟩
    refine ⟨_, rfl, .ref a, ns.length, rfl, .inl ⟨_, s1.seq hS, (List.length_map ..).symm⟩, 12, (ns.length : Int), rfl, _, _, rfl, rfl, _, rfl, ?_, ?_, ?_⟩
    · show -(2 ^ 62) ≤ (12 : Int) + (if (ns.length : Int) < 12 then (ns.length : Int) else 12)
      split <;> omega
    · show (12 : Int) + (if (ns.length : Int) < 12 then (ns.length : Int) else 12) < 2 ^ 62
      split <;> omega
    have turns : ((12 : Int) + (if (ns.length : Int) < 12 then (ns.length : Int) else 12)).toNat ≤ 24 := by split <;> omega
    revert turns
    show ((12 : Int) + (if (ns.length : Int) < 12 then (ns.length : Int) else 12)).toNat ≤ 24 → _
    generalize ((12 : Int) + (if (ns.length : Int) < 12 then (ns.length : Int) else 12)).toNat = m
    intro turns
    refine for_range (n := m) (fun i σ G => ∃ v2 v3 v4 v5 v6 v7 v8 : Option V, σ = [some (.ref a), some (.ref p), v2, v3, v4, v5, v6, v7, v8, none, none, none] ∧ ∃ t l : Int, PenAt G p c ns t l ∧ t ≤ 1000 * i)
      ⟨_, _, _, _, _, _, _, rfl, 0, 0, N, Int.le_refl _⟩ (fun i σ G hi h => ?_) (fun σ G h => ?_)
    · obtain ⟨v2, v3, v4, v5, v6, v7, v8, rfl, t, l, N, ht⟩ := h
      refine k0 _ G p c ns t l _ _ _ _ N (by omega) fun L ps G1 ta la gL hp l1 l3 N1 hta => ?_
      obtain ⟨r, z, hr0, hz0, er, ez⟩ := ends_of l1 l3
      refine k1 _ G1 L ps _ _ _ _ _ _ _ _ gL hp fun G2 w4 w5 w6 w7 S2 => ?_
      have hp2 := hp.keep (Keep.same S2)
      refine k2 _ G2 L (ps.map Prod.fst) r.1 r.2 _ _ _ _ (S2 _ _ gL) er (hp2 r hr0).1 (hp2 r hr0).2 fun G3 S3 => ?_
      have S23 := S2.trans S3
      have hp3 := hp.keep (Keep.same S23)
      refine k3 _ G3 L (ps.map Prod.fst) r.1 z.1 r.2 z.2 _ _ _ _ _ _ _ _ _ (S23 _ _ gL) er ez (hp3 r hr0).1 (hp3 r hr0).2 (hp3 z hz0).1 (hp3 z hz0).2 fun x y G4 S4 mx my => ?_
      refine k4 _ G4 x y r.2 z.2 _ _ _ _ _ _ _ _ (hp3 r hr0).2 (hp3 z hz0).2 mx my ?_
      exact ⟨_, _, _, _, _, _, _, rfl, ta, la, N1.same (S23.trans S4), by omega⟩
    · obtain ⟨v2, v3, v4, v5, v6, v7, v8, rfl, _⟩ := h
      refine k5 _ G _ _ _ _ _ _ _ _ _ _ _ _ fun H' w9 w10 => ?_
      exact k6 _ _ _ fun H'' => q H''
end
end LW

/-! The law, over what is asked of the program's top. -/
namespace LW
open PySem L2 G
section
variable {w : World} {K : PySem.W.Frag} {mg : Str → Option Value} {h : Heap}
theorem all_mk {fa : Addr} (X : K.In h) (G : h.Ns mainGlobals mg) (hfa : mg "law" = some (.ref fa)) (S : Hd.Says csT dsT K) : ∃ fd : FuncData, (∀ (s : Shared) (u : Value), BindsTo s fd ⟨[u], []⟩ [("_law_script", u)]) ∧ RunA PySem.Challenge.pw_namechains_k79_statements_written_and_re w K mg callerA fa fd ["_law_script"] (spLaw K) := by
  have z_int : mg "int" = none := Hd.free_ok X G (S.fact 0 rfl)
  have z_len : mg "len" = none := Hd.free_ok X G (S.fact 1 rfl)
  have z_abs : mg "abs" = none := Hd.free_ok X G (S.fact 2 rfl)
  have z_list : mg "list" = none := Hd.free_ok X G (S.fact 3 rfl)
  have z_range : mg "range" = none := Hd.free_ok X G (S.fact 4 rfl)
  have z_min : mg "min" = none := Hd.free_ok X G (S.fact 5 rfl)
  have z_max : mg "max" = none := Hd.free_ok X G (S.fact 6 rfl)
  have z_tuple : mg "tuple" = none := Hd.free_ok X G (S.fact 7 rfl)
  have z_isinstance : mg "isinstance" = none := Hd.free_ok X G (S.fact 8 rfl)
  have z_str : mg "str" = none := Hd.free_ok X G (S.fact 9 rfl)
  have z_bool : mg "bool" = none := Hd.free_ok X G (S.fact 10 rfl)
  have z_all : mg "all" = none := Hd.free_ok X G (S.fact 11 rfl)
  have z_repr : mg "repr" = none := Hd.free_ok X G (S.fact 12 rfl)
  have z_set : mg "set" = none := Hd.free_ok X G (S.fact 13 rfl)
  have z_ValueError : mg "ValueError" = none := Hd.free_ok X G (S.fact 14 rfl)
  have z_super : mg "super" = none := Hd.free_ok X G (S.fact 15 rfl)
  have z_enumerate : mg "enumerate" = none := Hd.free_ok X G (S.fact 16 rfl)
  have z_sorted : mg "sorted" = none := Hd.free_ok X G (S.fact 17 rfl)
  have T : Bt mg := ⟨z_int, z_len, z_abs, z_list⟩
  have m__law_pen : mg "_law_pen" = some (.ref (Hd.ga K "_law_pen")) := Hd.glo_ok X G (S.fact 18 rfl)
  have mPen := m__law_pen
  obtain ⟨dPen, FPen⟩ := Hd.fun_ok (a := Hd.ga K "_law_pen") (x := "_law_pen") (q := "_law_pen") (st := sPen) (S.shape 0 rfl) (S.fact 19 rfl)
  have kPen := FPen.kp
  have bPen := FPen.binds (ps := ["_law_script"]) fun _ _ _ _ _ _ us hl => match us, hl with | [_], _ => rfl
  have GPen : ∀ base : Heap, FnOk PySem.Challenge.pw_namechains_k79_statements_written_and_re w K mg base CX0 1 (Hd.ga K "_law_pen") dPen ["_law_script"] (spPen K) := fun base => ok_pen FPen T
  have m__law_draw : mg "_law_draw" = some (.ref (Hd.ga K "_law_draw")) := Hd.glo_ok X G (S.fact 20 rfl)
  have mDraw := m__law_draw
  obtain ⟨dDraw, FDraw⟩ := Hd.fun_ok (a := Hd.ga K "_law_draw") (x := "_law_draw") (q := "_law_draw") (st := sDraw) (S.shape 1 rfl) (S.fact 21 rfl)
  have kDraw := FDraw.kp
  have bDraw := FDraw.binds (ps := ["_law_pen_here", "_law_many"]) fun _ _ _ _ _ _ us hl => match us, hl with | [_, _], _ => rfl
  have GDraw : ∀ base : Heap, FnOk PySem.Challenge.pw_namechains_k79_statements_written_and_re w K mg base CX0 1 (Hd.ga K "_law_draw") dDraw ["_law_pen_here", "_law_many"] spDraw := fun base => ok_draw FDraw T
  have m__law_pick : mg "_law_pick" = some (.ref (Hd.ga K "_law_pick")) := Hd.glo_ok X G (S.fact 22 rfl)
  have mPick := m__law_pick
  obtain ⟨dPick, FPick⟩ := Hd.fun_ok (a := Hd.ga K "_law_pick") (x := "_law_pick") (q := "_law_pick") (st := sPick) (S.shape 2 rfl) (S.fact 23 rfl)
  have kPick := FPick.kp
  have bPick := FPick.binds (ps := ["_law_pen_here", "_law_options"]) fun _ _ _ _ _ _ us hl => match us, hl with | [_, _], _ => rfl
  have GPick : ∀ base : Heap, FnOk PySem.Challenge.pw_namechains_k79_statements_written_and_re w K mg base CX0 2 (Hd.ga K "_law_pick") dPick ["_law_pen_here", "_law_options"] (spPick K) := fun base => ok_pick FPick T (GDraw base) mDraw kDraw bDraw
  have GPickS : ∀ base : Heap, FnOk PySem.Challenge.pw_namechains_k79_statements_written_and_re w K mg base CX0 2 (Hd.ga K "_law_pick") dPick ["_law_pen_here", "_law_options"] spPickS := fun base => ok_pickS FPick T (GDraw base) mDraw kDraw bDraw
  have m__law_words : mg "_law_words" = some (.ref (Hd.ga K "_law_words")) := Hd.glo_ok X G (S.fact 24 rfl)
  have mWords := m__law_words
  obtain ⟨dWords, FWords⟩ := Hd.fun_ok (a := Hd.ga K "_law_words") (x := "_law_words") (q := "_law_words") (st := sWords) (S.shape 3 rfl) (S.fact 25 rfl)
  have kWords := FWords.kp
  have bWords := FWords.binds (ps := ["_law_pen_here", "_law_many"]) fun _ _ _ _ _ _ us hl => match us, hl with | [_, _], _ => rfl
  have GWords : ∀ base : Heap, FnOk PySem.Challenge.pw_namechains_k79_statements_written_and_re w K mg base CX0 3 (Hd.ga K "_law_words") dWords ["_law_pen_here", "_law_many"] spWords := fun base => ok_words FWords T z_range (GDraw base) mDraw kDraw bDraw (GPick base) (GPickS base) mPick kPick bPick
  have m__law_great : mg "_law_great" = some (.ref (Hd.ga K "_law_great")) := Hd.glo_ok X G (S.fact 26 rfl)
  have mGreat := m__law_great
  obtain ⟨dGreat, FGreat⟩ := Hd.fun_ok (a := Hd.ga K "_law_great") (x := "_law_great") (q := "_law_great") (st := sGreat) (S.shape 4 rfl) (S.fact 27 rfl)
  have kGreat := FGreat.kp
  have bGreat := FGreat.binds (ps := ["_law_pen_here", "_law_digits"]) fun _ _ _ _ _ _ us hl => match us, hl with | [_, _], _ => rfl
  have GGreat : ∀ base : Heap, FnOk PySem.Challenge.pw_namechains_k79_statements_written_and_re w K mg base CX0 2 (Hd.ga K "_law_great") dGreat ["_law_pen_here", "_law_digits"] spGreat := fun base => ok_great FGreat z_range (GDraw base) mDraw kDraw bDraw
  have m__law_spot : mg "_law_spot" = some (.ref (Hd.ga K "_law_spot")) := Hd.glo_ok X G (S.fact 28 rfl)
  have mSpot := m__law_spot
  obtain ⟨dSpot, FSpot⟩ := Hd.fun_ok (a := Hd.ga K "_law_spot") (x := "_law_spot") (q := "_law_spot") (st := sSpot) (S.shape 5 rfl) (S.fact 29 rfl)
  have kSpot := FSpot.kp
  have bSpot := FSpot.binds (ps := ["_law_pen_here"]) fun _ _ _ _ _ _ us hl => match us, hl with | [_], _ => rfl
  have GSpot : ∀ base : Heap, FnOk PySem.Challenge.pw_namechains_k79_statements_written_and_re w K mg base CX0 3 (Hd.ga K "_law_spot") dSpot ["_law_pen_here"] spSpot := fun base => ok_spot FSpot (GDraw base) mDraw kDraw bDraw (GPick base) mPick kPick bPick (GGreat base) mGreat kGreat bGreat
  have m__law_span : mg "_law_span" = some (.ref (Hd.ga K "_law_span")) := Hd.glo_ok X G (S.fact 30 rfl)
  have mSpan := m__law_span
  obtain ⟨dSpan, FSpan⟩ := Hd.fun_ok (a := Hd.ga K "_law_span") (x := "_law_span") (q := "_law_span") (st := sSpan) (S.shape 6 rfl) (S.fact 31 rfl)
  have kSpan := FSpan.kp
  have bSpan := FSpan.binds (ps := ["_law_pen_here"]) fun _ _ _ _ _ _ us hl => match us, hl with | [_], _ => rfl
  have GSpan : ∀ base : Heap, FnOk PySem.Challenge.pw_namechains_k79_statements_written_and_re w K mg base CX0 4 (Hd.ga K "_law_span") dSpan ["_law_pen_here"] spSpan := fun base => ok_span FSpan z_min z_max (GSpot base) mSpot kSpot bSpot
  have m__law_days : mg "_law_days" = some (.ref (Hd.ga K "_law_days")) := Hd.glo_ok X G (S.fact 32 rfl)
  have mDaysL := m__law_days
  obtain ⟨dDaysL, FDaysL⟩ := Hd.fun_ok (a := Hd.ga K "_law_days") (x := "_law_days") (q := "_law_days") (st := sDaysL) (S.shape 7 rfl) (S.fact 33 rfl)
  have kDaysL := FDaysL.kp
  have bDaysL := FDaysL.binds (ps := ["_law_pen_here"]) fun _ _ _ _ _ _ us hl => match us, hl with | [_], _ => rfl
  have GDaysL : ∀ base : Heap, FnOk PySem.Challenge.pw_namechains_k79_statements_written_and_re w K mg base CX0 5 (Hd.ga K "_law_days") dDaysL ["_law_pen_here"] (spDaysL K) := fun base => ok_daysL FDaysL ⟨GPick base, mPick, kPick, bPick⟩ ⟨GSpan base, mSpan, kSpan, bSpan⟩
  have m__law_chain : mg "_law_chain" = some (.ref (Hd.ga K "_law_chain")) := Hd.glo_ok X G (S.fact 34 rfl)
  have mChain := m__law_chain
  obtain ⟨dChain, FChain⟩ := Hd.fun_ok (a := Hd.ga K "_law_chain") (x := "_law_chain") (q := "_law_chain") (st := sChain) (S.shape 8 rfl) (S.fact 35 rfl)
  have kChain := FChain.kp
  have bChain := FChain.binds (ps := ["_law_pen_here", "_law_people", "_law_words_here", "_law_top"]) fun _ _ _ _ _ _ us hl => match us, hl with | [_, _, _, _], _ => rfl
  have GChain : ∀ base : Heap, FnOk PySem.Challenge.pw_namechains_k79_statements_written_and_re w K mg base CX0 3 (Hd.ga K "_law_chain") dChain ["_law_pen_here", "_law_people", "_law_words_here", "_law_top"] spChain := fun base => ok_chain FChain z_range z_tuple (GDraw base) mDraw kDraw bDraw (GPick base) mPick kPick bPick
  have m__law_naming : mg "_law_naming" = some (.ref (Hd.ga K "_law_naming")) := Hd.glo_ok X G (S.fact 36 rfl)
  have mNamL := m__law_naming
  obtain ⟨dNamL, FNamL⟩ := Hd.fun_ok (a := Hd.ga K "_law_naming") (x := "_law_naming") (q := "_law_naming") (st := sNamL) (S.shape 9 rfl) (S.fact 37 rfl)
  have kNamL := FNamL.kp
  have bNamL := FNamL.binds (ps := ["_law_pen_here", "_law_people", "_law_words_here", "_law_top"]) fun _ _ _ _ _ _ us hl => match us, hl with | [_, _, _, _], _ => rfl
  have GNamL : ∀ base : Heap, FnOk PySem.Challenge.pw_namechains_k79_statements_written_and_re w K mg base CX0 6 (Hd.ga K "_law_naming") dNamL ["_law_pen_here", "_law_people", "_law_words_here", "_law_top"] (spNamL K) := fun base => ok_namL FNamL ⟨GPick base, mPick, kPick, bPick⟩ ⟨GChain base, mChain, kChain, bChain⟩ ⟨GDaysL base, mDaysL, kDaysL, bDaysL⟩
  have m__law_subject : mg "_law_subject" = some (.ref (Hd.ga K "_law_subject")) := Hd.glo_ok X G (S.fact 38 rfl)
  have mSubL := m__law_subject
  obtain ⟨dSubL, FSubL⟩ := Hd.fun_ok (a := Hd.ga K "_law_subject") (x := "_law_subject") (q := "_law_subject") (st := sSubL) (S.shape 10 rfl) (S.fact 39 rfl)
  have kSubL := FSubL.kp
  have bSubL := FSubL.binds (ps := ["_law_pen_here", "_law_people", "_law_words_here", "_law_top"]) fun _ _ _ _ _ _ us hl => match us, hl with | [_, _, _, _], _ => rfl
  have GSubL : ∀ base : Heap, FnOk PySem.Challenge.pw_namechains_k79_statements_written_and_re w K mg base CX0 4 (Hd.ga K "_law_subject") dSubL ["_law_pen_here", "_law_people", "_law_words_here", "_law_top"] (spSubL K) := fun base => ok_subL FSubL z_range z_len z_tuple ⟨GDraw base, mDraw, kDraw, bDraw⟩ ⟨GChain base, mChain, kChain, bChain⟩
  have m__law_leave : mg "_law_leave" = some (.ref (Hd.ga K "_law_leave")) := Hd.glo_ok X G (S.fact 40 rfl)
  have mLeaL := m__law_leave
  obtain ⟨dLeaL, FLeaL⟩ := Hd.fun_ok (a := Hd.ga K "_law_leave") (x := "_law_leave") (q := "_law_leave") (st := sLeaL) (S.shape 11 rfl) (S.fact 41 rfl)
  have kLeaL := FLeaL.kp
  have bLeaL := FLeaL.binds (ps := ["_law_pen_here", "_law_people", "_law_words_here", "_law_top"]) fun _ _ _ _ _ _ us hl => match us, hl with | [_, _, _, _], _ => rfl
  have GLeaL : ∀ base : Heap, FnOk PySem.Challenge.pw_namechains_k79_statements_written_and_re w K mg base CX0 6 (Hd.ga K "_law_leave") dLeaL ["_law_pen_here", "_law_people", "_law_words_here", "_law_top"] (spNamL K) := fun base => ok_leaL FLeaL ⟨GPick base, mPick, kPick, bPick⟩ ⟨GSubL base, mSubL, kSubL, bSubL⟩ ⟨GSpan base, mSpan, kSpan, bSpan⟩ ⟨GDaysL base, mDaysL, kDaysL, bDaysL⟩
  have i_MAX_LETTERS : ∃ t, mg "MAX_LETTERS" = some (.int (8) t) := Hd.int_ok X G (S.fact 42 rfl)
  have i_MAX_NAMES : ∃ t, mg "MAX_NAMES" = some (.int (4) t) := Hd.int_ok X G (S.fact 43 rfl)
  have i_MAX_CHAINS : ∃ t, mg "MAX_CHAINS" = some (.int (4) t) := Hd.int_ok X G (S.fact 44 rfl)
  have i_MAX_TIMES : ∃ t, mg "MAX_TIMES" = some (.int (9) t) := Hd.int_ok X G (S.fact 45 rfl)
  have i_LIMIT : ∃ t, mg "LIMIT" = some (.int (10 ^ 30) t) := Hd.int_ok X G (S.fact 46 rfl)
  have B : Pb mg := ⟨z_isinstance, z_str, z_int, z_bool, z_tuple, z_len, z_all, i_MAX_LETTERS, i_MAX_NAMES, i_LIMIT⟩
  have m_is_integer_in : mg "is_integer_in" = some (.ref (Hd.ga K "is_integer_in")) := Hd.glo_ok X G (S.fact 47 rfl)
  have mInt := m_is_integer_in
  obtain ⟨dInt, FInt⟩ := Hd.fun_ok (a := Hd.ga K "is_integer_in") (x := "is_integer_in") (q := "is_integer_in") (st := pInt) (S.shape 12 rfl) (S.fact 48 rfl)
  have kInt := FInt.kp
  have bInt := FInt.binds (ps := ["value", "low", "high"]) fun _ _ _ _ _ _ us hl => match us, hl with | [_, _, _], _ => rfl
  have GInt : ∀ base : Heap, FnOk PySem.Challenge.pw_namechains_k79_statements_written_and_re w K mg base CX0 1 (Hd.ga K "is_integer_in") dInt ["value", "low", "high"] (spInt K) := fun base => ok_int FInt B
  have m_is_word : mg "is_word" = some (.ref (Hd.ga K "is_word")) := Hd.glo_ok X G (S.fact 49 rfl)
  have mWord := m_is_word
  obtain ⟨dWord, FWord⟩ := Hd.fun_ok (a := Hd.ga K "is_word") (x := "is_word") (q := "is_word") (st := pWord) (S.shape 13 rfl) (S.fact 50 rfl)
  have kWord := FWord.kp
  have bWord := FWord.binds (ps := ["value"]) fun _ _ _ _ _ _ us hl => match us, hl with | [_], _ => rfl
  have GWord : ∀ base : Heap, FnOk PySem.Challenge.pw_namechains_k79_statements_written_and_re w K mg base CX0 1 (Hd.ga K "is_word") dWord ["value"] (spIsWord K) := fun base => ok_word FWord B
  have m_is_chain : mg "is_chain" = some (.ref (Hd.ga K "is_chain")) := Hd.glo_ok X G (S.fact 51 rfl)
  have mPCh := m_is_chain
  obtain ⟨dPCh, FPCh⟩ := Hd.fun_ok (a := Hd.ga K "is_chain") (x := "is_chain") (q := "is_chain") (st := pChain) (S.shape 14 rfl) (S.fact 52 rfl)
  have kPCh := FPCh.kp
  have bPCh := FPCh.binds (ps := ["value", "most"]) fun _ _ _ _ _ _ us hl => match us, hl with | [_, _], _ => rfl
  have GPCh : ∀ base : Heap, FnOk PySem.Challenge.pw_namechains_k79_statements_written_and_re w K mg base CX0 2 (Hd.ga K "is_chain") dPCh ["value", "most"] (spIsChain K) := fun base => ok_chainP FPCh B (GWord base) mWord kWord bWord
  have m_is_stretch : mg "is_stretch" = some (.ref (Hd.ga K "is_stretch")) := Hd.glo_ok X G (S.fact 53 rfl)
  have mPStr := m_is_stretch
  obtain ⟨dPStr, FPStr⟩ := Hd.fun_ok (a := Hd.ga K "is_stretch") (x := "is_stretch") (q := "is_stretch") (st := pStretch) (S.shape 15 rfl) (S.fact 54 rfl)
  have kPStr := FPStr.kp
  have bPStr := FPStr.binds (ps := ["value"]) fun _ _ _ _ _ _ us hl => match us, hl with | [_], _ => rfl
  have GPStr : ∀ base : Heap, FnOk PySem.Challenge.pw_namechains_k79_statements_written_and_re w K mg base CX0 2 (Hd.ga K "is_stretch") dPStr ["value"] (spIsStretch K) := fun base => ok_stretchP FPStr B (GInt base) mInt kInt bInt
  have m_is_times : mg "is_times" = some (.ref (Hd.ga K "is_times")) := Hd.glo_ok X G (S.fact 55 rfl)
  have mTim := m_is_times
  obtain ⟨dTim, FTim⟩ := Hd.fun_ok (a := Hd.ga K "is_times") (x := "is_times") (q := "is_times") (st := pTimes) (S.shape 16 rfl) (S.fact 56 rfl)
  have kTim := FTim.kp
  have bTim := FTim.binds (ps := ["value"]) fun _ _ _ _ _ _ us hl => match us, hl with | [_], _ => rfl
  have GTim : ∀ base : Heap, FnOk PySem.Challenge.pw_namechains_k79_statements_written_and_re w K mg base CX0 2 (Hd.ga K "is_times") dTim ["value"] (spIsTimes K) := fun base => ok_times FTim i_MAX_TIMES (GInt base) mInt kInt bInt
  have m__are_unlike_chains : mg "_are_unlike_chains" = some (.ref (Hd.ga K "_are_unlike_chains")) := Hd.glo_ok X G (S.fact 57 rfl)
  have mUnl := m__are_unlike_chains
  obtain ⟨dUnl, FUnl⟩ := Hd.fun_ok (a := Hd.ga K "_are_unlike_chains") (x := "_are_unlike_chains") (q := "_are_unlike_chains") (st := pUnlike) (S.shape 17 rfl) (S.fact 58 rfl)
  have kUnl := FUnl.kp
  have bUnl := FUnl.binds (ps := ["value"]) fun _ _ _ _ _ _ us hl => match us, hl with | [_], _ => rfl
  have GUnl : ∀ base : Heap, FnOk PySem.Challenge.pw_namechains_k79_statements_written_and_re w K mg base CX0 3 (Hd.ga K "_are_unlike_chains") dUnl ["value"] (spUnlike K) := fun base => ok_unlike FUnl B z_set i_MAX_CHAINS (GPCh base) mPCh kPCh bPCh
  have m__is_share : mg "_is_share" = some (.ref (Hd.ga K "_is_share")) := Hd.glo_ok X G (S.fact 59 rfl)
  have mShr := m__is_share
  obtain ⟨dShr, FShr⟩ := Hd.fun_ok (a := Hd.ga K "_is_share") (x := "_is_share") (q := "_is_share") (st := pIsShare) (S.shape 18 rfl) (S.fact 60 rfl)
  have kShr := FShr.kp
  have bShr := FShr.binds (ps := ["value"]) fun _ _ _ _ _ _ us hl => match us, hl with | [_], _ => rfl
  have GShr : ∀ base : Heap, FnOk PySem.Challenge.pw_namechains_k79_statements_written_and_re w K mg base CX0 4 (Hd.ga K "_is_share") dShr ["value"] (spIsShare K) := fun base => ok_isShare FShr B (GUnl base) mUnl kUnl bUnl (GInt base) mInt kInt bInt
  have m_is_subject : mg "is_subject" = some (.ref (Hd.ga K "is_subject")) := Hd.glo_ok X G (S.fact 61 rfl)
  have mSub := m_is_subject
  obtain ⟨dSub, FSub⟩ := Hd.fun_ok (a := Hd.ga K "is_subject") (x := "is_subject") (q := "is_subject") (st := pSubject) (S.shape 19 rfl) (S.fact 62 rfl)
  have kSub := FSub.kp
  have bSub := FSub.binds (ps := ["value"]) fun _ _ _ _ _ _ us hl => match us, hl with | [_], _ => rfl
  have GSub : ∀ base : Heap, FnOk PySem.Challenge.pw_namechains_k79_statements_written_and_re w K mg base CX0 5 (Hd.ga K "is_subject") dSub ["value"] (spSubject K) := fun base => ok_subject FSub B (GPCh base) mPCh kPCh bPCh (GShr base) mShr kShr bShr
  have m_InvalidWord : mg "InvalidWord" = some (.ref (Hd.ga K "InvalidWord")) := Hd.glo_ok X G (S.fact 64 rfl)
  obtain ⟨dEW, FEW⟩ := Hd.fun_ok (a := Hd.ma K (Hd.ga K "InvalidWord") "__init__") (x := "__init__") (q := "InvalidWord.__init__") (st := eWord) (S.shape 20 rfl) (S.fact 65 rfl)
  have kEW := FEW.kp
  obtain ⟨oEW, iEW, vEW, tEW⟩ := Hd.oex_ok (S.fact 63 rfl) (by decide +kernel)
  have mEW := m_InvalidWord
  have RW := fun base : Heap => er_word (P := PySem.Challenge.pw_namechains_k79_statements_written_and_re) (w := w) (base := base) mEW oEW vEW iEW tEW FEW
  have m_InvalidChain : mg "InvalidChain" = some (.ref (Hd.ga K "InvalidChain")) := Hd.glo_ok X G (S.fact 67 rfl)
  obtain ⟨dEC, FEC⟩ := Hd.fun_ok (a := Hd.ma K (Hd.ga K "InvalidChain") "__init__") (x := "__init__") (q := "InvalidChain.__init__") (st := eChain) (S.shape 21 rfl) (S.fact 68 rfl)
  have kEC := FEC.kp
  obtain ⟨oEC, iEC, vEC, tEC⟩ := Hd.oex_ok (S.fact 66 rfl) (by decide +kernel)
  have mEC := m_InvalidChain
  have RC := fun base : Heap => er_chain (P := PySem.Challenge.pw_namechains_k79_statements_written_and_re) (w := w) (base := base) mEC oEC vEC iEC tEC FEC
  have m_InvalidStretch : mg "InvalidStretch" = some (.ref (Hd.ga K "InvalidStretch")) := Hd.glo_ok X G (S.fact 70 rfl)
  obtain ⟨dES, FES⟩ := Hd.fun_ok (a := Hd.ma K (Hd.ga K "InvalidStretch") "__init__") (x := "__init__") (q := "InvalidStretch.__init__") (st := eStretch) (S.shape 22 rfl) (S.fact 71 rfl)
  have kES := FES.kp
  obtain ⟨oES, iES, vES, tES⟩ := Hd.oex_ok (S.fact 69 rfl) (by decide +kernel)
  have mES := m_InvalidStretch
  have RS := fun base : Heap => er_stretch (P := PySem.Challenge.pw_namechains_k79_statements_written_and_re) (w := w) (base := base) mES oES vES iES tES FES
  have m_InvalidSubject : mg "InvalidSubject" = some (.ref (Hd.ga K "InvalidSubject")) := Hd.glo_ok X G (S.fact 73 rfl)
  obtain ⟨dEJ, FEJ⟩ := Hd.fun_ok (a := Hd.ma K (Hd.ga K "InvalidSubject") "__init__") (x := "__init__") (q := "InvalidSubject.__init__") (st := eSubject) (S.shape 23 rfl) (S.fact 74 rfl)
  have kEJ := FEJ.kp
  obtain ⟨oEJ, iEJ, vEJ, tEJ⟩ := Hd.oex_ok (S.fact 72 rfl) (by decide +kernel)
  have mEJ := m_InvalidSubject
  have RJ := fun base : Heap => er_subject (P := PySem.Challenge.pw_namechains_k79_statements_written_and_re) (w := w) (base := base) mEJ oEJ vEJ iEJ tEJ FEJ
  have m_InvalidTimes : mg "InvalidTimes" = some (.ref (Hd.ga K "InvalidTimes")) := Hd.glo_ok X G (S.fact 76 rfl)
  obtain ⟨dET, FET⟩ := Hd.fun_ok (a := Hd.ma K (Hd.ga K "InvalidTimes") "__init__") (x := "__init__") (q := "InvalidTimes.__init__") (st := eTimes) (S.shape 24 rfl) (S.fact 77 rfl)
  have kET := FET.kp
  obtain ⟨oET, iET, vET, tET⟩ := Hd.oex_ok (S.fact 75 rfl) (by decide +kernel)
  have mET := m_InvalidTimes
  have RT := fun base : Heap => er_times (P := PySem.Challenge.pw_namechains_k79_statements_written_and_re) (w := w) (base := base) mET oET vET iET tET FET
  have m__check_word : mg "_check_word" = some (.ref (Hd.ga K "_check_word")) := Hd.glo_ok X G (S.fact 78 rfl)
  have mCkW := m__check_word
  obtain ⟨dCkW, FCkW⟩ := Hd.fun_ok (a := Hd.ga K "_check_word") (x := "_check_word") (q := "_check_word") (st := pCheckW) (S.shape 25 rfl) (S.fact 79 rfl)
  have kCkW := FCkW.kp
  have bCkW := FCkW.binds (ps := ["value"]) fun _ _ _ _ _ _ us hl => match us, hl with | [_], _ => rfl
  have GCkW : ∀ base : Heap, FnOk PySem.Challenge.pw_namechains_k79_statements_written_and_re w K mg base (L2.CX PySem.Challenge.pw_namechains_k79_statements_written_and_re w) 3 (Hd.ga K "_check_word") dCkW ["value"] (spCheckW K (Hd.ga K "InvalidWord")) := fun base => ok_checkW FCkW (RW base) (GWord base) mWord kWord bWord
  have m__check_stretch : mg "_check_stretch" = some (.ref (Hd.ga K "_check_stretch")) := Hd.glo_ok X G (S.fact 80 rfl)
  have mCkS := m__check_stretch
  obtain ⟨dCkS, FCkS⟩ := Hd.fun_ok (a := Hd.ga K "_check_stretch") (x := "_check_stretch") (q := "_check_stretch") (st := pCheckS) (S.shape 26 rfl) (S.fact 81 rfl)
  have kCkS := FCkS.kp
  have bCkS := FCkS.binds (ps := ["value"]) fun _ _ _ _ _ _ us hl => match us, hl with | [_], _ => rfl
  have GCkS : ∀ base : Heap, FnOk PySem.Challenge.pw_namechains_k79_statements_written_and_re w K mg base (L2.CX PySem.Challenge.pw_namechains_k79_statements_written_and_re w) 3 (Hd.ga K "_check_stretch") dCkS ["value"] (spCheckS K (Hd.ga K "InvalidStretch")) := fun base => ok_checkS FCkS (RS base) (GPStr base) mPStr kPStr bPStr
  have m__checked_days : mg "_checked_days" = some (.ref (Hd.ga K "_checked_days")) := Hd.glo_ok X G (S.fact 82 rfl)
  have mDys := m__checked_days
  obtain ⟨dDys, FDys⟩ := Hd.fun_ok (a := Hd.ga K "_checked_days") (x := "_checked_days") (q := "_checked_days") (st := pDays) (S.shape 27 rfl) (S.fact 83 rfl)
  have kDys := FDys.kp
  have bDys := FDys.binds (ps := ["value"]) fun _ _ _ _ _ _ us hl => match us, hl with | [_], _ => rfl
  have GDys : ∀ base : Heap, FnOk PySem.Challenge.pw_namechains_k79_statements_written_and_re w K mg base (L2.CX PySem.Challenge.pw_namechains_k79_statements_written_and_re w) 4 (Hd.ga K "_checked_days") dDys ["value"] (spDays K (Hd.ga K "InvalidStretch")) := fun base => ok_days FDys B (GCkS base) mCkS kCkS bCkS
  have m_is_share : mg "is_share" = some (.ref (Hd.ga K "is_share")) := Hd.glo_ok X G (S.fact 84 rfl)
  have mShQ := m_is_share
  obtain ⟨dShQ, FShQ⟩ := Hd.fun_ok (a := Hd.ga K "is_share") (x := "is_share") (q := "is_share") (st := pShare) (S.shape 28 rfl) (S.fact 85 rfl)
  have kShQ := FShQ.kp
  have bShQ := FShQ.binds (ps := ["subject"]) fun _ _ _ _ _ _ us hl => match us, hl with | [_], _ => rfl
  have GShQ : ∀ base : Heap, FnOk PySem.Challenge.pw_namechains_k79_statements_written_and_re w K mg base CX0 1 (Hd.ga K "is_share") dShQ ["subject"] (spShareQ K) := fun base => ok_share FShQ B
  have m__chain_text : mg "_chain_text" = some (.ref (Hd.ga K "_chain_text")) := Hd.glo_ok X G (S.fact 86 rfl)
  have mCTx := m__chain_text
  obtain ⟨dCTx, FCTx⟩ := Hd.fun_ok (a := Hd.ga K "_chain_text") (x := "_chain_text") (q := "_chain_text") (st := pCText) (S.shape 29 rfl) (S.fact 87 rfl)
  have kCTx := FCTx.kp
  have bCTx := FCTx.binds (ps := ["chain"]) fun _ _ _ _ _ _ us hl => match us, hl with | [_], _ => rfl
  have GCTx : ∀ base : Heap, FnOk PySem.Challenge.pw_namechains_k79_statements_written_and_re w K mg base CX0 1 (Hd.ga K "_chain_text") dCTx ["chain"] (spCText K) := fun base => ok_ctext FCTx
  have m__days_text : mg "_days_text" = some (.ref (Hd.ga K "_days_text")) := Hd.glo_ok X G (S.fact 88 rfl)
  have mDTx := m__days_text
  obtain ⟨dDTx, FDTx⟩ := Hd.fun_ok (a := Hd.ga K "_days_text") (x := "_days_text") (q := "_days_text") (st := pDText) (S.shape 30 rfl) (S.fact 89 rfl)
  have kDTx := FDTx.kp
  have bDTx := FDTx.binds (ps := ["days"]) fun _ _ _ _ _ _ us hl => match us, hl with | [_], _ => rfl
  have GDTx : ∀ base : Heap, FnOk PySem.Challenge.pw_namechains_k79_statements_written_and_re w K mg base CX0 1 (Hd.ga K "_days_text") dDTx ["days"] (spDText K) := fun base => ok_dtext FDTx B
  have m__times_text : mg "_times_text" = some (.ref (Hd.ga K "_times_text")) := Hd.glo_ok X G (S.fact 90 rfl)
  have mTTx := m__times_text
  obtain ⟨dTTx, FTTx⟩ := Hd.fun_ok (a := Hd.ga K "_times_text") (x := "_times_text") (q := "_times_text") (st := pTText) (S.shape 31 rfl) (S.fact 91 rfl)
  have kTTx := FTTx.kp
  have bTTx := FTTx.binds (ps := ["times"]) fun _ _ _ _ _ _ us hl => match us, hl with | [_], _ => rfl
  have GTTx : ∀ base : Heap, FnOk PySem.Challenge.pw_namechains_k79_statements_written_and_re w K mg base CX0 1 (Hd.ga K "_times_text") dTTx ["times"] spTText := fun base => ok_ttext FTTx
  have m__subject_text : mg "_subject_text" = some (.ref (Hd.ga K "_subject_text")) := Hd.glo_ok X G (S.fact 92 rfl)
  have mSTx := m__subject_text
  obtain ⟨dSTx, FSTx⟩ := Hd.fun_ok (a := Hd.ga K "_subject_text") (x := "_subject_text") (q := "_subject_text") (st := pSText) (S.shape 32 rfl) (S.fact 93 rfl)
  have kSTx := FSTx.kp
  have bSTx := FSTx.binds (ps := ["subject"]) fun _ _ _ _ _ _ us hl => match us, hl with | [_], _ => rfl
  have GSTx : ∀ base : Heap, FnOk PySem.Challenge.pw_namechains_k79_statements_written_and_re w K mg base CX0 2 (Hd.ga K "_subject_text") dSTx ["subject"] (spSText K) := fun base => ok_stext FSTx (GShQ base) mShQ kShQ bShQ (GCTx base) mCTx kCTx bCTx
  have m_naming_text : mg "naming_text" = some (.ref (Hd.ga K "naming_text")) := Hd.glo_ok X G (S.fact 94 rfl)
  have mNTx := m_naming_text
  obtain ⟨dNTx, FNTx⟩ := Hd.fun_ok (a := Hd.ga K "naming_text") (x := "naming_text") (q := "naming_text") (st := pNText) (S.shape 33 rfl) (S.fact 95 rfl)
  have kNTx := FNTx.kp
  have bNTx := FNTx.binds (ps := ["person", "name", "chain", "days"]) fun _ _ _ _ _ _ us hl => match us, hl with | [_, _, _, _], _ => rfl
  have GNTx : ∀ base : Heap, FnOk PySem.Challenge.pw_namechains_k79_statements_written_and_re w K mg base CX0 2 (Hd.ga K "naming_text") dNTx ["person", "name", "chain", "days"] (spNText K) := fun base => ok_ntext FNTx (GCTx base) mCTx kCTx bCTx (GDTx base) mDTx kDTx bDTx
  have m_leave_text : mg "leave_text" = some (.ref (Hd.ga K "leave_text")) := Hd.glo_ok X G (S.fact 96 rfl)
  have mLTx := m_leave_text
  obtain ⟨dLTx, FLTx⟩ := Hd.fun_ok (a := Hd.ga K "leave_text") (x := "leave_text") (q := "leave_text") (st := pLText) (S.shape 34 rfl) (S.fact 97 rfl)
  have kLTx := FLTx.kp
  have bLTx := FLTx.binds (ps := ["person", "subject", "tags", "days", "times"]) fun _ _ _ _ _ _ us hl => match us, hl with | [_, _, _, _, _], _ => rfl
  have GLTx : ∀ base : Heap, FnOk PySem.Challenge.pw_namechains_k79_statements_written_and_re w K mg base CX0 3 (Hd.ga K "leave_text") dLTx ["person", "subject", "tags", "days", "times"] (spLText K) := fun base => ok_ltext FLTx (GSTx base) mSTx kSTx bSTx (GDTx base) mDTx kDTx bDTx (GTTx base) mTTx kTTx bTTx
  have m_Naming : mg "Naming" = some (.ref (Hd.ga K "Naming")) := Hd.glo_ok X G (S.fact 99 rfl)
  have mN := m_Naming
  obtain ⟨MN, cN, aN⟩ := Hd.cls_ok (S.fact 98 rfl)
  have m_Leave : mg "Leave" = some (.ref (Hd.ga K "Leave")) := Hd.glo_ok X G (S.fact 101 rfl)
  have mL := m_Leave
  obtain ⟨ML, cL, aL⟩ := Hd.cls_ok (S.fact 100 rfl)
  have IN : InsK K (Hd.ga K "Naming") := ⟨(Hd.ins_ok (S.fact 102 rfl)).1, (Hd.ins_ok (S.fact 102 rfl)).2.1, (Hd.ins_ok (S.fact 102 rfl)).2.2.1, (Hd.ins_ok (S.fact 102 rfl)).2.2.2.1, (Hd.ins_ok (S.fact 102 rfl)).2.2.2.2⟩
  have IL : InsK K (Hd.ga K "Leave") := ⟨(Hd.ins_ok (S.fact 103 rfl)).1, (Hd.ins_ok (S.fact 103 rfl)).2.1, (Hd.ins_ok (S.fact 103 rfl)).2.2.1, (Hd.ins_ok (S.fact 103 rfl)).2.2.2.1, (Hd.ins_ok (S.fact 103 rfl)).2.2.2.2⟩
  have kNL : PySem.W.kitOne K (.ref (Hd.ga K "Naming")) (.ref (Hd.ga K "Leave")) = some false := Hd.kit_ok (S.fact 104 rfl)
  have kLN : PySem.W.kitOne K (.ref (Hd.ga K "Leave")) (.ref (Hd.ga K "Naming")) = some false := Hd.kit_ok (S.fact 105 rfl)
  have NC : NamC K (Hd.ga K "Naming") := ⟨cN, aN _ (by simp), aN _ (by simp), aN _ (by simp), aN _ (by simp), aN _ (by simp)⟩
  have LC : LeaC K (Hd.ga K "Leave") := ⟨cL, aL _ (by simp), aL _ (by simp), aL _ (by simp), aL _ (by simp), aL _ (by simp), aL _ (by simp)⟩
  obtain ⟨dIN, FIN⟩ := Hd.funS_ok (C := (Hd.ga K "Naming")) (a := Hd.ma K (Hd.ga K "Naming") "__init__") (x := "__init__") (q := "Naming.__init__") (st := sNmI) (n := 1) (S.shape 35 rfl) (S.fact 106 rfl)
  obtain ⟨dIL, FIL⟩ := Hd.funS_ok (C := (Hd.ga K "Leave")) (a := Hd.ma K (Hd.ga K "Leave") "__init__") (x := "__init__") (q := "Leave.__init__") (st := sLvI) (n := 2) (S.shape 36 rfl) (S.fact 107 rfl)
  have bIN := FIN.binds (ps := psN) fun _ _ _ _ _ _ _ _ us its hl hi => match us, its, hl, hi with | [_, _, _, _, _], [_], _, _ => ⟨_, rfl, rfl⟩
  have bIL := FIL.binds (ps := psL) fun _ _ _ _ _ _ _ _ us its hl hi => match us, its, hl, hi with | [_, _, _, _, _, _], [_, _], _, _ => ⟨_, rfl, rfl⟩
  have m_Statement : mg "Statement" = some (.ref (Hd.ga K "Statement")) := Hd.glo_ok X G (S.fact 108 rfl)
  obtain ⟨dSt, FSt⟩ := Hd.fun_ok (a := Hd.ma K (Hd.ga K "Statement") "__init__") (x := "__init__") (q := "Statement.__init__") (st := sStI) (S.shape 37 rfl) (S.fact 109 rfl)
  have kSt := FSt.kp
  have bSt := FSt.binds (ps := ["self", "person", "days", "text"]) fun _ _ _ _ _ _ us hl => match us, hl with | [_, _, _, _], _ => rfl
  have YN := supB_ok z_super (S.fact 110 rfl)
  have YL := supB_ok z_super (S.fact 111 rfl)
  have GN : ∀ base : Heap, FnOk PySem.Challenge.pw_namechains_k79_statements_written_and_re w K mg base (L2.CX PySem.Challenge.pw_namechains_k79_statements_written_and_re w) 5 (Hd.ma K (Hd.ga K "Naming") "__init__") dIN psN (spNam K (Hd.ga K "Naming") (Hd.ga K "InvalidWord") (Hd.ga K "InvalidChain") (Hd.ga K "InvalidStretch")) := fun base => ok_namI FIN B NC (GCkW base) mCkW kCkW bCkW (GPCh base) mPCh kPCh bPCh (RC base) (GDys base) mDys kDys bDys (GNTx base) mNTx kNTx bNTx YN (ok_statI FSt cN NC.n1 NC.n2 NC.n3) bSt
  have GL : ∀ base : Heap, FnOk PySem.Challenge.pw_namechains_k79_statements_written_and_re w K mg base (L2.CX PySem.Challenge.pw_namechains_k79_statements_written_and_re w) 6 (Hd.ma K (Hd.ga K "Leave") "__init__") dIL psL (spLea K (Hd.ga K "Leave") (Hd.ga K "InvalidWord") (Hd.ga K "InvalidSubject") (Hd.ga K "InvalidStretch") (Hd.ga K "InvalidTimes")) := fun base => ok_leaI FIL B LC (GCkW base) mCkW kCkW bCkW (GSub base) mSub kSub bSub (RJ base) (GCkS base) mCkS kCkS bCkS (GDys base) mDys kDys bDys (GTim base) mTim kTim bTim (RT base) (GLTx base) mLTx kLTx bLTx YL (ok_statI FSt cL LC.n1 LC.n2 LC.n3) bSt
  have m__law_made : mg "_law_made" = some (.ref (Hd.ga K "_law_made")) := Hd.glo_ok X G (S.fact 112 rfl)
  have mMade := m__law_made
  obtain ⟨dMade, FMade⟩ := Hd.fun_ok (a := Hd.ga K "_law_made") (x := "_law_made") (q := "_law_made") (st := sMadeL) (S.shape 38 rfl) (S.fact 113 rfl)
  have kMade := FMade.kp
  have bMade := FMade.binds (ps := ["_law_plain"]) fun _ _ _ _ _ _ us hl => match us, hl with | [_], _ => rfl
  have GMade : ∀ base : Heap, FnOk PySem.Challenge.pw_namechains_k79_statements_written_and_re w K mg base CX0 8 (Hd.ga K "_law_made") dMade ["_law_plain"] (spMadeL K (Hd.ga K "Naming") (Hd.ga K "Leave")) := fun base => ok_madeL FMade MN (GN base) mN bIN ML (GL base) mL bIL
  obtain ⟨dNP, FNP⟩ := Hd.fun_ok (a := Hd.pg K (Hd.ga K "Naming") "person") (x := "person") (q := "Statement.person") (st := sPerson) (S.shape 39 rfl) (S.fact 115 rfl)
  have kNP := FNP.kp
  have bNP := FNP.binds (ps := ["self"]) fun _ _ _ _ _ _ us hl => match us, hl with | [_], _ => rfl
  have RNP : ∀ base : Heap, Pr PySem.Challenge.pw_namechains_k79_statements_written_and_re w K mg base (Hd.ga K "Naming") "person" "_person" (Hd.ma K (Hd.ga K "Naming") "person") (Hd.pg K (Hd.ga K "Naming") "person") dNP := fun base => ⟨Hd.prop_ok (S.fact 114 rfl), ok_gP FNP NC, bNP⟩
  obtain ⟨dND, FND⟩ := Hd.fun_ok (a := Hd.pg K (Hd.ga K "Naming") "days") (x := "days") (q := "Statement.days") (st := sDays) (S.shape 40 rfl) (S.fact 117 rfl)
  have kND := FND.kp
  have bND := FND.binds (ps := ["self"]) fun _ _ _ _ _ _ us hl => match us, hl with | [_], _ => rfl
  have RND : ∀ base : Heap, Pr PySem.Challenge.pw_namechains_k79_statements_written_and_re w K mg base (Hd.ga K "Naming") "days" "_days" (Hd.ma K (Hd.ga K "Naming") "days") (Hd.pg K (Hd.ga K "Naming") "days") dND := fun base => ⟨Hd.prop_ok (S.fact 116 rfl), ok_gD FND NC, bND⟩
  obtain ⟨dNT, FNT⟩ := Hd.fun_ok (a := Hd.pg K (Hd.ga K "Naming") "text") (x := "text") (q := "Statement.text") (st := sText) (S.shape 41 rfl) (S.fact 119 rfl)
  have kNT := FNT.kp
  have bNT := FNT.binds (ps := ["self"]) fun _ _ _ _ _ _ us hl => match us, hl with | [_], _ => rfl
  have RNT : ∀ base : Heap, Pr PySem.Challenge.pw_namechains_k79_statements_written_and_re w K mg base (Hd.ga K "Naming") "text" "_text" (Hd.ma K (Hd.ga K "Naming") "text") (Hd.pg K (Hd.ga K "Naming") "text") dNT := fun base => ⟨Hd.prop_ok (S.fact 118 rfl), ok_gT FNT cN NC.n3, bNT⟩
  obtain ⟨dNN, FNN⟩ := Hd.fun_ok (a := Hd.pg K (Hd.ga K "Naming") "name") (x := "name") (q := "Naming.name") (st := sName) (S.shape 42 rfl) (S.fact 121 rfl)
  have kNN := FNN.kp
  have bNN := FNN.binds (ps := ["self"]) fun _ _ _ _ _ _ us hl => match us, hl with | [_], _ => rfl
  have RNN : ∀ base : Heap, Pr PySem.Challenge.pw_namechains_k79_statements_written_and_re w K mg base (Hd.ga K "Naming") "name" "_name" (Hd.ma K (Hd.ga K "Naming") "name") (Hd.pg K (Hd.ga K "Naming") "name") dNN := fun base => ⟨Hd.prop_ok (S.fact 120 rfl), ok_gN FNN NC, bNN⟩
  obtain ⟨dNC, FNC⟩ := Hd.fun_ok (a := Hd.pg K (Hd.ga K "Naming") "chain") (x := "chain") (q := "Naming.chain") (st := sChainP) (S.shape 43 rfl) (S.fact 123 rfl)
  have kNC := FNC.kp
  have bNC := FNC.binds (ps := ["self"]) fun _ _ _ _ _ _ us hl => match us, hl with | [_], _ => rfl
  have RNC : ∀ base : Heap, Pr PySem.Challenge.pw_namechains_k79_statements_written_and_re w K mg base (Hd.ga K "Naming") "chain" "_chain" (Hd.ma K (Hd.ga K "Naming") "chain") (Hd.pg K (Hd.ga K "Naming") "chain") dNC := fun base => ⟨Hd.prop_ok (S.fact 122 rfl), ok_gC FNC NC, bNC⟩
  obtain ⟨dLP, FLP⟩ := Hd.fun_ok (a := Hd.pg K (Hd.ga K "Leave") "person") (x := "person") (q := "Statement.person") (st := sPerson) (S.shape 44 rfl) (S.fact 125 rfl)
  have kLP := FLP.kp
  have bLP := FLP.binds (ps := ["self"]) fun _ _ _ _ _ _ us hl => match us, hl with | [_], _ => rfl
  have RLP : ∀ base : Heap, Pr PySem.Challenge.pw_namechains_k79_statements_written_and_re w K mg base (Hd.ga K "Leave") "person" "_person" (Hd.ma K (Hd.ga K "Leave") "person") (Hd.pg K (Hd.ga K "Leave") "person") dLP := fun base => ⟨Hd.prop_ok (S.fact 124 rfl), ok_hP FLP cL LC.n1, bLP⟩
  obtain ⟨dLD, FLD⟩ := Hd.fun_ok (a := Hd.pg K (Hd.ga K "Leave") "days") (x := "days") (q := "Statement.days") (st := sDays) (S.shape 45 rfl) (S.fact 127 rfl)
  have kLD := FLD.kp
  have bLD := FLD.binds (ps := ["self"]) fun _ _ _ _ _ _ us hl => match us, hl with | [_], _ => rfl
  have RLD : ∀ base : Heap, Pr PySem.Challenge.pw_namechains_k79_statements_written_and_re w K mg base (Hd.ga K "Leave") "days" "_days" (Hd.ma K (Hd.ga K "Leave") "days") (Hd.pg K (Hd.ga K "Leave") "days") dLD := fun base => ⟨Hd.prop_ok (S.fact 126 rfl), ok_hD FLD cL LC.n2, bLD⟩
  obtain ⟨dLT, FLT⟩ := Hd.fun_ok (a := Hd.pg K (Hd.ga K "Leave") "text") (x := "text") (q := "Statement.text") (st := sText) (S.shape 46 rfl) (S.fact 129 rfl)
  have kLT := FLT.kp
  have bLT := FLT.binds (ps := ["self"]) fun _ _ _ _ _ _ us hl => match us, hl with | [_], _ => rfl
  have RLT : ∀ base : Heap, Pr PySem.Challenge.pw_namechains_k79_statements_written_and_re w K mg base (Hd.ga K "Leave") "text" "_text" (Hd.ma K (Hd.ga K "Leave") "text") (Hd.pg K (Hd.ga K "Leave") "text") dLT := fun base => ⟨Hd.prop_ok (S.fact 128 rfl), ok_gT FLT cL LC.n3, bLT⟩
  obtain ⟨dLS, FLS⟩ := Hd.fun_ok (a := Hd.pg K (Hd.ga K "Leave") "subject") (x := "subject") (q := "Leave.subject") (st := sSubject) (S.shape 47 rfl) (S.fact 131 rfl)
  have kLS := FLS.kp
  have bLS := FLS.binds (ps := ["self"]) fun _ _ _ _ _ _ us hl => match us, hl with | [_], _ => rfl
  have RLS : ∀ base : Heap, Pr PySem.Challenge.pw_namechains_k79_statements_written_and_re w K mg base (Hd.ga K "Leave") "subject" "_subject" (Hd.ma K (Hd.ga K "Leave") "subject") (Hd.pg K (Hd.ga K "Leave") "subject") dLS := fun base => ⟨Hd.prop_ok (S.fact 130 rfl), ok_hS FLS LC, bLS⟩
  obtain ⟨dLTg, FLTg⟩ := Hd.fun_ok (a := Hd.pg K (Hd.ga K "Leave") "tags") (x := "tags") (q := "Leave.tags") (st := sTags) (S.shape 48 rfl) (S.fact 133 rfl)
  have kLTg := FLTg.kp
  have bLTg := FLTg.binds (ps := ["self"]) fun _ _ _ _ _ _ us hl => match us, hl with | [_], _ => rfl
  have RLTg : ∀ base : Heap, Pr PySem.Challenge.pw_namechains_k79_statements_written_and_re w K mg base (Hd.ga K "Leave") "tags" "_tags" (Hd.ma K (Hd.ga K "Leave") "tags") (Hd.pg K (Hd.ga K "Leave") "tags") dLTg := fun base => ⟨Hd.prop_ok (S.fact 132 rfl), ok_hG FLTg LC, bLTg⟩
  obtain ⟨dLTm, FLTm⟩ := Hd.fun_ok (a := Hd.pg K (Hd.ga K "Leave") "times") (x := "times") (q := "Leave.times") (st := sTimes) (S.shape 49 rfl) (S.fact 135 rfl)
  have kLTm := FLTm.kp
  have bLTm := FLTm.binds (ps := ["self"]) fun _ _ _ _ _ _ us hl => match us, hl with | [_], _ => rfl
  have RLTm : ∀ base : Heap, Pr PySem.Challenge.pw_namechains_k79_statements_written_and_re w K mg base (Hd.ga K "Leave") "times" "_times" (Hd.ma K (Hd.ga K "Leave") "times") (Hd.pg K (Hd.ga K "Leave") "times") dLTm := fun base => ⟨Hd.prop_ok (S.fact 134 rfl), ok_hN FLTm LC, bLTm⟩
  obtain ⟨dEqN, FEqN⟩ := Hd.fun_ok (a := Hd.ma K (Hd.ga K "Naming") "__eq__") (x := "__eq__") (q := "Naming.__eq__") (st := sEqN) (S.shape 50 rfl) (S.fact 136 rfl)
  have kEqN := FEqN.kp
  have bEqN := FEqN.binds (ps := ["self", "other"]) fun _ _ _ _ _ _ us hl => match us, hl with | [_, _], _ => rfl
  have GEqN : ∀ base : Heap, FnOk PySem.Challenge.pw_namechains_k79_statements_written_and_re w K mg base CX0 3 (Hd.ma K (Hd.ga K "Naming") "__eq__") dEqN ["self", "other"] (spEqN K (Hd.ga K "Naming")) := fun base => ok_eqN FEqN z_isinstance mN NC IN (RNP base) (RND base) (RNN base) (RNC base)
  obtain ⟨dEqL, FEqL⟩ := Hd.fun_ok (a := Hd.ma K (Hd.ga K "Leave") "__eq__") (x := "__eq__") (q := "Leave.__eq__") (st := sEqL) (S.shape 51 rfl) (S.fact 137 rfl)
  have kEqL := FEqL.kp
  have bEqL := FEqL.binds (ps := ["self", "other"]) fun _ _ _ _ _ _ us hl => match us, hl with | [_, _], _ => rfl
  have GEqL : ∀ base : Heap, FnOk PySem.Challenge.pw_namechains_k79_statements_written_and_re w K mg base CX0 3 (Hd.ma K (Hd.ga K "Leave") "__eq__") dEqL ["self", "other"] (spEqL K (Hd.ga K "Leave")) := fun base => ok_eqL FEqL z_isinstance mL LC IL (RLP base) (RLD base) (RLS base) (RLTg base) (RLTm base)
  have SE : ∀ base : Heap, StEq PySem.Challenge.pw_namechains_k79_statements_written_and_re w K mg base (Hd.ga K "Naming") (Hd.ga K "Leave") (Hd.ma K (Hd.ga K "Naming") "__eq__") (Hd.ma K (Hd.ga K "Leave") "__eq__") dEqN dEqL := fun base => ⟨NC, LC, IN, IL, kNL, kLN, (eqCB_ok (S.fact 138 rfl)), (eqCB_ok (S.fact 139 rfl)), GEqN base, GEqL base, bEqN, bEqL, (S.fact 140 rfl), (S.fact 141 rfl)⟩
  have kNS : PySem.W.kitOne K (.ref (Hd.ga K "Naming")) (.ref (Hd.ga K "Statement")) = some true := Hd.kit_ok (S.fact 142 rfl)
  have kLS : PySem.W.kitOne K (.ref (Hd.ga K "Leave")) (.ref (Hd.ga K "Statement")) = some true := Hd.kit_ok (S.fact 143 rfl)
  have ZF : ∀ base : Heap, Fc PySem.Challenge.pw_namechains_k79_statements_written_and_re w K mg base (Hd.ga K "Naming") (Hd.ga K "Leave") (Hd.ga K "Statement") := fun base => ⟨NC, LC, IN, IL, ⟨_, _, _, RNP base⟩, ⟨_, _, _, RND base⟩, ⟨_, _, _, RNT base⟩, ⟨_, _, _, RNN base⟩, ⟨_, _, _, RNC base⟩, ⟨_, _, _, RLP base⟩, ⟨_, _, _, RLD base⟩, ⟨_, _, _, RLT base⟩, ⟨_, _, _, RLS base⟩, ⟨_, _, _, RLTg base⟩, ⟨_, _, _, RLTm base⟩, kNS, kLS, kLN, m_Statement, mN⟩
  have i_MAX_DIGITS : ∃ t, mg "MAX_DIGITS" = some (.int (31) t) := Hd.int_ok X G (S.fact 144 rfl)
  have m_Reader : mg "Reader" = some (.ref (Hd.ga K "Reader")) := Hd.glo_ok X G (S.fact 146 rfl)
  have mR := m_Reader
  obtain ⟨MR, cR, aR⟩ := Hd.cls_ok (S.fact 145 rfl)
  have RC : RdC K (Hd.ga K "Reader") := ⟨cR, aR _ (by simp), aR _ (by simp)⟩
  obtain ⟨dNx, FNx⟩ := Hd.fun_ok (a := Hd.ma K (Hd.ga K "Reader") "is_next") (x := "is_next") (q := "Reader.is_next") (st := pNext) (S.shape 52 rfl) (S.fact 148 rfl)
  have kNx := FNx.kp
  have oNx : Meth K (Hd.ga K "Reader") "is_next" (Hd.ma K (Hd.ga K "Reader") "is_next") := ⟨(Hd.meth_ok (S.fact 147 rfl)).1, (Hd.meth_ok (S.fact 147 rfl)).2, kNx⟩
  have BNx : BMeth K (Hd.ga K "Reader") "is_next" (Hd.ma K (Hd.ga K "Reader") "is_next") := ⟨oNx, (of_decide_eq_true (S.fact 149 rfl)), (of_decide_eq_true (S.fact 150 rfl)), by decide +kernel, (S.fact 151 rfl)⟩
  have GNx : ∀ base : Heap, FnR PySem.Challenge.pw_namechains_k79_statements_written_and_re w K mg base CX0 2 (Hd.ma K (Hd.ga K "Reader") "is_next") (spStar 1 (spNext K (Hd.ga K "Reader"))) := fun base => ok_next FNx z_len RC
  obtain ⟨dWn, FWn⟩ := Hd.fun_ok (a := Hd.ma K (Hd.ga K "Reader") "is_word_next") (x := "is_word_next") (q := "Reader.is_word_next") (st := pWordN) (S.shape 53 rfl) (S.fact 153 rfl)
  have kWn := FWn.kp
  have bWn := FWn.binds (ps := ["self"]) fun _ _ _ _ _ _ us hl => match us, hl with | [_], _ => rfl
  have oWn : Meth K (Hd.ga K "Reader") "is_word_next" (Hd.ma K (Hd.ga K "Reader") "is_word_next") := ⟨(Hd.meth_ok (S.fact 152 rfl)).1, (Hd.meth_ok (S.fact 152 rfl)).2, kWn⟩
  have GWn : ∀ base : Heap, FnOk PySem.Challenge.pw_namechains_k79_statements_written_and_re w K mg base CX0 2 (Hd.ma K (Hd.ga K "Reader") "is_word_next") dWn ["self"] (spWordN (Hd.ga K "Reader")) := fun base => ok_wordN FWn z_len RC (GWord base) mWord kWord bWord
  obtain ⟨dAe, FAe⟩ := Hd.fun_ok (a := Hd.ma K (Hd.ga K "Reader") "is_at_end") (x := "is_at_end") (q := "Reader.is_at_end") (st := pAtEnd) (S.shape 54 rfl) (S.fact 155 rfl)
  have kAe := FAe.kp
  have bAe := FAe.binds (ps := ["self"]) fun _ _ _ _ _ _ us hl => match us, hl with | [_], _ => rfl
  have oAe : Meth K (Hd.ga K "Reader") "is_at_end" (Hd.ma K (Hd.ga K "Reader") "is_at_end") := ⟨(Hd.meth_ok (S.fact 154 rfl)).1, (Hd.meth_ok (S.fact 154 rfl)).2, kAe⟩
  have GAe : ∀ base : Heap, FnOk PySem.Challenge.pw_namechains_k79_statements_written_and_re w K mg base CX0 1 (Hd.ma K (Hd.ga K "Reader") "is_at_end") dAe ["self"] (spAtEnd (Hd.ga K "Reader")) := fun base => ok_atEnd FAe z_len RC
  obtain ⟨dTk, FTk⟩ := Hd.fun_ok (a := Hd.ma K (Hd.ga K "Reader") "_taken") (x := "_taken") (q := "Reader._taken") (st := pTaken) (S.shape 55 rfl) (S.fact 157 rfl)
  have kTk := FTk.kp
  have bTk := FTk.binds (ps := ["self"]) fun _ _ _ _ _ _ us hl => match us, hl with | [_], _ => rfl
  have oTk : Meth K (Hd.ga K "Reader") "_taken" (Hd.ma K (Hd.ga K "Reader") "_taken") := ⟨(Hd.meth_ok (S.fact 156 rfl)).1, (Hd.meth_ok (S.fact 156 rfl)).2, kTk⟩
  have GTk : ∀ base : Heap, FnOk PySem.Challenge.pw_namechains_k79_statements_written_and_re w K mg base CX0 1 (Hd.ma K (Hd.ga K "Reader") "_taken") dTk ["self"] (spTaken (Hd.ga K "Reader")) := fun base => ok_taken FTk RC
  obtain ⟨dRI, FRI⟩ := Hd.fun_ok (a := Hd.ma K (Hd.ga K "Reader") "__init__") (x := "__init__") (q := "Reader.__init__") (st := pRdI) (S.shape 56 rfl) (S.fact 158 rfl)
  have kRI := FRI.kp
  have bRI := FRI.binds (ps := ["self", "text"]) fun _ _ _ _ _ _ us hl => match us, hl with | [_, _], _ => rfl
  have GRI : ∀ base : Heap, FnOk PySem.Challenge.pw_namechains_k79_statements_written_and_re w K mg base CX0 1 (Hd.ma K (Hd.ga K "Reader") "__init__") dRI ["self", "text"] (spRdI (Hd.ga K "Reader")) := fun base => ok_rdI FRI RC
  obtain ⟨dTs, FTs⟩ := Hd.fun_ok (a := Hd.ma K (Hd.ga K "Reader") "take_sign") (x := "take_sign") (q := "Reader.take_sign") (st := pTakeS) (S.shape 57 rfl) (S.fact 160 rfl)
  have kTs := FTs.kp
  have oTs : Meth K (Hd.ga K "Reader") "take_sign" (Hd.ma K (Hd.ga K "Reader") "take_sign") := ⟨(Hd.meth_ok (S.fact 159 rfl)).1, (Hd.meth_ok (S.fact 159 rfl)).2, kTs⟩
  have GTs : ∀ base : Heap, FnR PySem.Challenge.pw_namechains_k79_statements_written_and_re w K mg base CX0 3 (Hd.ma K (Hd.ga K "Reader") "take_sign") (spStar 1 (spTakeS K (Hd.ga K "Reader"))) := fun base => ok_takeS FTs RC BNx (GNx base) oTk (GTk base) bTk
  obtain ⟨dTw, FTw⟩ := Hd.fun_ok (a := Hd.ma K (Hd.ga K "Reader") "take_word") (x := "take_word") (q := "Reader.take_word") (st := pTakeW) (S.shape 58 rfl) (S.fact 162 rfl)
  have kTw := FTw.kp
  have bTw := FTw.binds (ps := ["self"]) fun _ _ _ _ _ _ us hl => match us, hl with | [_], _ => rfl
  have oTw : Meth K (Hd.ga K "Reader") "take_word" (Hd.ma K (Hd.ga K "Reader") "take_word") := ⟨(Hd.meth_ok (S.fact 161 rfl)).1, (Hd.meth_ok (S.fact 161 rfl)).2, kTw⟩
  have GTw : ∀ base : Heap, FnOk PySem.Challenge.pw_namechains_k79_statements_written_and_re w K mg base CX0 3 (Hd.ma K (Hd.ga K "Reader") "take_word") dTw ["self"] (spTakeW (Hd.ga K "Reader")) := fun base => ok_takeW FTw RC oWn (GWn base) bWn oTk (GTk base) bTk
  have m_is_number : mg "is_number" = some (.ref (Hd.ga K "is_number")) := Hd.glo_ok X G (S.fact 163 rfl)
  have mIsn := m_is_number
  obtain ⟨dIsn, FIsn⟩ := Hd.fun_ok (a := Hd.ga K "is_number") (x := "is_number") (q := "is_number") (st := pIsNum) (S.shape 59 rfl) (S.fact 164 rfl)
  have kIsn := FIsn.kp
  have bIsn := FIsn.binds (ps := ["text", "low", "high"]) fun _ _ _ _ _ _ us hl => match us, hl with | [_, _, _], _ => rfl
  have GIsn : ∀ base : Heap, FnOk PySem.Challenge.pw_namechains_k79_statements_written_and_re w K mg base CX0 1 (Hd.ga K "is_number") dIsn ["text", "low", "high"] spIsNum := fun base => ok_isNum FIsn z_len z_all z_int i_MAX_DIGITS
  obtain ⟨dTn, FTn⟩ := Hd.fun_ok (a := Hd.ma K (Hd.ga K "Reader") "take_number") (x := "take_number") (q := "Reader.take_number") (st := pTakeN) (S.shape 60 rfl) (S.fact 166 rfl)
  have kTn := FTn.kp
  have bTn := FTn.binds (ps := ["self", "low", "high"]) fun _ _ _ _ _ _ us hl => match us, hl with | [_, _, _], _ => rfl
  have oTn : Meth K (Hd.ga K "Reader") "take_number" (Hd.ma K (Hd.ga K "Reader") "take_number") := ⟨(Hd.meth_ok (S.fact 165 rfl)).1, (Hd.meth_ok (S.fact 165 rfl)).2, kTn⟩
  have GTn : ∀ base : Heap, FnOk PySem.Challenge.pw_namechains_k79_statements_written_and_re w K mg base CX0 2 (Hd.ma K (Hd.ga K "Reader") "take_number") dTn ["self", "low", "high"] (spTakeN (Hd.ga K "Reader")) := fun base => ok_takeN FTn z_int RC oAe (GAe base) bAe (GIsn base) mIsn kIsn bIsn oTk (GTk base) bTk
  obtain ⟨dTc, FTc⟩ := Hd.fun_ok (a := Hd.ma K (Hd.ga K "Reader") "take_chain") (x := "take_chain") (q := "Reader.take_chain") (st := pTakeC) (S.shape 61 rfl) (S.fact 168 rfl)
  have kTc := FTc.kp
  have bTc := FTc.binds (ps := ["self", "most"]) fun _ _ _ _ _ _ us hl => match us, hl with | [_, _], _ => rfl
  have oTc : Meth K (Hd.ga K "Reader") "take_chain" (Hd.ma K (Hd.ga K "Reader") "take_chain") := ⟨(Hd.meth_ok (S.fact 167 rfl)).1, (Hd.meth_ok (S.fact 167 rfl)).2, kTc⟩
  have GTc : ∀ base : Heap, FnOk PySem.Challenge.pw_namechains_k79_statements_written_and_re w K mg base CX0 4 (Hd.ma K (Hd.ga K "Reader") "take_chain") dTc ["self", "most"] (spTakeC K (Hd.ga K "Reader")) := fun base => ok_takeC FTc z_len z_tuple RC oWn (GWn base) bWn oTk (GTk base) bTk oTw (GTw base) bTw
  have m_InvalidText : mg "InvalidText" = some (.ref (Hd.ga K "InvalidText")) := Hd.glo_ok X G (S.fact 169 rfl)
  obtain ⟨dEX, FEX⟩ := Hd.fun_ok (a := Hd.ma K (Hd.ga K "InvalidText") "__init__") (x := "__init__") (q := "InvalidText.__init__") (st := eTxt) (S.shape 62 rfl) (S.fact 170 rfl)
  have kEX := FEX.kp
  obtain ⟨RKX, tyX⟩ := exkB_ok PySem.F.excBase_ValueError PySem.F.store_ValueError (S.fact 171 rfl)
  have RX := fun base : Heap => er_txt (P := PySem.Challenge.pw_namechains_k79_statements_written_and_re) (w := w) (base := base) m_InvalidText RKX tyX (of_decide_eq_true (S.fact 172 rfl)) FEX
  obtain ⟨dFi, FFi⟩ := Hd.fun_ok (a := Hd.ma K (Hd.ga K "Reader") "finish") (x := "finish") (q := "Reader.finish") (st := pFinish) (S.shape 63 rfl) (S.fact 175 rfl)
  have kFi := FFi.kp
  have bFi := FFi.binds (ps := ["self"]) fun _ _ _ _ _ _ us hl => match us, hl with | [_], _ => rfl
  have oFi : Meth K (Hd.ga K "Reader") "finish" (Hd.ma K (Hd.ga K "Reader") "finish") := ⟨(Hd.meth_ok (S.fact 174 rfl)).1, (Hd.meth_ok (S.fact 174 rfl)).2, kFi⟩
  have GFi : ∀ base : Heap, FnOk PySem.Challenge.pw_namechains_k79_statements_written_and_re w K mg base (L2.CX PySem.Challenge.pw_namechains_k79_statements_written_and_re w) 3 (Hd.ma K (Hd.ga K "Reader") "finish") dFi ["self"] (spFinish (Hd.ga K "Reader") (Hd.ga K "InvalidText")) := fun base => ok_finish FFi RC oAe (GAe base) bAe (RX base)
  have ZR : ∀ base : Heap, Rdr PySem.Challenge.pw_namechains_k79_statements_written_and_re w K mg base (Hd.ga K "Reader") := fun base => ⟨RC, ⟨_, BNx, GNx base⟩, ⟨_, oTs, GTs base⟩, ⟨_, _, oTw, GTw base, bTw⟩, ⟨_, _, oWn, GWn base, bWn⟩, ⟨_, _, oTn, GTn base, bTn⟩, ⟨_, _, oTc, GTc base, bTc⟩⟩
  have m__days : mg "_days" = some (.ref (Hd.ga K "_days")) := Hd.glo_ok X G (S.fact 176 rfl)
  have mDr := m__days
  obtain ⟨dDr, FDr⟩ := Hd.fun_ok (a := Hd.ga K "_days") (x := "_days") (q := "_days") (st := pDaysR) (S.shape 64 rfl) (S.fact 177 rfl)
  have kDr := FDr.kp
  have bDr := FDr.binds (ps := ["reader"]) fun _ _ _ _ _ _ us hl => match us, hl with | [_], _ => rfl
  have GDr : ∀ base : Heap, FnOk PySem.Challenge.pw_namechains_k79_statements_written_and_re w K mg base CX0 4 (Hd.ga K "_days") dDr ["reader"] (spDaysR K (Hd.ga K "Reader")) := fun base => ok_daysR FDr i_LIMIT (ZR base)
  have m__unlike_chain : mg "_unlike_chain" = some (.ref (Hd.ga K "_unlike_chain")) := Hd.glo_ok X G (S.fact 178 rfl)
  have mUc := m__unlike_chain
  obtain ⟨dUc, FUc⟩ := Hd.fun_ok (a := Hd.ga K "_unlike_chain") (x := "_unlike_chain") (q := "_unlike_chain") (st := pUnl2) (S.shape 65 rfl) (S.fact 179 rfl)
  have kUc := FUc.kp
  have bUc := FUc.binds (ps := ["reader", "earlier"]) fun _ _ _ _ _ _ us hl => match us, hl with | [_, _], _ => rfl
  have GUc : ∀ base : Heap, FnOk PySem.Challenge.pw_namechains_k79_statements_written_and_re w K mg base CX0 4 (Hd.ga K "_unlike_chain") dUc ["reader", "earlier"] (spUnl K (Hd.ga K "Reader")) := fun base => ok_unl2 FUc z_len i_MAX_NAMES (ZR base)
  have m__share : mg "_share" = some (.ref (Hd.ga K "_share")) := Hd.glo_ok X G (S.fact 180 rfl)
  have mSr := m__share
  obtain ⟨dSr, FSr⟩ := Hd.fun_ok (a := Hd.ga K "_share") (x := "_share") (q := "_share") (st := pShareR) (S.shape 66 rfl) (S.fact 181 rfl)
  have kSr := FSr.kp
  have bSr := FSr.binds (ps := ["reader"]) fun _ _ _ _ _ _ us hl => match us, hl with | [_], _ => rfl
  have GSr : ∀ base : Heap, FnOk PySem.Challenge.pw_namechains_k79_statements_written_and_re w K mg base CX0 5 (Hd.ga K "_share") dSr ["reader"] (spShareR K (Hd.ga K "Reader")) := fun base => ok_shareR FSr z_len z_tuple i_MAX_CHAINS (ZR base) (GUc base) mUc kUc bUc
  have m__leave_behind : mg "_leave_behind" = some (.ref (Hd.ga K "_leave_behind")) := Hd.glo_ok X G (S.fact 182 rfl)
  have mLb := m__leave_behind
  obtain ⟨dLb, FLb⟩ := Hd.fun_ok (a := Hd.ga K "_leave_behind") (x := "_leave_behind") (q := "_leave_behind") (st := pLeaveB) (S.shape 67 rfl) (S.fact 183 rfl)
  have kLb := FLb.kp
  have bLb := FLb.binds (ps := ["reader", "person"]) fun _ _ _ _ _ _ us hl => match us, hl with | [_, _], _ => rfl
  have GLb : ∀ base : Heap, FnOk PySem.Challenge.pw_namechains_k79_statements_written_and_re w K mg base CX0 8 (Hd.ga K "_leave_behind") dLb ["reader", "person"] (spLeaveB K (Hd.ga K "Naming") (Hd.ga K "Leave") (Hd.ga K "Reader")) := fun base => ok_leaveB FLb i_LIMIT i_MAX_NAMES i_MAX_TIMES (ZR base) (GSr base) mSr kSr bSr (GDr base) mDr kDr bDr oFi (GFi base) bFi ML (GL base) mL bIL
  have m_read_statement : mg "read_statement" = some (.ref (Hd.ga K "read_statement")) := Hd.glo_ok X G (S.fact 184 rfl)
  have mRs := m_read_statement
  obtain ⟨dRs, FRs⟩ := Hd.fun_ok (a := Hd.ga K "read_statement") (x := "read_statement") (q := "read_statement") (st := pReadS) (S.shape 68 rfl) (S.fact 185 rfl)
  have kRs := FRs.kp
  have bRs := FRs.binds (ps := ["text"]) fun _ _ _ _ _ _ us hl => match us, hl with | [_], _ => rfl
  have GRs : ∀ base : Heap, FnOk PySem.Challenge.pw_namechains_k79_statements_written_and_re w K mg base (L2.CX PySem.Challenge.pw_namechains_k79_statements_written_and_re w) 9 (Hd.ga K "read_statement") dRs ["text"] (spReadS K (Hd.ga K "Naming") (Hd.ga K "Leave") (Hd.ga K "InvalidText")) := fun base => ok_readS FRs z_isinstance z_str i_MAX_NAMES (ZR base) MR (GRI base) mR bRI (GLb base) mLb kLb bLb (GDr base) mDr kDr bDr oFi (GFi base) bFi MN (GN base) mN bIN
  have kwR := kb0_of (ks := ["text"]) (ps := ["text"]) id FRs fun _ _ _ _ _ _ ws h => match ws, h with | [_], _ => rfl
  have m__law_text : mg "_law_text" = some (.ref (Hd.ga K "_law_text")) := Hd.glo_ok X G (S.fact 186 rfl)
  have mTxL := m__law_text
  obtain ⟨dTxL, FTxL⟩ := Hd.fun_ok (a := Hd.ga K "_law_text") (x := "_law_text") (q := "_law_text") (st := sTextL) (S.shape 69 rfl) (S.fact 187 rfl)
  have kTxL := FTxL.kp
  have bTxL := FTxL.binds (ps := ["_law_plain"]) fun _ _ _ _ _ _ us hl => match us, hl with | [_], _ => rfl
  have GTxL : ∀ base : Heap, FnOk PySem.Challenge.pw_namechains_k79_statements_written_and_re w K mg base CX0 1 (Hd.ga K "_law_text") dTxL ["_law_plain"] (spTextL K) := fun base => ok_textL FTxL z_isinstance z_str
  have m__law_statement_pool : mg "_law_statement_pool" = some (.ref (Hd.ga K "_law_statement_pool")) := Hd.glo_ok X G (S.fact 188 rfl)
  have mPool := m__law_statement_pool
  obtain ⟨dPool, FPool⟩ := Hd.fun_ok (a := Hd.ga K "_law_statement_pool") (x := "_law_statement_pool") (q := "_law_statement_pool") (st := sPool) (S.shape 70 rfl) (S.fact 189 rfl)
  have kPool := FPool.kp
  have bPool := FPool.binds (ps := ["_law_pen_here", "_law_many", "_law_top"]) fun _ _ _ _ _ _ us hl => match us, hl with | [_, _, _], _ => rfl
  have GPool : ∀ base : Heap, FnOk PySem.Challenge.pw_namechains_k79_statements_written_and_re w K mg base CX0 7 (Hd.ga K "_law_statement_pool") dPool ["_law_pen_here", "_law_many", "_law_top"] (spPool K) := fun base => ok_pool FPool z_range ⟨GDraw base, mDraw, kDraw, bDraw⟩ ⟨GWords base, mWords, kWords, bWords⟩ ⟨GPick base, mPick, kPick, bPick⟩ ⟨GNamL base, mNamL, kNamL, bNamL⟩ ⟨GLeaL base, mLeaL, kLeaL, bLeaL⟩
  have m__law_facts : mg "_law_facts" = some (.ref (Hd.ga K "_law_facts")) := Hd.glo_ok X G (S.fact 190 rfl)
  have mFac := m__law_facts
  obtain ⟨dFac, FFac⟩ := Hd.fun_ok (a := Hd.ga K "_law_facts") (x := "_law_facts") (q := "_law_facts") (st := sFacts) (S.shape 71 rfl) (S.fact 191 rfl)
  have kFac := FFac.kp
  have bFac := FFac.binds (ps := ["_law_one"]) fun _ _ _ _ _ _ us hl => match us, hl with | [_], _ => rfl
  have GFac : ∀ base : Heap, FnOk PySem.Challenge.pw_namechains_k79_statements_written_and_re w K mg base CX0 3 (Hd.ga K "_law_facts") dFac ["_law_one"] (spFacts K (Hd.ga K "Naming") (Hd.ga K "Leave")) := fun base => ok_facts FFac z_isinstance (ZF base)
  have m__law_due_facts : mg "_law_due_facts" = some (.ref (Hd.ga K "_law_due_facts")) := Hd.glo_ok X G (S.fact 192 rfl)
  have mDue := m__law_due_facts
  obtain ⟨dDue, FDue⟩ := Hd.fun_ok (a := Hd.ga K "_law_due_facts") (x := "_law_due_facts") (q := "_law_due_facts") (st := sDueF) (S.shape 72 rfl) (S.fact 193 rfl)
  have kDue := FDue.kp
  have bDue := FDue.binds (ps := ["_law_plain"]) fun _ _ _ _ _ _ us hl => match us, hl with | [_], _ => rfl
  have GDue : ∀ base : Heap, FnOk PySem.Challenge.pw_namechains_k79_statements_written_and_re w K mg base CX0 1 (Hd.ga K "_law_due_facts") dDue ["_law_plain"] (spDueF K) := fun base => ok_dueF FDue
  have m__law_days_right : mg "_law_days_right" = some (.ref (Hd.ga K "_law_days_right")) := Hd.glo_ok X G (S.fact 194 rfl)
  have mDri := m__law_days_right
  obtain ⟨dDri, FDri⟩ := Hd.fun_ok (a := Hd.ga K "_law_days_right") (x := "_law_days_right") (q := "_law_days_right") (st := sDR) (S.shape 73 rfl) (S.fact 195 rfl)
  have kDri := FDri.kp
  have bDri := FDri.binds (ps := ["_law_plain"]) fun _ _ _ _ _ _ us hl => match us, hl with | [_], _ => rfl
  have GDri : ∀ base : Heap, FnOk PySem.Challenge.pw_namechains_k79_statements_written_and_re w K mg base CX0 9 (Hd.ga K "_law_days_right") dDri ["_law_plain"] (spDR K) := fun base => ok_dright FDri (ZF base) (SE base) MN (GN base) mN bIN ML (GL base) mL bIL
  have xf := xfB_ok (S.fact 196 rfl)
  have cE : CaughtT K (Hd.ga K "InvalidText") := ⟨xf, ⟨xf.ga, xf.gg, xf.exC, xf.hdC, (Hd.ins_ok (S.fact 197 rfl)).1, (Hd.ins_ok (S.fact 197 rfl)).2.1, (Hd.ins_ok (S.fact 197 rfl)).2.2.1, (Hd.ins_ok (S.fact 197 rfl)).2.2.2.1⟩, (of_decide_eq_true (S.fact 173 rfl)), (of_decide_eq_true (S.fact 198 rfl))⟩
  have m_law : mg "law" = some (.ref (Hd.ga K "law")) := Hd.glo_ok X G (S.fact 200 rfl)
  obtain ⟨dLaw, FLaw⟩ := Hd.fun_ok (a := Hd.ga K "law") (x := "law") (q := "law") (st := sLaw) (S.shape 74 rfl) (S.fact 201 rfl)
  have kLaw := FLaw.kp
  have e := hfa.symm.trans m_law
  cases e
  have hb : ∀ (s : Shared) (u : Value), BindsTo s dLaw ⟨[u], []⟩ [("_law_script", u)] := by
    obtain ⟨oc, od, kV, doc, pm, an, cdv, ct, osl, rfl, _, _⟩ := FLaw.ex
    exact fun s u => .of_eq rfl
  exact ⟨_, hb, run_law FLaw T z_range z_min z_repr z_isinstance z_ValueError (S.fact 202 rfl) (fun base => ⟨GPen base, mPen, kPen, bPen⟩) (fun base => ⟨GPool base, mPool, kPool, bPool⟩) (fun base => ⟨GMade base, mMade, kMade, bMade⟩) (fun base => ⟨GTxL base, mTxL, kTxL, bTxL⟩) (fun base => ⟨GFac base, mFac, kFac, bFac⟩) (fun base => ⟨GDue base, mDue, kDue, bDue⟩) (fun base => ⟨GRs base, mRs, kRs, bRs⟩) kwR (fun base => ⟨GDri base, mDri, kDri, bDri⟩) ZF SE m_InvalidText cE (of_decide_eq_true (S.fact 199 rfl))⟩
end
end LW

open PySem PySem.W PySem.Calls PyProof.Rows
set_option maxHeartbeats 0 in
theorem PySem.Challenge.cw_namechains_k79_statements_written_and_re_holds : PySem.Challenge.rw_namechains_k79_statements_written_and_re.Holds := by
  w_on; o_law
  refine HandSHeadRun.head_any (r := LW.RwT) (q := view LW.RwT.prog [67]) (H := Hd.hook 1000 LW.csT LW.dsT) (ob := Hd.ob 1000 LW.csT LW.dsT) (M := 9000) (loose := LW.nmT) (d := HandSHeadRun.topDef LW.RwT.prog 67) (kwd := []) (Hd.ob_eq 1000 LW.csT LW.dsT)
    (by kernel_rfl) (fun s => by kernel_rfl) LW.runT (by kernel_rfl) (by kernel_rfl) (by kernel_rfl) (by rfl) (by first | assumption | decide +kernel) (by decide +kernel) ⟨rfl, rfl, rfl, rfl, rfl, by decide +kernel⟩ ?hw ?hc
  case hw => w_witness2
  case hc =>
    refine Hd.walkY (l := PySem.Challenge.rw_namechains_k79_statements_written_and_re) (n := 63) (x := "_law_script") rfl (by decide) (by kernel_rfl) ?F
    intro w mg fa h Y G hmg0
    obtain ⟨K, KX, c⟩ := Y
    have hmg : mg ("law" : PySem.Str) = some (.ref fa) := by
      have e : (HandSHeadRun.topDef LW.RwT.prog 67).name = ("law" : PySem.Str) := by kernel_rfl
      rw [← e]
      exact hmg0
    obtain ⟨fd, hb, R⟩ := LW.all_mk (w := w) KX G hmg ⟨c⟩
    exact ⟨K, fd, LW.spLaw K, KX, hb, fun H a ns hl _ hS => ⟨a, ns, rfl, hS, hl, fun _ => rfl⟩, R⟩

