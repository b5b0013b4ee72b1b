import PyProof.Rows.All
import Wide.All
import OpenK.AllK
import Wide.FinOn
import HandS.ForMost
import HandS.Style
import HandS.Wide
import HandS.Flow
import HandS.Conv
import HandS.RaiseMore
import HandS.Evl
import HandS.Walk
import PyProof.Rows.RegFStrParts
import HandS.SortInts
import HandS.IsInst
import PyProof.Rows.SortShellAny
import KE.KTupSum
import HandS.Deep
import HandS.TupMul
import HandS.More
import HandS.Iter
import HandS.TupAny
import PyProof.P3Eq
import PySem.Challenge.RW_fewestpours_k17_whole_best_partings
set_option Elab.async false
set_option linter.all false
set_option maxRecDepth 100000
set_option maxHeartbeats 4000000
/-! promises that hold where nothing is being shown (no repr runs): what a def's text may then ask -/
namespace Gd
open PySem PySem.Spec PyProof.Rows L2
/-- no repr runs around -/
abbrev Still (A : Around) : Prop := A.guards = some []
structure FnG (P : Program) (w : World) (K : PySem.W.Frag) (mg : Str → Option Value) (base : Heap) (k : Nat) (f : Addr) (fd : FuncData) (ps : List Str) (sp : Sp) : Prop where
  len : ∀ {vs H Q E}, sp vs H Q E → vs.length = ps.length
  run : ∀ {A outer s H args us vs Q E}, Still A → Room k A → Env0 P w K mg base A outer s H → BindsTo s fd args (ps.zip us) → Vals vs us → sp vs H Q E →
    codeAny (model P w) A (.call (.ref f) args) (CR CX0 outer P w H s Q E) s
section
variable {P : Program} {w : World} {K : PySem.W.Frag} {mg : Str → Option Value} {base : Heap} {j k : Nat} {f : Addr} {fd : FuncData} {ps : List Str} {sp : Sp}
theorem FnG.of (F : FnOk P w K mg base CX0 k f fd ps sp) : FnG P w K mg base k f fd ps sp := ⟨fun h => F.len _ _ _ _ h, fun _ hr e b r h => F.run _ _ _ _ _ _ _ _ _ hr e b r h⟩
theorem FnG.mono (F : FnG P w K mg base j f fd ps sp) (h : j ≤ k) : FnG P w K mg base k f fd ps sp := ⟨F.len, fun g hr => F.run g (hr.mono h)⟩
/-- a def's promise by its body; the body may use that no repr runs -/
theorem okG {x qual : Str} {st : Stmt} {N : List Str} (F : Fun K x qual st f fd) (S : FnScope N ps (defScope st)) (len : ∀ {vs H Q E}, sp vs H Q E → vs.length = ps.length)
    (body : ∀ (cdv : Value) (A : Around) (outer : List Env) (s : Shared) (H : Hp) (vs : List V) (Q : VK) (E : XK), Still A → Room k (A.deeper (envOfC qual (defScope st) s.heap.objs.size f cdv)) → sp vs H Q E →
      ∃ t, PSs (cxOf CX0 P w K mg base N qual (defScope st) f cdv A outer s H E).nox (defBody st) t ∧ t { nx := fun _ H1 => Q .non H1, rt := Q } (start N vs) H) : FnG P w K mg base (k + 1) f fd ps sp := by
  obtain ⟨_, _, kV, doc, pm, an, cdv, ct, _, rfl, at_, code⟩ := F.ex
  constructor
  · exact len
  intro A outer s H args us vs Q E still room e0 binds rel want
  have inK := e0.mod.kin.keeps fun b o e => (e0.bs b o e).1
  have noL := e0.mod.nolimit.keeps fun b o e => (e0.bs b o e).1
  refine codeAny_call_function room.depth (inK _ _ at_) rfl S.co S.gen rfl (PySem.W.codeRec_of inK code) (binds _ _ _ _ (wpAny_newFunctionEnv_cells S.kind ?_ ?_))
  · rintro ⟨n, v⟩ hy
    exact (S.par n (List.of_mem_zip hy).1).imp id fun q => ⟨q, PySem.W.cellsFrom_some _ _ _ (.inl q)⟩
  rintro env rfl s1 made
  refine ⟨noL.keeps made.toInCall.keep, codeAny_func ?_⟩
  obtain ⟨t, ht, hq⟩ := body cdv A outer s H vs Q E still (room.deeper _) want
  have I0 := inv_start (CX := CX0) (E := E) (N := N) S room.hd e0 (len want) rel made
  refine wpAny_mono (ht.nox.run [] s1 (start N vs) H _ I0 hq) ?_ fun _ _ z => z
  rintro (_ | _ | _ | u) s2 z
  · obtain ⟨_, H2, J, q⟩ := z
    exact ⟨V.non, H2, J.os, J.bare, J.base, J.hok, rfl, q⟩
  · obtain ⟨_, _, _, z⟩ := z
    exact (show False from z).elim
  · obtain ⟨_, _, _, z⟩ := z
    exact (show False from z).elim
  · obtain ⟨v, _, H2, J, rv, q⟩ := z
    exact ⟨v, H2, J.os, J.bare, J.base, J.hok, rv, q⟩
end
section
variable {X : Cx} {k : Nat} {f : Addr} {fd : FuncData} {ps ks : List Str} {sp : Sp} {x : Str} {E : XK} {ds : List Value} {dvs : List V} {e : Expr} {es : List Expr} {t tk : TA} {p pos : Pos}
  {g : List Value → List Value → List Value} {gV : List V → List V → List V} {kws : List Keyword}
/-- what comes back from such a call -/
theorem back_of {pins : List (Addr × Obj)} {σ : L2.St} {H : Hp} {s : Shared} {Q : VK} {args : Args} (I : Inv X pins σ H s) (hx : Passes CX0 X E)
    (c : codeAny (model X.prog X.w) X.A (.call (.ref f) args) (CR CX0 X.stack X.prog X.w H s Q E) s) : wpAny (model X.prog X.w) X.A (PySem.call (.ref f) args.pos args.kw) (EP X pins σ Q) X.xe s := by
  refine wpAny_call (codeAny_mono c ?_)
  rintro (err | _ | _ | _ | u) s2 z
  · exact hx pins σ H s err s2 I z
  · exact (show False from z).elim
  · exact (show False from z).elim
  · exact (show False from z).elim
  · exact I.after z
theorem pe_callG (F : FnG X.prog X.w X.K X.mg X.base k f fd ps sp) (still : Still X.A) (hr : Room k X.A) (hg : Gl X x) (hm : X.mg x = some (.ref f)) (hk : PySem.W.keepIn X.K (.ref f) = true) (hb : Binds X.K fd ps ds) (hd : Vals dvs ds) (hx : Passes CX0 X E)
    (ha : PA X (e :: es) t) (hdb : (x == ("__debug__" : Str)) = false := by decide) (he : starEach (e :: es) X.env = (false, eval e X.env) :: starEach es X.env := by rfl) (hpl : (backTo pos (starEach es X.env)).any (·.1) = false := by rfl) :
    PE X (.Call (.Name x p) (e :: es) [] pos) (tCall sp dvs E t) := by
  constructor
  intro pins s σ H Q I h
  refine wpAny_Call_Name_kw (ld_glob I hg hm (PySem.W.callWith_K (h₀ := X.base) I.ok.mod.kin hk (thn (ha.run pos pins s σ H _ I h) ?_) he hpl) hdb)
  rintro us s1 ⟨vs, H1, I1, rel, want⟩
  have rel2 := rel.append hd
  have n2 : (us ++ ds).length = ps.length := rel2.length.symm.trans (F.len want)
  exact ⟨I1.kIn, back_of I1 hx (F.run still hr I1.env0 (hb s1 us I1.kIn n2) rel2 want)⟩
/-- f(k = v, ..): keywords alone, and behind others -/
theorem pe_kwG (F : FnG X.prog X.w X.K X.mg X.base k f fd ps sp) (still : Still X.A) (hr : Room k X.A) (hg : Gl X x) (hm : X.mg x = some (.ref f)) (hk : PySem.W.keepIn X.K (.ref f) = true) (hb : KBinds X.K fd ps ks g gV) (hx : Passes CX0 X E)
    (hkw : PK X kws tk) (hall : (backToKw pos (keywordEach kws X.env)).all (·.1.isSome) = true := by rfl) (hks : (backToKw pos (keywordEach kws X.env)).filterMap (·.1) = ks := by rfl) (hdb : (x == ("__debug__" : Str)) = false := by decide)
    (hpl : ((backTo pos (starEach [] X.env)).any (·.1) || (backToKw pos (keywordEach kws X.env)).any (·.1.isNone)) = false := by rfl) : PE X (.Call (.Name x p) [] kws pos) (tCallK sp gV E tNil tk) := by
  constructor
  intro pins s σ H Q I h
  refine wpAny_Call_Name_kw (ld_glob I hg hm (PySem.W.callWith_KW0 (h₀ := X.base) I.ok.mod.kin hk hall (thn (hkw.run pos pins s σ H _ I h) ?_) hpl) hdb)
  rintro ws s2 ⟨zs, H2, I2, rz, want⟩
  have rel2 := hb.rel (vs := []) (us := []) .nil rz
  rw [hks]
  exact ⟨I2.kIn, back_of I2 hx (F.run still hr I2.env0 (hb.to s2 [] ws I2.kIn (rel2.length.symm.trans (F.len want))) rel2 want)⟩
theorem pe_kwG1 (F : FnG X.prog X.w X.K X.mg X.base k f fd ps sp) (still : Still X.A) (hr : Room k X.A) (hg : Gl X x) (hm : X.mg x = some (.ref f)) (hk : PySem.W.keepIn X.K (.ref f) = true) (hb : KBinds X.K fd ps ks g gV) (hx : Passes CX0 X E)
    (ha : PA X (e :: es) t) (hkw : PK X kws tk) (hall : (backToKw pos (keywordEach kws X.env)).all (·.1.isSome) = true := by rfl) (hks : (backToKw pos (keywordEach kws X.env)).filterMap (·.1) = ks := by rfl) (hdb : (x == ("__debug__" : Str)) = false := by decide)
    (he : starEach (e :: es) X.env = (false, eval e X.env) :: starEach es X.env := by rfl) (hpl : ((backTo pos (starEach (e :: es) X.env)).any (·.1) || (backToKw pos (keywordEach kws X.env)).any (·.1.isNone)) = false := by rfl) :
    PE X (.Call (.Name x p) (e :: es) kws pos) (tCallK sp gV E t tk) := by
  constructor
  intro pins s σ H Q I h
  refine wpAny_Call_Name_kw (ld_glob I hg hm (PySem.W.callWith_KW (h₀ := X.base) I.ok.mod.kin hk hall (thn (ha.run pos pins s σ H _ I h) ?_) hpl he) hdb)
  rintro us s1 ⟨vs, H1, I1, rel, want⟩
  refine thn (hkw.run pos pins s1 σ H1 _ I1 want) ?_
  rintro ws s2 ⟨zs, H2, I2, rz, want⟩
  have rel2 := hb.rel rel rz
  rw [hks]
  exact ⟨I2.kIn, back_of I2 hx (F.run still hr I2.env0 (hb.to s2 us ws I2.kIn (rel2.length.symm.trans (F.len want))) rel2 want)⟩
/-- repr of data without dicts -/
def rReprD (K : PySem.W.Frag) : List V → Hp → VK → Prop := fun vs H Q => ∃ x d, vs = [x] ∧ Dp K H x d ∧ d.showable = true ∧ d.hasDict = false ∧ d.depth ≤ 20 ∧ d.shown.length ≤ sizeLine ∧ Q (.str d.shown) H
theorem call_reprD (still : Still X.A) (hu : X.A.units + 64 < cLine) : CallR X (.builtin "repr") (rReprD X.K) := by
  rintro pins s σ H vs us Q I rel ⟨x, d, rfl, hd, sh, nd, dp, len, want⟩
  cases rel with
  | cons rx rn =>
    cases rn
    rename_i u
    obtain ⟨as, reads⟩ := Dp.reads I d x u hd rx
    have fin : ∀ (h2 : Heap) (t tk : Nat), (∀ b o, s.heap.get? b = some o → h2.get? b = some o) → EP X pins σ Q (.str d.shown t) { s with heap := h2, toks := tk } := fun h2 t tk keep => ⟨.str _, H, I.kept keep, ⟨_, rfl⟩, want⟩
    cases hd with
    | non =>
      cases rx
      exact PySem.P.repr_of_none (fin s.heap _ _ fun _ _ e => e)
    | bl b =>
      cases rx
      exact PySem.P.repr_of_bool (fin s.heap _ _ fun _ _ e => e)
    | int i =>
      obtain ⟨t, rfl⟩ := rx
      exact PySem.P.repr_of_int (of_decide_eq_true sh) (fin s.heap _ _ fun _ _ e => e)
    | str z =>
      obtain ⟨t, rfl⟩ := rx
      exact PySem.P.repr_of_str (fin s.heap _ _ fun _ _ e => e) len
    | lst hs hall =>
      obtain rfl : u = Value.ref _ := rx
      exact repr_of_reads' reads sh (PyData.noDict_hsm nd) still (by omega) (fun _ _ e => e) (fun h2 t tk keep => fin h2 t tk keep) len
    | tup hs hall =>
      obtain rfl : u = Value.ref _ := rx
      exact repr_of_reads' reads sh (PyData.noDict_hsm nd) still (by omega) (fun _ _ e => e) (fun h2 t tk keep => fin h2 t tk keep) len
end
/-- the end: as the layer's own, from a promise that holds where no repr runs -/
theorem law_callG {P : Program} {w : World} {K : PySem.W.Frag} {mg mb : Str → Option Value} {k : Nat} {fa a : Addr} {fd : FuncData} {x : Str} {sp : Sp} {s : Shared} {vs : List Value} {ns : List Int}
    (inK : K.In s.heap) (names : s.heap.Ns mainGlobals mg) (blt : s.heap.Ns builtinsNs mb) (bltIs : ∀ x : Str, x ≠ "__name__" → mb x = bootBuiltins x) (noLim : s.heap.NoLimit) (noGen : s.gens = #[])
    (script : s.heap.get? a = some { cls := .type "list", data := .seq vs.toArray }) (areI : IntsAre vs ns) (len : ns.length ≤ sizeLine) (room : Room k callerA)
    (F : ∀ base : Heap, K.In base → base.Ns mainGlobals mg → FnG P w K mg base k fa fd [x] sp) (binds : ∀ (s : Shared) (u : Value), BindsTo s fd ⟨[u], []⟩ [(x, u)])
    (want : ∀ H : Hp, SqL K H a (ns.map V.int) → sp [.ref a] H (fun v _ => v = .bl true) fun _ _ _ => False) :
    codeAny (model P w) callerA (.call (.ref fa) ⟨[.ref a], []⟩) (fun r s2 => r = .ok (.ret (.bool true)) ∧ OldK s.heap s2.heap ∧ s2.os = s.os ∧ AllBare s2.gens) s := by
  -- over any abstract heap that tracks at most the script
  suffices main : ∀ H : Hp, (∀ b, H b = none ∨ b = a ∧ K.lookup a = none ∧ ∃ o xs, H b = some (.frz o (.lst xs))) → SqL K H a (ns.map V.int) → HOk P w H s.heap →
      codeAny (model P w) callerA (.call (.ref fa) ⟨[.ref a], []⟩) (fun r s2 => r = .ok (.ret (.bool true)) ∧ OldK s.heap s2.heap ∧ s2.os = s.os ∧ AllBare s2.gens) s by
    rcases own : K.lookup a with _ | o
    · refine main (fun b => if b = a then some (.frz { cls := .type "list", data := .seq vs.toArray } (.lst (ns.map V.int))) else none) (fun b => ?_) (.inl (.inr ⟨_, if_pos rfl⟩)) fun b u z => ?_
      · by_cases e : b = a
        · exact .inr ⟨e, own, _, _, if_pos e⟩
        · exact .inl (if_neg e)
      · by_cases e : b = a
        · subst e
          cases (if_pos rfl).symm.trans z
          exact ⟨script, (List.length_map (f := V.int)) ▸ len, vs, _, vals_ints areI, script⟩
        · cases (if_neg e).symm.trans z
    · have same := (inK a o own).symm.trans script
      cases same
      refine main (fun _ => none) (fun _ => .inl rfl) (.inr ⟨_, vs.toArray, _, own, rfl, rfl, rfl, ?_, by simpa using vals_ints areI⟩) fun b u z => by cases z
      rw [List.size_toArray, areI.length]
      exact len
  intro H few at_ hok
  have shown : ∀ {b : Addr} {o : Obj}, s.heap.get? b = some o → H b = none → (hidT s.heap H).get? b = some o := fun e n => hidT_get e n
  -- what is tracked is no namespace, and none of the module's own
  have dicts : ∀ {b : Addr} {o : Obj} {es : Array DictEntry} {ep : Nat}, s.heap.get? b = some o → o.data = .dict es ep → H b = none := by
    intro b o es ep e d
    rcases few b with z | ⟨rfl, _⟩
    · exact z
    · cases e.symm.trans script
      cases d
  have spaces : ∀ {b : Addr} {m : Str → Option Value}, s.heap.Ns b m → (hidT s.heap H).Ns b m := fun ⟨o, es, ep, e, d, r⟩ => ⟨o, es, ep, shown e (dicts e d), d, r⟩
  have inB : K.In (hidT s.heap H) := fun b o e => by
    refine shown (inK b o e) ?_
    rcases few b with z | ⟨rfl, no, _⟩
    · exact z
    · cases no.symm.trans e
  have modB : Mod K mg (hidT s.heap H) := ⟨inB, spaces names, ⟨mb, spaces blt, bltIs⟩, noLim.elim fun mc z => ⟨mc, spaces z.1, z.2⟩⟩
  have env : Env0 P w K mg (hidT s.heap H) callerA [] s H := ⟨rfl, modB, fun _ _ => of_hidT, Nat.le_of_eq (hidT_size _ _), trivial, fun b z => absurd z List.not_mem_nil, hok, .of_eq noGen⟩
  refine codeAny_mono ((F _ inB (spaces names)).run (us := [.ref a]) (vs := [.ref a]) rfl room env (binds s (.ref a)) (.cons rfl .nil) (want H at_)) ?_
  rintro (err | _ | _ | _ | u) s2 z
  · exact (show False from z).elim
  · exact (show False from z).elim
  · exact (show False from z).elim
  · exact (show False from z).elim
  obtain ⟨v, H2, os, bare, un, hok2, rel, rfl⟩ := z
  cases (show u = Value.bool true from rel)
  refine ⟨rfl, OldK.of_keep fun b o e => ?_, os, bare⟩
  rcases few b with z | ⟨_, _, ob, xs, z⟩
  · exact un.keep b o e z (fun y => absurd (show b ∈ ([] : List Addr) from y) List.not_mem_nil) List.not_mem_nil
  · have e1 := (hok b _ z).1.symm.trans e
    cases e1
    exact (hok2 b _ (un.frzs b _ _ z)).1
theorem walk_ofG {l : PySem.W.OpenLaw} {n k : Nat} {q : Program} {loose : List Str} {XP : (Str → Option Value) → Heap → Prop} {YP : World → Heap → Prop} {d : DefRec} {K : Params → PySem.W.Frag} {sp : PySem.W.Frag → Sp} {x : Str}
    (hn : l.most = some n) (hn2 : n ≤ sizeLine) (hdf : d.params.defaults = []) (room : Room k callerA) (hY : ∀ (w : World) (h : Heap), YP w h → (K w.params).In h)
    (F : ∀ (w : World) (mg : Str → Option Value) (fa : Addr) (h : Heap), (K w.params).In h → h.Ns mainGlobals mg → mg d.name = some (.ref fa) →
      ∃ fd : FuncData, (∀ (s : Shared) (u : Value), BindsTo s fd ⟨[u], []⟩ [(x, u)]) ∧ ∀ base : Heap, (K w.params).In base → base.Ns mainGlobals mg → FnG l.prog w (K w.params) mg base k fa fd [x] (sp (K w.params)))
    (want : ∀ (K : PySem.W.Frag) (H : Hp) (a : Addr) (ns : List Int), ns.length ≤ n → SqL K H a (ns.map V.int) → sp K [.ref a] H (fun v _ => v = .bl true) fun _ _ _ => False) :
    PySem.W.WalkO q loose XP YP l.row.toRowW d [] (fun f vs => PySem.call f vs) := by
  refine Att.attach_call hn hdf ?_
  intro w s₀ s mg mb fa o pm cd doc a vs ns G Y ho hd hcd hmg hobj hints hlen hg
  obtain ⟨fd, hb, hF⟩ := F w mg fa _ (hY w _ Y) G.T.g hmg
  exact law_callG (hY w _ Y) G.T.g G.T.b G.T.builtins G.T.nolimit hg hobj hints (Nat.le_trans hlen hn2) room hF hb fun H at_ => want _ H a ns hlen at_
end Gd
/-! the layer's rules with the written part said: so they stand within comprehensions, too -/
namespace Gd
open PySem PySem.Spec PyProof.Rows L2
section
variable {X : Cx} {K : PySem.W.Frag} {tg l e : Expr} {tl te : TE} {pos : Pos}
theorem ixLK (h : X.K = K) : IxR X (rIxL K) := h ▸ ix_list
theorem ixTK (h : X.K = K) : IxR X (rIxT K) := h ▸ ix_tup
theorem slLK (h : X.K = K) : SlR X (rSlL K) := h ▸ sl_list
def rLenK (K : PySem.W.Frag) : List V → Hp → VK → Prop := fun vs H Q => ∃ p ys, vs = [.ref p] ∧ (SqL K H p ys ∨ SqT K H p ys) ∧ Q (.int ys.length) H
theorem lenK (h : X.K = K) : CallR X (.builtin "len") (rLenK K) := by
  subst h
  exact call_len_seq
def rTupK (K : PySem.W.Frag) : List V → Hp → VK → Prop := fun vs H Q => ∃ p ys, vs = [.ref p] ∧ ((SqL K H p ys ∧ ∀ l, H l = none → Q (.ref l) (upd H l (.tup ys))) ∨ (SqT K H p ys ∧ Q (.ref p) H))
theorem tupK (h : X.K = K) : CallR X (.type "tuple") (rTupK K) := by
  subst h
  exact call_tuple_of
def rLstK (K : PySem.W.Frag) : List V → Hp → VK → Prop := fun vs H Q => ∃ p ys, vs = [.ref p] ∧ (SqL K H p ys ∨ SqT K H p ys) ∧ ∀ l, H l = none → Q (.ref l) (upd H l (.lst ys))
theorem lstK (h : X.K = K) : CallR X (.type "list") (rLstK K) := by
  subst h
  exact call_list_of
theorem sumK (h : X.K = K) (hc : X.calm = true) : CallR X (.builtin "sum") (rSum K) := h ▸ cr_sum hc
theorem minK (h : X.K = K) (hc : X.calm = true) : CallR X (.builtin "min") (rMin K) := h ▸ cr_min hc
theorem maxK (h : X.K = K) (hc : X.calm = true) : CallR X (.builtin "max") (rMax K) := h ▸ cr_max hc
theorem sortK (h : X.K = K) : CallR X (.builtin "sorted") (rSorted K) := h ▸ cr_sorted
theorem reprK (h : X.K = K) (still : Still X.A) (hu : X.A.units + 64 < cLine) : CallR X (.builtin "repr") (rReprD K) := h ▸ call_reprD still hu
theorem eqK (h : X.K = K) (hu : X.A.units + 64 < cLine) : OpR X (compareOp .Eq) (rEqD K) := h ▸ op_eqD hu
theorem neK (h : X.K = K) (hu : X.A.units + 64 < cLine) : OpR X (compareOp .NotEq) (rNeD K) := h ▸ op_neD hu
theorem inK (h : X.K = K) : OpR X (compareOp .In) (rIn K false) := h ▸ op_in_seq
theorem ninK (h : X.K = K) : OpR X (compareOp .NotIn) (rIn K true) := h ▸ op_notIn_seq
theorem pi_listK (h : X.K = K) (hl : PE X l tl) : PI X tg l (iList K tl) := h ▸ pi_list hl
theorem pi_tupK (h : X.K = K) (hl : PE X l tl) : PI X tg l (iTup K tl) := h ▸ pi_tup hl
theorem revLK {k : Nat} {p1 p2 p3 : Pos} (h : X.K = K) (he : PE X e te) : PE X (.Subscript e (.Slice none none (some (.UnaryOp .USub (.Constant (.int 1) k p1) p2)) p3) pos) (tRevL K te) := h ▸ pe_revL he
end
/-- what is free in a block is known around it -/
def FreeIn (sc : Scope) : List (Str × NameKind) → Prop
  | [] => True
  | (x, .free) :: r => (sc.names.lookup x = some .cell ∨ sc.names.lookup x = some .free) ∧ FreeIn sc r
  | (_, .local) :: r => FreeIn sc r
  | (_, .cell) :: r => FreeIn sc r
  | (_, .globalImplicit) :: r => FreeIn sc r
  | (_, .globalExplicit) :: r => FreeIn sc r
theorem FreeIn.at {sc : Scope} {ns : List (Str × NameKind)} : ∀ {y : Str × NameKind}, FreeIn sc ns → y ∈ ns → y.2 = .free → sc.names.lookup y.1 = some .cell ∨ sc.names.lookup y.1 = some .free := by
  induction ns with
  | nil => exact fun _ hy _ => absurd hy List.not_mem_nil
  | cons z r ih =>
    intro y h hy hk
    obtain ⟨x, k⟩ := z
    rcases List.mem_cons.mp hy with e | hm
    · subst e
      obtain rfl : k = .free := hk
      exact h.1
    · clear hy
      cases k with
      | free => exact ih h.2 hm hk
      | «local» => exact ih h hm hk
      | cell => exact ih h hm hk
      | globalExplicit => exact ih h hm hk
      | globalImplicit => exact ih h hm hk
theorem blk_in {N : List Str} {sc scope : Scope} {own : List (Str × Nat)} (h : blkC N scope scope own = true) (f : FreeIn sc scope.names) : BlkOk N sc scope own :=
  let b := blkOk_by h
  ⟨b.kind, b.uniq, b.ix, fun _ hy e => f.at hy e, b.own⟩
/-- a def that may be called: where it stands, and its promise -/
structure Cal (P : Program) (w : World) (K : PySem.W.Frag) (mg : Str → Option Value) (base : Heap) (k : Nat) (x : Str) (ps : List Str) (sp : Sp) where
  f : Addr
  fd : FuncData
  ok : FnG P w K mg base k f fd ps sp
  b : Binds K fd ps []
  kp : PySem.W.keepIn K (.ref f) = true
  g : mg x = some (.ref f)
section
variable {X : Cx} {k j : Nat} {ps ks : List Str} {sp : Sp} {x : Str} {e : Expr} {es : List Expr} {t tk : TA} {p pos : Pos} {g : List Value → List Value → List Value} {gV : List V → List V → List V} {kws : List Keyword}
theorem pe_cal (C : Cal X.prog X.w X.K X.mg X.base k x ps sp) (still : Still X.A) (hr : Room k X.A) (ha : PA X (e :: es) t) (hg : Gl X x := by rfl) (hdb : (x == ("__debug__" : Str)) = false := by decide)
    (he : starEach (e :: es) X.env = (false, eval e X.env) :: starEach es X.env := by rfl) (hpl : (backTo pos (starEach es X.env)).any (·.1) = false := by rfl) : PE X (.Call (.Name x p) (e :: es) [] pos) (tCall sp [] E0 t) :=
  pe_callG C.ok still hr hg C.g C.kp C.b .nil pass0 ha hdb he hpl
theorem pe_calK (C : Cal X.prog X.w X.K X.mg X.base k x ps sp) (hb : KBinds X.K C.fd ps ks g gV) (still : Still X.A) (hr : Room k X.A) (hkw : PK X kws tk) (hg : Gl X x := by rfl) (hall : (backToKw pos (keywordEach kws X.env)).all (·.1.isSome) = true := by rfl)
    (hks : (backToKw pos (keywordEach kws X.env)).filterMap (·.1) = ks := by rfl) (hdb : (x == ("__debug__" : Str)) = false := by decide) (hpl : ((backTo pos (starEach [] X.env)).any (·.1) || (backToKw pos (keywordEach kws X.env)).any (·.1.isNone)) = false := by rfl) :
    PE X (.Call (.Name x p) [] kws pos) (tCallK sp gV E0 tNil tk) := pe_kwG C.ok still hr hg C.g C.kp hb pass0 hkw hall hks hdb hpl
end
end Gd
/-! small data: what repr shows of it -/
namespace Gd
open PySem PySem.Spec PyProof.Rows L2
mutual
/-- data of at most so much depth and weight, its ints of twelve digits -/
inductive Sm : Nat → Nat → PyData → Prop
  | non {d : Nat} : Sm d 0 .none
  | bl {d : Nat} (b : Bool) : Sm d 0 (.bool b)
  | int {d : Nat} {i : Int} (h : -999999999999 ≤ i) (h' : i ≤ 999999999999) : Sm d 40 (.int i)
  | str {d : Nat} {x : Str} (h : x.cps.all (· < 0x110000) = true) : Sm d x.cps.size (.str x)
  | lst {d n : Nat} {xs : List PyData} (h : SmAll d n xs) : Sm (d + 1) n (.list xs)
  | tup {d n : Nat} {xs : List PyData} (h : SmAll d n xs) : Sm (d + 1) n (.tuple xs)
inductive SmAll : Nat → Nat → List PyData → Prop
  | nil {d : Nat} : SmAll d 0 []
  | cons {d n m : Nat} {x : PyData} {xs : List PyData} (h : Sm d n x) (r : SmAll d m xs) : SmAll d (n + 1 + m) (x :: xs)
end
structure SmOk (d n : Nat) (x : PyData) : Prop where
  lay : x.canLay0 = true
  dep : x.depth ≤ d
  wgt : x.weight ≤ n
  few : x.intsShort 13 = true
  shw : x.showable = true
structure SmOkAll (d n : Nat) (x : List PyData) : Prop where
  lay : PyData.canLayAll0 x = true
  dep : PyData.depthAll x ≤ d
  wgt : PyData.weightAll x ≤ n
  few : PyData.intsShortAll 13 x = true
  shw : PyData.showableAll x = true
mutual
theorem Sm.ok {d n : Nat} {x : PyData} : Sm d n x → SmOk d n x
  | .non => ⟨rfl, Nat.zero_le _, Nat.zero_le _, rfl, rfl⟩
  | .bl b => ⟨rfl, Nat.zero_le _, Nat.zero_le _, rfl, rfl⟩
  | .int (i := i) h h' => by
    have l40 : i.natAbs < 2 ^ 40 := by
      have : i.natAbs ≤ 999999999999 := by omega
      exact Nat.lt_of_le_of_lt this (by decide)
    have lg : i ≠ 0 → i.natAbs.log2 < 40 := fun h0 => (Nat.log2_lt (by omega)).mpr l40
    refine ⟨rfl, Nat.zero_le _, ?_, decide_eq_true (PyData.shown_int_le2 h h'), ?_⟩
    · show (if i == 0 then 0 else i.natAbs.log2 + 1) ≤ 40
      by_cases h0 : i = 0
      · subst h0
        decide
      · rw [if_neg (by simpa using h0)]
        exact lg h0
    · show decide (i.natAbs.log2 < 1920) = true
      by_cases h0 : i = 0
      · subst h0
        decide
      · exact decide_eq_true (Nat.lt_trans (lg h0) (by decide))
  | .str h => ⟨h, Nat.zero_le _, Nat.le_refl _, rfl, rfl⟩
  | .lst h => by
    have o := h.ok
    refine ⟨by simpa only [PyData.canLay0] using o.lay, ?_, by simpa only [PyData.weight] using o.wgt, by simpa only [PyData.intsShort] using o.few, by simpa only [PyData.showable] using o.shw⟩
    simp only [PyData.depth]
    have := o.dep
    omega
  | .tup h => by
    have o := h.ok
    refine ⟨by simpa only [PyData.canLay0] using o.lay, ?_, by simpa only [PyData.weight] using o.wgt, by simpa only [PyData.intsShort] using o.few, by simpa only [PyData.showable] using o.shw⟩
    simp only [PyData.depth]
    have := o.dep
    omega
theorem SmAll.ok {d n : Nat} {x : List PyData} : SmAll d n x → SmOkAll d n x
  | .nil => ⟨rfl, Nat.zero_le _, Nat.zero_le _, rfl, rfl⟩
  | .cons h r => by
    have a := h.ok
    have b := r.ok
    have a2 := a.dep
    have b2 := b.dep
    have a3 := a.wgt
    have b3 := b.wgt
    refine ⟨by simp only [PyData.canLayAll0, a.lay, b.lay, Bool.and_self], ?_, ?_, by simp only [PyData.intsShortAll, a.few, b.few, Bool.and_self], by simp only [PyData.showableAll, a.shw, b.shw, Bool.and_self]⟩
    · simp only [PyData.depthAll]
      omega
    · simp only [PyData.weightAll]
      omega
end
def rReprS (K : PySem.W.Frag) : List V → Hp → VK → Prop := fun vs H Q => ∃ (x : V) (d : PyData) (dp n : Nat), vs = [x] ∧ Dp K H x d ∧ Sm dp n d ∧ dp ≤ 20 ∧ n ≤ 2 ^ 20 ∧ Q (.str d.shown) H
theorem reprS {X : Cx} {K : PySem.W.Frag} (h : X.K = K) (still : Still X.A) (hu : X.A.units + 64 < cLine) : CallR X (.builtin "repr") (rReprS K) := by
  subst h
  rintro pins s σ H vs us Q I rel ⟨x, d, dp, n, rfl, hd, sm, h1, h2, q⟩
  have o := sm.ok
  have o2 := o.dep
  have lay : PyData.layable0 d = true := by
    unfold PyData.layable0
    rw [o.lay, decide_eq_true (show d.depth ≤ 64 by omega), decide_eq_true (Nat.le_trans o.wgt h2)]
    rfl
  refine call_reprD still hu pins s σ H [x] us Q I rel ⟨x, d, rfl, hd, o.shw, PyData.hasDict_of_layable lay, by omega, Nat.le_trans (shown_le13 lay o.few) (by decide), q⟩
/-- lists of ints -/
theorem smAll_ints {d : Nat} : ∀ ns : List Int, (∀ i ∈ ns, -999999999999 ≤ i ∧ i ≤ 999999999999) → SmAll d (41 * ns.length) (ns.map PyData.int)
  | [], _ => .nil
  | i :: ns, h => by
    have a := smAll_ints (d := d) ns fun j hj => h j (List.mem_cons_of_mem _ hj)
    obtain ⟨b1, b2⟩ := h i (by simp)
    have := SmAll.cons (d := d) (.int b1 b2) a
    rw [List.length_cons, show 41 * (ns.length + 1) = 40 + 1 + 41 * ns.length by omega]
    exact this
theorem dpAll_ints {K : PySem.W.Frag} {H : Hp} : ∀ ns : List Int, DpAll K H (ns.map V.int) (ns.map PyData.int)
  | [] => .nil
  | i :: ns => .cons (.int i) (dpAll_ints ns)
end Gd
/-! sorted of a tuple of ints -/
namespace Gd
open PySem PySem.Spec PyProof.Rows PySem.Builtin
section
variable {prog : Program} {w : World} {A : Around} {E : Value → Shared → Prop} {s : Shared}
theorem collect_tup {l : Addr} {vs : List Value} {Q : List Value → Shared → Prop} (hl : IsTup s.heap l vs.toArray)
    (h : Q vs { s with heap := (s.heap.push (seqObj "list" #[] 0)).update s.heap.objs.size (Obj.mapSeq (· ++ vs.toArray)) }) (hsz : vs.length ≤ sizeLine) :
    wpAny (model prog w) A (collect (.ref l)) Q E s := by
  obtain ⟨o, ho, hc, n, hd⟩ := id hl
  unfold collect
  refine wpAny_bind (wpAny_runValue (codeAny_builtin entry_proto_collect' ?_))
  show wpAny _ _ (do again (.builtin "list.__iadd__" ⟨[← newList [], .ref l], []⟩)) _ _ s
  refine wpAny_bind (wpAny_newList (wpAny_pure ⟨Code.quiet_builtin _ (by decide +kernel), codeAny_builtin entry_list_iadd' ?_⟩))
  show wpAny _ _ (Builtin.List.listExtendWith (.ref s.heap.objs.size) (.ref l) (.ref s.heap.objs.size)) _ _ { s with heap := s.heap.push (seqObj "list" #[] 0) }
  unfold Builtin.List.listExtendWith
  have ho' : (s.heap.push (seqObj "list" #[] 0)).get? l = some o := Heap.get?_push_of_some _ ho
  refine wpAny_bind (wpAny_typeOf (T := "tuple") ⟨o, ho', hc⟩ ?_)
  rw [if_pos (by rw [show (Value.type "tuple" == Value.type "tuple") = true from rfl]; simp)]
  refine wpAny_bind (listItems_at ho' hd ?_)
  refine wpAny_bind (listItems_at (xs := #[]) (n := 0) (Heap.get?_push_size _ rfl) rfl ?_)
  rw [if_neg (by simp)]
  refine wpAny_bind (listUpdate_at (xs := #[]) (n := 0) (Heap.get?_push_size _ rfl) rfl ?_ (Nat.zero_le _) (by show (#[] ++ vs.toArray).size ≤ sizeLine + 1; simp only [Array.size_append, List.size_toArray, List.length_nil]; omega))
  refine wpAny_pure ?_
  show wpAny (model prog w) A (do
      let o ← load s.heap.objs.size
      match o.data with
      | .seq xs _ => pure xs.toList
      | _ => unsupported "internal:collect") Q E { s with heap := (s.heap.push (seqObj "list" #[] 0)).update s.heap.objs.size (Obj.mapSeq (· ++ vs.toArray)) }
  refine wpAny_bind (wpAny_load (get?_update_seq (Heap.get?_push_size _ rfl) _) ?_)
  show wpAny _ _ (pure ((#[] : Array Value) ++ vs.toArray).toList) Q E _
  rw [show ((#[] : Array Value) ++ vs.toArray).toList = vs by simp]
  exact wpAny_pure h
theorem sorted_tup {l : Addr} {vs : List Value} {ns : List Int} {Q : Value → Shared → Prop} (hl : IsTup s.heap l vs.toArray) (hI : IntsAre vs ns) (hL : vs.length ≤ sizeLine)
    (h : ∀ (out : Array Value) (ns' : List Int), IntsAre out.toList ns' → ns'.Perm ns → ns'.Pairwise (· ≤ ·) → Q (.ref (s.heap.objs.size + 1)) { s with heap := sortedAll s.heap vs out }) :
    wpAny (model prog w) A (call (.builtin "sorted") [.ref l]) Q E s := by
  refine Calls.call_function_entry kind_sorted plain_sorted entry_sorted (args_sorted1 _) ?_
  unfold Builtin.«sorted»
  refine wpAny_bind (m := checkCount "sorted" 1 1 _) (wpAny_pure ?_)
  refine wpAny_bind (collect_tup hl ?_ hL)
  refine wpAny_bind (wpAny_newList ?_ hL)
  have hsz : ((s.heap.push (seqObj "list" #[] 0)).update s.heap.objs.size (Obj.mapSeq (· ++ vs.toArray))).objs.size = s.heap.objs.size + 1 := by
    rw [Heap.size_update, size_push']
  have hoL : (((s.heap.push (seqObj "list" #[] 0)).update s.heap.objs.size (Obj.mapSeq (· ++ vs.toArray))).push (seqObj "list" vs.toArray 0)).get? (s.heap.objs.size + 1) = some (seqObj "list" vs.toArray 0) := by
    rw [← hsz]; exact Heap.get?_push_size _ rfl
  show wpAny _ _ _ _ _ { s with heap := ((s.heap.push (seqObj "list" #[] 0)).update s.heap.objs.size (Obj.mapSeq (· ++ vs.toArray))).push (seqObj "list" vs.toArray 0) }
  rw [hsz]
  refine wpAny_bind (wpAny_holding (wpAny_call_entry slot_list_sort ⟨_, hoL, rfl⟩ entry_list_sort (list_sort_treeAny hoL hI hL fun out ns' a1 a2 a3 => ⟨_, rfl, ?_⟩) (args_list_sort _)))
  exact wpAny_pure ⟨_, rfl, h out ns' a1 a2 a3⟩
end
open L2
/-- sorted(xs), a list or tuple of ints -/
def rSrt (K : PySem.W.Frag) : List V → Hp → VK → Prop := fun vs H Q => ∃ (a : Addr) (ns : List Int), vs = [V.ref a] ∧ (SqL K H a (ns.map V.int) ∨ SqT K H a (ns.map V.int)) ∧
  ∀ (ns' : List Int) (p : Addr), ns'.Perm ns → ns'.Pairwise (· ≤ ·) → H p = none → Q (.ref p) (upd H p (.lst (ns'.map V.int)))
theorem srtK {X : Cx} {K : PySem.W.Frag} (hK : X.K = K) : CallR X (.builtin "sorted") (rSrt K) := by
  subst hK
  intro pins s σ H vs us Q I r h
  obtain ⟨a, ns, rfl, hs | hs, q⟩ := h
  · exact cr_sortedI pins s σ H _ us Q I r ⟨a, ns, rfl, hs, q⟩
  · obtain ⟨its, rv, hl, hz⟩ := I.tuple hs
    rw [Vals.ref1 r]
    have hi := rv.ints
    refine sorted_tup hl hi (by rw [← rv.length]; exact hz) fun out ns' k1 k2 k3 => ?_
    obtain ⟨ep, he'⟩ := PyProof.Rows.sortedAll_at s.heap its out
    have hlen : (ns'.map V.int).length ≤ sizeLine := by
      rw [List.length_map, k2.length_eq]
      rw [List.length_map] at hz
      exact hz
    exact ⟨.ref _, upd H (s.heap.objs.size + 1) (.lst (ns'.map V.int)), I.laid (t' := s.toks) (fun _ _ => PyProof.Rows.sortedAll_old) (Nat.le_succ _) ⟨hlen, out.toList, ep, vals_of_ints k1, he'⟩, rfl, q _ _ k2 k3 (I.hok.fresh (Nat.le_succ _))⟩
theorem isiK {X : Cx} {K : PySem.W.Frag} (hK : X.K = K) : CallR X (.builtin "isinstance") (rIsi K) := hK ▸ call_isi
/-- sum of a list or a tuple of ints -/
def rSum2 (K : PySem.W.Frag) : List V → Hp → VK → Prop := fun vs H Q => ∃ (a : Addr) (ns : List Int), vs = [V.ref a] ∧ (SqL K H a (ns.map V.int) ∨ SqT K H a (ns.map V.int)) ∧ Q (.int ns.sum) H
theorem sum2K {X : Cx} {K : PySem.W.Frag} (hK : X.K = K) (hc : X.calm = true) : CallR X (.builtin "sum") (rSum2 K) := by
  subst hK
  intro pins s σ H vs us Q I r h
  obtain ⟨a, ns, rfl, hs | hs, q⟩ := h
  · exact cr_sum hc pins s σ H _ us Q I r ⟨a, ns, rfl, hs, q⟩
  · obtain ⟨its, rv, hl, _⟩ := I.tuple hs
    rw [Vals.ref1 r]
    have hi := rv.ints
    obtain ⟨xs, e⟩ := hi.allInts.items
    have hn : numsOf (intItems xs).toList = ns := by rw [← e]; exact hi.numsOf
    rw [nums_intItems] at hn
    have hl : s.heap.IsTuple a its.toArray := hl
    rw [e] at hl
    refine PySem.W.ktm_sumG (I.ok.hd hc) hl fun h' tk t' hk => ?_
    rw [preSum_eq, List.take_of_length_le (by simp), hn]
    exact ⟨.int _, H, I.kept hk, ⟨_, rfl⟩, q⟩
theorem inDK {X : Cx} {K : PySem.W.Frag} (hK : X.K = K) (hu : X.A.units + 65 < cLine) : OpR X (compareOp .In) (rInD K) := hK ▸ op_inD hu
theorem ninDK {X : Cx} {K : PySem.W.Frag} (hK : X.K = K) (hu : X.A.units + 65 < cLine) : OpR X (compareOp .NotIn) (rNotInD K) := hK ▸ op_notInD hu
theorem units65 {k : Nat} {A : Around} (r : Room k A) : A.units + 65 < cLine := by have := r.un; omega
theorem repTK {X : Cx} {K : PySem.W.Frag} (hK : X.K = K) : OpR X (binaryOp .Mult) (rRepT K) := hK ▸ op_repT
end Gd
/-! the least depths: plain Lean -/
namespace Ld
def lvl (x m : Nat) : Nat → Nat → Nat → Nat × Nat
  | 0, l, f => (l, f)
  | n + 1, l, f => if f * m ≤ x then lvl x m n (l + 1) (f * m) else (l, f)
def LD (x m : Nat) : Nat :=
  if x = 0 then 0 else (lvl x m x 0 1).1 * x + (x - (lvl x m x 0 1).2) + ((x - (lvl x m x 0 1).2) + m - 2) / (m - 1)
theorem lvl_spec {x m : Nat} (hm : 2 ≤ m) : ∀ (n l f : Nat), 1 ≤ f → f ≤ x → x ≤ n + f → f = m ^ l → (lvl x m n l f).2 = m ^ (lvl x m n l f).1 ∧ (lvl x m n l f).2 ≤ x ∧ x < (lvl x m n l f).2 * m
  | 0, l, f, h1, h2, h3, h4 => ⟨h4, h2, by
    show x < f * m
    have : f * 2 ≤ f * m := Nat.mul_le_mul_left f hm
    omega⟩
  | n + 1, l, f, h1, h2, h3, h4 => by
    unfold lvl
    by_cases h : f * m ≤ x
    · rw [if_pos h]
      have : f * 2 ≤ f * m := Nat.mul_le_mul_left f hm
      exact lvl_spec hm n (l + 1) (f * m) (by omega) h (by omega) (by rw [h4, Nat.pow_succ])
    · rw [if_neg h]
      exact ⟨h4, h2, by show x < f * m; omega⟩
theorem level_one {x m j k : Nat} (hm : 2 ≤ m) (h1 : m ^ j ≤ x) (h2 : x < m ^ j * m) (h3 : m ^ k ≤ x) (h4 : x < m ^ k * m) : j = k := by
  rcases Nat.lt_trichotomy j k with h | h | h
  · have : m ^ (j + 1) ≤ m ^ k := Nat.pow_le_pow_right (by omega) h
    rw [Nat.pow_succ] at this
    omega
  · exact h
  · have : m ^ (k + 1) ≤ m ^ j := Nat.pow_le_pow_right (by omega) h
    rw [Nat.pow_succ] at this
    omega
theorem LD_eq {x m k : Nat} (hm : 2 ≤ m) (h1 : m ^ k ≤ x) (h2 : x < m ^ k * m) : LD x m = k * x + (x - m ^ k) + ((x - m ^ k) + m - 2) / (m - 1) := by
  have hp : 0 < m ^ k := Nat.pow_pos (by omega)
  obtain ⟨s1, s2, s3⟩ := lvl_spec (x := x) hm x 0 1 (Nat.le_refl _) (by omega) (by omega) rfl
  rw [s1] at s2 s3
  have e := level_one hm s2 s3 h1 h2
  unfold LD
  rw [if_neg (by omega), s1, e]
theorem LD_at {x m : Nat} (hm : 2 ≤ m) (hx : 1 ≤ x) : ∃ k, m ^ k ≤ x ∧ x < m ^ k * m ∧ LD x m = k * x + (x - m ^ k) + ((x - m ^ k) + m - 2) / (m - 1) := by
  obtain ⟨s1, s2, s3⟩ := lvl_spec (x := x) hm x 0 1 (Nat.le_refl _) (by omega) (by omega) rfl
  rw [s1] at s2 s3
  exact ⟨_, s2, s3, LD_eq hm s2 s3⟩
/-- y parted by m - 1, rounded up -/
theorem up {m d g : Nat} (hm : 2 ≤ m) (hg : g < m - 1) : (d * (m - 1) + g + m - 2) / (m - 1) = d + (if g = 0 then 0 else 1) := by
  have h0 : 0 < m - 1 := by omega
  by_cases h : g = 0
  · subst h
    rw [if_pos rfl, show d * (m - 1) + 0 + m - 2 = (m - 2) + (m - 1) * d by rw [Nat.mul_comm]; omega, Nat.add_mul_div_left _ _ h0, Nat.div_eq_of_lt (by omega)]
    omega
  · rw [if_neg h, show d * (m - 1) + g + m - 2 = (g - 1) + (m - 1) * (d + 1) by rw [Nat.mul_add, Nat.mul_comm (m - 1) d]; omega, Nat.add_mul_div_left _ _ h0, Nat.div_eq_of_lt (by omega)]
    omega
theorem rule_end {m k d x : Nat} (hm : 2 ≤ m) (hd : d ≤ m ^ k) (hx : x = m ^ k + d * (m - 1)) : LD x m = k * x + d * m := by
  have hp : 0 < m ^ k := Nat.pow_pos (by omega)
  by_cases h : d = m ^ k
  · have e : x = m ^ (k + 1) := by
      rw [hx, h, Nat.pow_succ]
      have : m ^ k * (m - 1) + m ^ k * 1 = m ^ k * m := by rw [← Nat.mul_add, show m - 1 + 1 = m by omega]
      omega
    rw [LD_eq (k := k + 1) hm (by omega) (by rw [e]; have : m ^ (k + 1) * 2 ≤ m ^ (k + 1) * m := Nat.mul_le_mul_left _ hm; have : 0 < m ^ (k + 1) := Nat.pow_pos (by omega); omega)]
    rw [← e, Nat.sub_self, show (0 + m - 2) / (m - 1) = 0 from Nat.div_eq_of_lt (by omega)]
    have h2 : d * m = x := by rw [h, e, Nat.pow_succ]
    rw [h2, Nat.add_mul]
    omega
  · have h1 : d * (m - 1) < m ^ k * (m - 1) := Nat.mul_lt_mul_of_pos_right (by omega) (by omega)
    have h2 : m ^ k * (m - 1) + m ^ k * 1 = m ^ k * m := by rw [← Nat.mul_add, show m - 1 + 1 = m by omega]
    rw [LD_eq (k := k) hm (by omega) (by omega), show x - m ^ k = d * (m - 1) + 0 by omega, up hm (by omega), if_pos rfl]
    have h3 : d * (m - 1) + d * 1 = d * m := by rw [← Nat.mul_add, show m - 1 + 1 = m by omega]
    omega
theorem rule_part {m k d g x : Nat} (hm : 2 ≤ m) (hd : d < m ^ k) (hg : 0 < g) (hg2 : g < m - 1) (hx : x = m ^ k + d * (m - 1) + g) : LD x m = k * x + d * m + g + 1 := by
  have h1 : (d + 1) * (m - 1) ≤ m ^ k * (m - 1) := Nat.mul_le_mul_right _ hd
  have h2 : m ^ k * (m - 1) + m ^ k * 1 = m ^ k * m := by rw [← Nat.mul_add, show m - 1 + 1 = m by omega]
  rw [Nat.add_mul] at h1
  rw [LD_eq (k := k) hm (by omega) (by omega), show x - m ^ k = d * (m - 1) + g by omega, up hm hg2, if_neg (by omega)]
  have h3 : d * (m - 1) + d * 1 = d * m := by rw [← Nat.mul_add, show m - 1 + 1 = m by omega]
  omega
/-! ### sums -/
theorem div_bounds {a b : Nat} (hb : 0 < b) : a ≤ (a + b - 1) / b * b ∧ (a + b - 1) / b * b ≤ a + b - 1 := by
  have h1 := Nat.div_add_mod (a + b - 1) b
  have h2 := Nat.mod_lt (a + b - 1) hb
  rw [Nat.mul_comm] at h1
  constructor <;> omega
/-- m - 1 times the least depths lie close above the lines -/
theorem line_at {x m k : Nat} (hm : 2 ≤ m) (h1 : m ^ k ≤ x) (h2 : x < m ^ k * m) : (k * (m - 1)) * x + (x - m ^ k) * m ≤ (m - 1) * LD x m ∧ (m - 1) * LD x m ≤ (k * (m - 1)) * x + (x - m ^ k) * m + (m - 2) := by
  rw [LD_eq hm h1 h2]
  obtain ⟨b1, b2⟩ := div_bounds (a := x - m ^ k) (b := m - 1) (by omega)
  rw [show x - m ^ k + (m - 1) - 1 = x - m ^ k + m - 2 by omega] at b1 b2
  generalize x - m ^ k = y at *
  generalize (y + m - 2) / (m - 1) = z at *
  obtain ⟨c, rfl⟩ : ∃ c, m = c + 1 := ⟨m - 1, by omega⟩
  rw [show c + 1 - 1 = c by omega] at *
  have e : c * (k * x + y + z) = k * c * x + c * y + z * c := by grind
  have e2 : y * (c + 1) = c * y + y := by grind
  rw [e, e2]
  constructor <;> omega
theorem line_any {x m : Nat} (hm : 2 ≤ m) (hx : 1 ≤ x) (k : Nat) : (k * (m - 1)) * x + x * m ≤ (m - 1) * LD x m + m ^ k * m := by
  obtain ⟨j, h1, h2, _⟩ := LD_at hm hx
  have hl := (line_at hm h1 h2).1
  have top : (j * (m - 1)) * x + x * m ≤ (m - 1) * LD x m + m ^ j * m := by
    have e : (x - m ^ j) * m + m ^ j * m = x * m := by rw [← Nat.add_mul, Nat.sub_add_cancel h1]
    omega
  -- up from j, down from j
  have hi : ∀ n, ((j + n) * (m - 1)) * x + x * m ≤ (m - 1) * LD x m + m ^ (j + n) * m := by
    intro n
    induction n with
    | zero => exact top
    | succ n ih =>
      have g : x ≤ m ^ (j + n) * m := by
        have : m ^ j ≤ m ^ (j + n) := Nat.pow_le_pow_right (by omega) (by omega)
        have := Nat.mul_le_mul_right m this
        omega
      have e1 : ((j + (n + 1)) * (m - 1)) * x = ((j + n) * (m - 1)) * x + (m - 1) * x := by rw [← Nat.add_assoc, Nat.add_mul (j + n) 1, Nat.one_mul, Nat.add_mul]
      have e2 : m ^ (j + (n + 1)) * m = m ^ (j + n) * m + (m - 1) * (m ^ (j + n) * m) := by
        rw [← Nat.add_assoc, Nat.pow_succ]
        generalize m ^ (j + n) * m = q
        obtain ⟨c, rfl⟩ : ∃ c, m = c + 1 := ⟨m - 1, by omega⟩
        rw [show c + 1 - 1 = c by omega]
        grind
      have e3 := Nat.mul_le_mul_left (m - 1) g
      omega
  have lo : ∀ n, n ≤ j → ((j - n) * (m - 1)) * x + x * m ≤ (m - 1) * LD x m + m ^ (j - n) * m := by
    intro n
    induction n with
    | zero => intro _; exact top
    | succ n ih =>
      intro hn
      have ih := ih (by omega)
      obtain ⟨i, hi⟩ : ∃ i, j - n = i + 1 := ⟨j - n - 1, by omega⟩
      have e0 : j - (n + 1) = i := by omega
      rw [hi] at ih
      rw [e0]
      have g : m ^ i * m ≤ x := by
        rw [← Nat.pow_succ]
        exact Nat.le_trans (Nat.pow_le_pow_right (by omega) (by omega)) h1
      have e1 : ((i + 1) * (m - 1)) * x = (i * (m - 1)) * x + (m - 1) * x := by rw [Nat.add_mul i 1, Nat.one_mul, Nat.add_mul]
      have e2 : m ^ (i + 1) * m = m ^ i * m + (m - 1) * (m ^ i * m) := by
        rw [Nat.pow_succ]
        generalize m ^ i * m = q
        obtain ⟨c, rfl⟩ : ∃ c, m = c + 1 := ⟨m - 1, by omega⟩
        rw [show c + 1 - 1 = c by omega]
        grind
      have e3 := Nat.mul_le_mul_left (m - 1) g
      omega
  rcases Nat.le_total j k with h | h
  · have := hi (k - j)
    rwa [show j + (k - j) = k by omega] at this
  · have := lo (j - k) (by omega)
    rwa [show j - (j - k) = k by omega] at this
theorem LD_zero (m : Nat) : LD 0 m = 0 := if_pos rfl
def sumL (m : Nat) : List Nat → Nat
  | [] => 0
  | x :: xs => LD x m + sumL m xs
theorem sum_line {m : Nat} (hm : 2 ≤ m) (k : Nat) : ∀ xs : List Nat, (k * (m - 1)) * xs.sum + xs.sum * m ≤ (m - 1) * sumL m xs + xs.length * (m ^ k * m)
  | [] => by simp
  | x :: xs => by
    have ih := sum_line hm k xs
    have h : (k * (m - 1)) * x + x * m ≤ (m - 1) * LD x m + m ^ k * m := by
      by_cases hx : x = 0
      · subst hx
        omega
      · exact line_any hm (by omega) k
    have e : (m - 1) * sumL m (x :: xs) = (m - 1) * LD x m + (m - 1) * sumL m xs := Nat.mul_add ..
    rw [e, List.sum_cons, List.length_cons, Nat.mul_add, Nat.add_mul x, Nat.add_mul xs.length]
    omega
/-- together no more than theirs and one for each -/
theorem together {m : Nat} (hm : 2 ≤ m) (xs : List Nat) (hl : xs.length ≤ m) : LD xs.sum m ≤ sumL m xs + xs.sum := by
  by_cases h0 : xs.sum = 0
  · rw [h0, LD_zero]
    omega
  obtain ⟨k, h1, h2, h3⟩ := LD_at (x := xs.sum) hm (by omega)
  generalize hs : xs.sum = s at *
  cases k with
  | zero =>
    have a : s - m ^ 0 + m - 2 < 2 * (m - 1) := by
      rw [Nat.pow_zero]
      rw [Nat.pow_zero] at h2
      omega
    have b : (s - m ^ 0 + m - 2) / (m - 1) ≤ 1 := by
      have := Nat.div_lt_of_lt_mul (show s - m ^ 0 + m - 2 < (m - 1) * 2 by omega)
      omega
    rw [h3, Nat.pow_zero] at *
    omega
  | succ k =>
    have hl2 := (line_at hm h1 h2).2
    have hsl := sum_line hm k xs
    rw [hs] at hsl
    have e1 : xs.length * (m ^ k * m) ≤ m * (m ^ k * m) := Nat.mul_le_mul_right _ hl
    have ek : m ^ k * m = m ^ (k + 1) := (Nat.pow_succ ..).symm
    rw [ek] at e1 hsl
    have e2 : (s - m ^ (k + 1)) * m + m ^ (k + 1) * m = s * m := by rw [← Nat.add_mul, Nat.sub_add_cancel h1]
    have e3 : ((k + 1) * (m - 1)) * s = (k * (m - 1)) * s + (m - 1) * s := by rw [Nat.add_mul k 1, Nat.one_mul, Nat.add_mul]
    have e4 : m * m ^ (k + 1) = m ^ (k + 1) * m := Nat.mul_comm ..
    have e5 : (m - 1) * (sumL m xs + s) = (m - 1) * sumL m xs + (m - 1) * s := Nat.mul_add ..
    have big : (m - 1) * LD s m ≤ (m - 1) * (sumL m xs + s) + (m - 2) := by omega
    refine Classical.byContradiction fun hn => ?_
    have : (m - 1) * (sumL m xs + s + 1) ≤ (m - 1) * LD s m := Nat.mul_le_mul_left _ (by omega)
    rw [Nat.mul_add (m - 1) _ 1] at this
    omega
/-- each end more lies as deep as the level, at least -/
theorem LD_step {m x k : Nat} (hm : 2 ≤ m) (h1 : m ^ k ≤ x) (h2 : x < m ^ k * m) : LD x m + (k + 1) ≤ LD (x + 1) m := by
  rw [LD_eq hm h1 h2]
  by_cases h : x + 1 < m ^ k * m
  · rw [LD_eq hm (by omega) h, show x + 1 - m ^ k = (x - m ^ k) + 1 by omega, Nat.mul_add]
    have : (x - m ^ k + m - 2) / (m - 1) ≤ (x - m ^ k + 1 + m - 2) / (m - 1) := Nat.div_le_div_right (by omega)
    omega
  · have e : x + 1 = m ^ k + m ^ k * (m - 1) := by
      have h2 : m ^ k * (m - 1) + m ^ k * 1 = m ^ k * m := by rw [← Nat.mul_add, show m - 1 + 1 = m by omega]
      omega
    rw [rule_end (k := k) (d := m ^ k) hm (Nat.le_refl _) e, Nat.mul_add]
    have hp : 0 < m ^ k := Nat.pow_pos (by omega)
    have h3 : (x - m ^ k + m - 2) / (m - 1) ≤ m ^ k := by
      have h4 : x - m ^ k + m - 2 < (m ^ k + 1) * (m - 1) := by
        rw [Nat.add_mul]
        omega
      have := Nat.div_lt_of_lt_mul (show x - m ^ k + m - 2 < (m - 1) * (m ^ k + 1) by rw [Nat.mul_comm]; exact h4)
      omega
    omega
theorem LD_more {m a k : Nat} (hm : 2 ≤ m) (h1 : m ^ k ≤ a) : ∀ n, LD a m + (k + 1) * n ≤ LD (a + n) m
  | 0 => by simp
  | n + 1 => by
    have ih := LD_more hm h1 n
    have hp : 0 < m ^ k := Nat.pow_pos (by omega)
    obtain ⟨j, g1, g2, _⟩ := LD_at (x := a + n) hm (by omega)
    have st := LD_step hm g1 g2
    have hj : k ≤ j := Classical.byContradiction fun hn => by
      have : m ^ (j + 1) ≤ m ^ k := Nat.pow_le_pow_right (by omega) (by omega)
      rw [Nat.pow_succ] at this
      omega
    rw [← Nat.add_assoc, Nat.mul_add]
    omega
theorem LD_below {m b k : Nat} (hm : 2 ≤ m) (h : b < m ^ k * m) : LD b m ≤ (k + 1) * b := by
  by_cases h0 : b = 0
  · subst h0
    rw [LD_zero]
    omega
  obtain ⟨j, g1, g2, g3⟩ := LD_at (x := b) hm (by omega)
  have hj : j ≤ k := Classical.byContradiction fun hn => by
    have : m ^ (k + 1) ≤ m ^ j := Nat.pow_le_pow_right (by omega) (by omega)
    rw [Nat.pow_succ] at this
    omega
  have h2 : m ^ j * (m - 1) + m ^ j * 1 = m ^ j * m := by rw [← Nat.mul_add, show m - 1 + 1 = m by omega]
  have h3 : (b - m ^ j + m - 2) / (m - 1) ≤ m ^ j := by
    have h4 : b - m ^ j + m - 2 < (m ^ j + 1) * (m - 1) := by
      rw [Nat.add_mul]
      omega
    have := Nat.div_lt_of_lt_mul (show b - m ^ j + m - 2 < (m - 1) * (m ^ j + 1) by rw [Nat.mul_comm]; exact h4)
    omega
  have h5 : (j + 1) * b ≤ (k + 1) * b := Nat.mul_le_mul_right _ (by omega)
  rw [Nat.add_mul j 1 b] at h5
  omega
theorem pair {m a b : Nat} (hm : 2 ≤ m) : LD a m + LD b m ≤ LD (a + b) m := by
  have main : ∀ a b, b ≤ a → LD a m + LD b m ≤ LD (a + b) m := fun a b hle => by
    by_cases h0 : a = 0
    · have : b = 0 := by omega
      subst this
      subst h0
      simp [LD_zero]
    obtain ⟨k, h1, h2, _⟩ := LD_at (x := a) hm (by omega)
    have h3 := LD_more hm h1 b
    have h4 := LD_below (b := b) hm (k := k) (by omega)
    omega
  rcases Nat.le_total b a with h | h
  · exact main a b h
  · have := main b a h
    rw [Nat.add_comm b a] at this
    omega
theorem apart {m : Nat} (hm : 2 ≤ m) : ∀ xs : List Nat, sumL m xs ≤ LD xs.sum m
  | [] => Nat.zero_le _
  | x :: xs => by
    have ih := apart hm xs
    have := pair (a := x) (b := xs.sum) hm
    rw [List.sum_cons]
    show LD x m + sumL m xs ≤ _
    omega
def cellM (prev : List (Option Nat)) (ls : List Nat) (x k : Nat) : List Nat :=
  (List.range (min k (x - 1))).filterMap fun i => (prev.getD (k - (i + 1)) none).map (· + ls.getD (i + 1) 0)
def minO : List Nat → Option Nat
  | [] => none
  | a :: r => some (r.foldl min a)
def rowAt (ls : List Nat) (x : Nat) : Nat → List (Option Nat)
  | 0 => (List.range (x + 1)).map fun k => if k = 0 then some 0 else none
  | t + 1 => (List.range (x + 1)).map fun k => minO (cellM (rowAt ls x t) ls x k)
def lastM (ls : List Nat) (m x : Nat) : List Nat := (List.range (m - 1)).filterMap fun i => (rowAt ls x (i + 2)).getD x none
def told (m n : Nat) : List Nat := (List.range n).map (LD · m)
/-- evaluated with plain recursion: the row behind another -/
def okM (m x : Nat) : Bool := match minO (lastM (told m x) m x) with
  | some z => x + z == LD x m
  | none => false
set_option maxRecDepth 100000 in
theorem chk : ∀ m ∈ List.range 6, ∀ x ∈ List.range 29, okM (m + 2) (x + 2) = true := by decide +kernel
theorem next {m x : Nat} (h1 : 2 ≤ m) (h2 : m ≤ 7) (h3 : 2 ≤ x) (h4 : x ≤ 30) : ∃ z, minO (lastM (told m x) m x) = some z ∧ x + z = LD x m := by
  have h := chk (m - 2) (List.mem_range.mpr (by omega)) (x - 2) (List.mem_range.mpr (by omega))
  rw [show m - 2 + 2 = m by omega, show x - 2 + 2 = x by omega] at h
  unfold okM at h
  cases e : minO (lastM (told m x) m x) with
  | none =>
    rw [e] at h
    cases h
  | some z =>
    rw [e] at h
    exact ⟨z, rfl, by simpa using h⟩
set_option maxRecDepth 100000 in
theorem chkP : ∀ m ∈ List.range 6, ∀ x ∈ List.range 31, decide (x ^ x ≤ (m + 2) ^ LD x (m + 2)) && (decide (x ^ x = (m + 2) ^ LD x (m + 2)) == [0, 1, m + 2, (m + 2) * (m + 2), (m + 2) * (m + 2) * (m + 2), (m + 2) * (m + 2) * (m + 2) * (m + 2)].contains x) = true := by decide +kernel
theorem minO_some : ∀ {xs : List Nat} {z : Nat}, z ∈ xs → (∀ y ∈ xs, z ≤ y) → minO xs = some z
  | a :: r, z, hz, hle => by
    have fold : ∀ (r : List Nat) (a : Nat), (r.foldl min a ∈ a :: r) ∧ ∀ y ∈ a :: r, r.foldl min a ≤ y := by
      intro r
      induction r with
      | nil => intro a; simp
      | cons b r ih =>
        intro a
        obtain ⟨i1, i2⟩ := ih (min a b)
        show r.foldl min (min a b) ∈ a :: b :: r ∧ ∀ y ∈ a :: b :: r, r.foldl min (min a b) ≤ y
        constructor
        · rcases List.mem_cons.mp i1 with e | e
          · rw [e]
            rcases Nat.le_total a b with h | h
            · rw [Nat.min_eq_left h]
              simp
            · rw [Nat.min_eq_right h]
              simp
          · exact List.mem_cons_of_mem _ (List.mem_cons_of_mem _ e)
        · intro y hy
          have hm := i2 (min a b) (by simp)
          rcases List.mem_cons.mp hy with e | hy
          · have := Nat.min_le_left a b
            omega
          · rcases List.mem_cons.mp hy with e | hy
            · have := Nat.min_le_right a b
              omega
            · exact i2 y (List.mem_cons_of_mem _ hy)
    obtain ⟨f1, f2⟩ := fold r a
    show some (r.foldl min a) = some z
    have h1 := f2 z hz
    have h2 := hle _ f1
    rw [Nat.le_antisymm h1 h2]
end Ld
/-! partings: plain Lean -/
namespace Pt
open Ld
def mx (xs : List Nat) : Nat := xs.foldl max 1
def stepS (total many : Nat) (some : List Nat) : List (List Nat) := (List.range ((total - some.sum) / (many - some.length) + 1 - mx some)).map fun i => some ++ [mx some + i]
def rowsS (total many : Nat) : Nat → List (List Nat)
  | 0 => [[]]
  | t + 1 => (rowsS total many t).flatMap (stepS total many)
def endS (total : Nat) (xs : List Nat) : Option (List Nat) := if mx xs ≤ total - xs.sum then some (xs ++ [total - xs.sum]) else none
def splitS (total many : Nat) : List (List Nat) := (rowsS total many (many - 1)).filterMap (endS total)
def partsS (m x : Nat) : List (List Nat) := (List.range (m - 1)).flatMap fun i => splitS x (i + 2)
def sumD (m : Nat) (xs : List Nat) : Nat := (xs.map (LD · m)).sum
def isB (m : Nat) (xs : List Nat) : Bool := LD xs.sum m == xs.sum + sumD m xs
def bestS (m x : Nat) : List (List Nat) := (partsS m x).filter (isB m)
/-! ### one best parting -/
def bpp (x m : Nat) : Nat → Nat → Nat
  | 0, p => p
  | n + 1, p => if p * m * m ≤ x then bpp x m n (p * m) else p
def bpl (m part : Nat) : Nat → Nat → List Nat
  | 0, _ => []
  | n + 1, left => (part + min left (part * (m - 1))) :: bpl m part n (left - min left (part * (m - 1)))
def bpS (x m : Nat) : List Nat := if x ≤ m then List.replicate x 1 else bpl m (bpp x m x 1) m (x - bpp x m x 1 * m)
def byTwo (one other : Nat) : Bool := [1, 2, 4, 8, 16].any fun k => decide (k ≤ min one other) && decide (max one other ≤ 2 * k)
/-! ### what is evaluated -/
def okRow (total t : Nat) (xs : List Nat) : Bool := xs.length == t && decide (xs.sum ≤ total) && xs.all fun e => decide (1 ≤ e) && decide (e ≤ total)
def okSplit (total many : Nat) : Bool := (List.range many).all fun t => decide ((rowsS total many t).length ≤ 200) && (rowsS total many t).all (okRow total t)
def okPart (m x : Nat) (xs : List Nat) : Bool := decide (2 ≤ xs.length) && decide (xs.length ≤ m) && (xs.sum == x) && xs.all fun e => decide (1 ≤ e)
def sortedN : List Nat → Bool
  | a :: b :: r => decide (a ≤ b) && sortedN (b :: r)
  | _ => true
def okAll (m x : Nat) : Bool :=
  decide ((partsS m x).length ≤ 300) && (partsS m x).all (okPart m x) && (bestS m x).contains (bpS x m).reverse && sortedN (bpS x m).reverse && decide (2 ≤ (bpS x m).length) && ((bpS x m).sum == x) && decide ((bpS x m).length ≤ m) && (bpS x m).all (fun e => decide (1 ≤ e)) &&
  (![m, m * m, m * m * m, m * m * m * m].contains x || bestS m x == [List.replicate m (x / m)]) &&
  (!(m == 2) || (partsS m x).all fun xs => isB m xs == byTwo (xs.getD 0 0) (xs.getD 1 0))
set_option maxRecDepth 100000 in
theorem chkS : ∀ total ∈ List.range 17, ∀ many ∈ List.range 4, okSplit total (many + 2) = true := by decide +kernel
set_option maxRecDepth 100000 in
theorem chkA : ∀ m ∈ List.range 4, ∀ x ∈ List.range 15, okAll (m + 2) (x + 2) = true := by decide +kernel
end Pt
namespace Lw
open PySem PySem.Spec PyProof.Rows L2 Gd
def topS (i : Nat) : Stmt := PySem.Challenge.pw_fewestpours_k17_whole_best_partings.main.body.getD i (.Pass ⟨0, 0, 0, 0⟩)
abbrev sDraw : Stmt := topS 9
abbrev sAny : Stmt := topS 10
theorem scDraw : FnScope ["script", "salt", "cell", "cells", "blend"] ["script", "salt"] (defScope sDraw) := ⟨rfl, rfl, rfl, by decide +kernel, rfl, by decide +kernel, by decide +kernel⟩
/-- what is told of the draws' source: its address, that of its great cells, these, and the blend -/
structure Deal (H : Hp) (p q : Addr) (cs : List Int) (b : Int) : Prop where
  top : H p = some (.lst [.ref q, .int b])
  low : H q = some (.lst (cs.map V.int))
  ne : p ≠ q
  b0 : 0 ≤ b
  c0 : ∀ c ∈ cs, 0 ≤ c
  len : cs.length ≤ 48
def spDraw (K : PySem.W.Frag) : Sp := fun vs H Q _ => ∃ (a : Addr) (ns : List Int) (salt : Int), vs = [.ref a, .int salt] ∧ SqL K H a (ns.map V.int) ∧ 0 ≤ salt ∧ salt ≤ 1000 ∧
  ∀ H' p q cs b, Same H H' → H p = none → H q = none → Deal H' p q cs b → Q (.ref p) H'
theorem same_new {H : Hp} {p : Addr} {o : HO} (h : H p = none) : Same H (upd H p o) := fun b x e => by
  rw [upd_ne (ne_of_none e h)]
  exact e
theorem same_mut {H H' : Hp} {p : Addr} {o : HO} (e : Same H H') (h : H p = none) : Same H (upd H' p o) := fun a u ha => by
  rw [upd_ne (ne_of_none ha h)]
  exact e a u ha
theorem free_back {H H' : Hp} {p : Addr} (e : Same H H') (h : H' p = none) : H p = none := by
  cases h1 : H p with
  | none => rfl
  | some o =>
    rw [e p o h1] at h
    cases h
theorem sq_at {K : PySem.W.Frag} {H : Hp} {a : Addr} {xs : List V} (h : H a = some (.lst xs)) : SqL K H a xs := .inl (.inl h)
theorem st_at {K : PySem.W.Frag} {H : Hp} {a : Addr} {xs : List V} (h : H a = some (.tup xs)) : SqT K H a xs := .inl (.inl h)
theorem cut_to (ns : List Int) : cutV (ns.map V.int) none (some 48) = (ns.take 48).map V.int := by
  unfold cutV
  rw [show HT.sIx (ns.map V.int).length 0 none = 0 from rfl, show HT.sIx (ns.map V.int).length (ns.map V.int).length (some 48) = min 48 (ns.map V.int).length from HT.sIx_nat _ _ 48]
  rw [List.drop_zero, Nat.sub_zero, List.map_take]
  by_cases h : 48 ≤ (ns.map V.int).length
  · rw [Nat.min_eq_left h]
  · rw [Nat.min_eq_right (by omega), List.take_length, List.take_of_length_le (by omega)]
theorem int_at {ns : List Int} {i : Nat} {x : V} (h : (ns.map V.int)[i]? = some x) : ∃ z, ns[i]? = some z ∧ x = .int z := by
  rw [List.getElem?_map] at h
  cases e : ns[i]? with
  | none => rw [e] at h; cases h
  | some z =>
    rw [e] at h
    exact ⟨z, rfl, (Option.some.inj h).symm⟩
theorem take_step {ks : List Int} {i : Nat} {z : Int} (h : ks[i]? = some z) : ks.take (i + 1) = ks.take i ++ [z] := by
  rw [List.take_add_one, h]
  rfl
theorem tt_yes {C A : Hp → Prop} {σ : L2.St} {H : Hp} (h : A H) : tYes σ H fun b H3 => if b = true then A H3 else C H3 := by
  show (if true = true then A H else C H)
  rw [if_pos rfl]
  exact h
theorem abs_is (z : Int) : (if z < 0 then -z else z) = ((z.natAbs : Nat) : Int) := by split <;> omega
section
variable {P : Program} {w : World} {K : PySem.W.Frag} {mg : Str → Option Value} {base : Heap}
theorem ok_draw {f : Addr} {fd : FuncData} {k : Nat} (F : Fun K "_law_draw" "_law_draw" sDraw f fd) (mabs : mg "abs" = none) (mint : mg "int" = none) : FnOk P w K mg base CX0 (k + 1) f fd ["script", "salt"] (spDraw K) := by
  refine F.ok scDraw (fun vs H Q E h => ?_) (fun cdv A outer s H vs Q E hr h => ?_)
  · obtain ⟨a, ns, salt, rfl, _⟩ := h
    rfl
  · obtain ⟨a, ns, salt, rfl, hS, hs0, hs1, q⟩ := h
    refine ⟨_, pss_cons (ps_setLc (i := 3) (own := [("cell", 2)]) (g := gName 2) (tt := tYes) rfl scDraw.nd rfl rfl (sw_true rfl rfl rfl (by decide +kernel))
        (pi_list (pe_slice sl_list (pv 0) po_none (po_some pe_int))) (blkOk_by (N := ["script", "salt", "cell", "cells", "blend"]) (sc := defScope sDraw) (by decide +kernel))
        (fun _ _ _ _ _ => pg_name (i := 2) scDraw.nd rfl (Or.inl rfl)) (fun _ _ _ _ _ => pts_nil)
        (fun _ _ _ _ _ => pe_callB call_abs (by rfl) mabs (by decide +kernel) (pa_cons (pe_callTy call_int1 (by rfl) mint (by decide +kernel) (pa_cons (pv 2) pa_nil)) pa_nil)))
      (pss_cons (ps_set (i := 4) scDraw.nd rfl (.inl rfl) (pe_op op_add pe_int (pe_op op_mul pe_int (pv 1))))
      (pss_cons (ps_for PassesOwn.never rfl (pi_list (pv 3)) (pg_name (i := 2) scDraw.nd rfl (.inl rfl))
        (pss_one (ps_set (i := 4) scDraw.nd rfl (.inl rfl) (pe_op op_mod (pe_callTy call_int1 (by rfl) mint (by decide +kernel) (pa_cons (pe_op op_add (pe_op op_add (pe_op op_mul (pv 4) pe_int) (pe_op op_mod (pv 2) pe_int)) pe_int) pa_nil)) pe_int))))
      (pss_one (ps_ret (pe_lst (pa_cons (pe_revL (pe_lc (own := [("cell", 2)]) (g := gName 2) rfl scDraw.nd (pi_list (pv 3)) (blkOk_by (N := ["script", "salt", "cell", "cells", "blend"]) (sc := defScope sDraw) (by decide +kernel))
        (fun _ _ _ _ _ => pg_name (i := 2) scDraw.nd rfl (Or.inl rfl)) (fun _ _ _ _ _ => pts_one (pt_cmpR op_ge (pv 2) (pe_op op_pow pe_int pe_int) (nomark _))) (fun _ _ _ _ _ => pv 2)))
        (pa_cons (pv 4) pa_nil))))))), ?_⟩
    -- cells = [abs(int(cell)) for cell in script[:48]]
    refine ⟨.ref a, rfl, 48, rfl, a, ns.map V.int, rfl, hS, fun c nc => ?_⟩
    rw [cut_to]
    have s1 : Same H (upd H c (.lst ((ns.take 48).map V.int))) := same_new nc
    generalize hms : ns.take 48 = ms at s1 ⊢
    have lms : ms.length ≤ 48 := by rw [← hms, List.length_take]; omega
    generalize hks : (ms.map fun z => ((z.natAbs : Nat) : Int)) = ks
    have lks : ks.length ≤ 48 := by rw [← hks, List.length_map]; exact lms
    have pks : ∀ z ∈ ks, 0 ≤ z := fun z hz => by
      rw [← hks] at hz
      obtain ⟨y, _, rfl⟩ := List.mem_map.mp hz
      omega
    refine ⟨c, rfl, ⟨_, sq_at upd_same⟩, fun D nD => lc_list (xs := ms.map V.int) (fun i H2 => Same (upd H c (.lst (ms.map V.int))) H2 ∧ H2 D = some (.lst ((ks.take i).map V.int)))
      ⟨same_new nD, upd_same⟩ (fun i H2 _ h2 => h2.1.seq (sq_at upd_same)) ?_ ?_⟩
    · rintro i x H2 hx ⟨s2, hD⟩
      obtain ⟨z, hz, rfl⟩ := int_at hx
      refine ⟨rfl, tt_yes ?_⟩
      refine ⟨_, rfl, .inl ⟨z, rfl, z, rfl, _, hD, ?_, same_mut s2 nD, ?_⟩⟩
      · rw [List.length_map, List.length_take]
        exact small1000 (by omega)
      · rw [upd_same, take_step (z := ((z.natAbs : Nat) : Int)) (by rw [← hks, List.getElem?_map, hz]; rfl), List.map_append, abs_is]
        rfl
    rintro H2 ⟨s2, hD⟩
    rw [show (ms.map V.int).length = ks.length by rw [← hks, List.length_map, List.length_map], List.take_length] at hD
    have fD : H D = none := free_back s1 nD
    -- blend = 7919 + 104729 * salt
    refine ⟨_, rfl, _, _, rfl, rfl, .inl ⟨by decide, by decide⟩, _, _, rfl, rfl, ?_⟩
    -- for cell in cells
    have sD : Same H H2 := s1.trans s2
    refine ⟨_, rfl, D, rfl, ⟨_, sq_at hD⟩, for_list (K := K) (a := D) (xs := ks.map V.int) (fun i σ H3 => ∃ (v : Option V) (b : Int), σ = [some (.ref a), some (.int salt), v, some (.ref D), some (.int b)] ∧ 0 ≤ b ∧ b < 2 ^ 40 ∧ H3 = H2)
      ⟨none, _, rfl, by omega, by omega, rfl⟩ (fun i σ H3 _ ⟨_, _, _, _, _, e⟩ => e ▸ sq_at hD) ?_ ?_⟩
    · rintro i x σ H3 hx ⟨v, b, rfl, b0, b1, rfl⟩
      obtain ⟨z, hz, rfl⟩ := int_at hx
      refine ⟨_, rfl, _, _, rfl, rfl, .inr ⟨by decide, by decide⟩, _, rfl, _, _, rfl, rfl, (by show (0 : Int) < 2147483549; decide), _, _, rfl, rfl, _, _, rfl, rfl, .inl ⟨_, rfl, _, _, rfl, rfl, (by show (0 : Int) < 2147483647; decide), _, _, rfl, ?_, ?_, rfl⟩⟩
      · exact Int.emod_nonneg _ (by decide)
      · exact Int.lt_trans (Int.emod_lt_of_pos _ (by decide)) (by decide)
    rintro σ H3 ⟨v, b, rfl, b0, b1, rfl⟩
    -- [[cell for cell in cells if cell >= 10 ** 18][::-1], blend]
    refine ⟨_, rfl, D, rfl, ⟨_, sq_at hD⟩, fun G nG => lc_list (xs := ks.map V.int) (fun i H4 => Same H3 H4 ∧ ∃ cs : List Int, H4 G = some (.lst (cs.map V.int)) ∧ cs.length ≤ i ∧ ∀ z ∈ cs, 0 ≤ z)
      ⟨same_new nG, [], upd_same, Nat.le_refl _, fun z hz => nomatch hz⟩ (fun i H4 _ h4 => h4.1.seq (sq_at hD)) ?_ ?_⟩
    · rintro i x H4 hx ⟨s4, cs, hG, lc, pc⟩
      have hi := (List.getElem?_eq_some_iff.mp hx).1
      rw [List.length_map] at hi
      obtain ⟨z, hz, rfl⟩ := int_at hx
      refine ⟨rfl, _, rfl, _, _, rfl, rfl, ⟨by decide, by decide, by decide⟩, _, _, rfl, rfl, _, rfl, ?_⟩
      refine ite2 (fun _ => ?_) (fun _ => ?_)
      · refine ⟨_, rfl, _, hG, ?_, same_mut s4 nG, cs ++ [z], ?_, ?_, ?_⟩
        · rw [List.length_map]
          exact small1000 (by omega)
        · rw [upd_same, List.map_append]
          rfl
        · rw [List.length_append]
          show cs.length + 1 ≤ i + 1
          omega
        · intro y hy
          rcases List.mem_append.mp hy with h | h
          · exact pc y h
          · rw [List.mem_singleton.mp h]
            exact pks z (List.mem_of_getElem? hz)
      · exact ⟨s4, cs, hG, by omega, pc⟩
    rintro H4 ⟨s4, cs, hG, lc, pc⟩
    rw [List.length_map] at lc
    have fG : H3 G = none := nG
    refine ⟨G, _, rfl, sq_at hG, fun q1 nq => ?_⟩
    refine ⟨_, rfl, by show 2 ≤ sizeLine; decide, fun p np => ?_⟩
    have nq1 : H4 q1 = none := nq
    have np1 : H4 p = none := free_back (same_new nq1) np
    have npq : p ≠ q1 := fun e => by
      rw [e, upd_same] at np
      cases np
    have s5 : Same H H4 := sD.trans s4
    refine q _ p q1 cs.reverse b ((s5.trans (same_new nq1)).trans (same_new np)) (free_back s5 np1) (free_back s5 nq1) ⟨upd_same, ?_, npq, b0, fun c hc => pc c (List.mem_reverse.mp hc), by rw [List.length_reverse]; omega⟩
    rw [upd_ne npq.symm, upd_same, List.map_reverse]

/-- all but two places stay -/
def But (p q : Addr) (H H' : Hp) : Prop := ∀ x o, x ≠ p → x ≠ q → H x = some o → H' x = some o
theorem But.refl {p q : Addr} {H : Hp} : But p q H H := fun _ _ _ _ h => h
theorem But.trans {p q : Addr} {H H1 H2 : Hp} (a : But p q H H1) (b : But p q H1 H2) : But p q H H2 := fun x o h1 h2 h => b x o h1 h2 (a x o h1 h2 h)
theorem But.of {p q : Addr} {H H' : Hp} (s : Same H H') : But p q H H' := fun x o _ _ h => s x o h
theorem But.top {p q : Addr} {H : Hp} {o : HO} : But p q H (upd H p o) := fun x u h1 _ h => by
  rw [upd_ne h1]
  exact h
theorem But.low {p q : Addr} {H : Hp} {o : HO} : But p q H (upd H q o) := fun x u _ h1 h => by
  rw [upd_ne h1]
  exact h
theorem dp_all {K : PySem.W.Frag} {H : Hp} : ∀ cs : List Int, DpAll K H (cs.map V.int) (cs.map PyData.int)
  | [] => .nil
  | c :: cs => .cons (.int c) (dp_all cs)
def spAny : Sp := fun vs H Q _ => ∃ (p q : Addr) (cs : List Int) (b n : Int), vs = [.ref p, .int n] ∧ Deal H p q cs b ∧ 0 < n ∧ n < 2 ^ 64 ∧
  ∀ H' r cs' b', Deal H' p q cs' b' → But p q H H' → 0 ≤ r → r < n → Q (.int r) H'
theorem scAny : FnScope ["deal", "bound", "rest"] ["deal", "bound"] (defScope sAny) := ⟨rfl, rfl, rfl, by decide +kernel, rfl, by decide +kernel, by decide +kernel⟩
theorem dp_ints {K : PySem.W.Frag} {H : Hp} {q : Addr} {cs : List Int} (h : H q = some (.lst (cs.map V.int))) : Dp K H (.ref q) (.list (cs.map PyData.int)) := .lst (sq_at h) (dp_all cs)
theorem shaped_ints (cs : List Int) : SeqAt.shaped (.list (cs.map PyData.int)) = true := by
  have h1 : ∀ cs : List Int, PyData.canLayAll0 (cs.map PyData.int) = true := fun cs => by
    induction cs with
    | nil => rfl
    | cons c cs ih => simp [PyData.canLayAll0, PyData.canLay0, ih]
  have h2 : ∀ cs : List Int, PyData.depthAll (cs.map PyData.int) = 0 := fun cs => by
    induction cs with
    | nil => rfl
    | cons c cs ih => simp [PyData.depthAll, PyData.depth, ih]
  unfold SeqAt.shaped
  simp [PyData.canLay0, PyData.depth, h1, h2]
theorem eqv_nil (cs : List Int) : PyData.eqv (.list (cs.map PyData.int)) (.list []) = cs.isEmpty := by
  cases cs with
  | nil => rfl
  | cons c cs => rfl
theorem Deal.keep {H H' : Hp} {p q : Addr} {cs : List Int} {b : Int} (D : Deal H p q cs b) (s : Same H H') : Deal H' p q cs b := ⟨s _ _ D.top, s _ _ D.low, D.ne, D.b0, D.c0, D.len⟩
theorem Deal.setLow {H : Hp} {p q : Addr} {cs ds : List Int} {b : Int} (D : Deal H p q cs b) (h : ∀ c ∈ ds, 0 ≤ c) (l : ds.length ≤ 48) : Deal (upd H q (.lst (ds.map V.int))) p q ds b :=
  ⟨by rw [upd_ne D.ne]; exact D.top, upd_same, D.ne, D.b0, h, l⟩
theorem Deal.setTop {H : Hp} {p q : Addr} {cs : List Int} {b b' : Int} (D : Deal H p q cs b) (h : 0 ≤ b') : Deal (upd H p (.lst [.ref q, .int b'])) p q cs b' :=
  ⟨upd_same, by rw [upd_ne D.ne.symm]; exact D.low, D.ne, h, D.c0, D.len⟩
theorem rd_left {K : PySem.W.Frag} {σ : L2.St} {H : Hp} {p q : Addr} {cs : List Int} {b : Int} {Q : VK} (D : Deal H p q cs b) (h0 : σ[0]? = some (some (.ref p))) (h : Q (.ref q) H) : tOp (rIxL K) (tVar 0) (tC (.int 0)) σ H Q :=
  ⟨_, h0, p, _, 0, .ref q, rfl, rfl, sq_at D.top, atI_nat (j := 0) rfl, h⟩
theorem rd_right {K : PySem.W.Frag} {σ : L2.St} {H : Hp} {p q : Addr} {cs : List Int} {b : Int} {Q : VK} (D : Deal H p q cs b) (h0 : σ[0]? = some (some (.ref p))) (h : Q (.int b) H) : tOp (rIxL K) (tVar 0) (tC (.int 1)) σ H Q :=
  ⟨_, h0, p, _, 1, .int b, rfl, rfl, sq_at D.top, atI_nat (j := 1) rfl, h⟩
theorem rd_any {K : PySem.W.Frag} {σ : L2.St} {H : Hp} {p q : Addr} {cs : List Int} {b : Int} {Q : Bool → Hp → Prop} (D : Deal H p q cs b) (h0 : σ[0]? = some (some (.ref p))) (h : ∀ t, H t = none → Q (!cs.isEmpty) (upd H t (.lst []))) :
    tTest (tOp (rNeD K) (tOp (rIxL K) (tVar 0) (tC (.int 0))) (tLst tNil)) σ H Q := by
  refine rd_left D h0 ?_
  refine ⟨Nat.zero_le _, fun t nt => ?_⟩
  refine ⟨.list (cs.map PyData.int), .list [], dp_ints ((same_new nt) _ _ D.low), .lst (sq_at upd_same) .nil, shaped_ints cs, by decide, _, rfl, ?_⟩
  rw [eqv_nil]
  exact h t nt
theorem ok_any {f : Addr} {fd : FuncData} {k : Nat} (F : Fun K "_law_any" "_law_any" sAny f fd) (mint : mg "int" = none) : FnOk P w K mg base CX0 (k + 1) f fd ["deal", "bound"] spAny := by
  refine F.ok scAny (fun vs H Q E h => ?_) (fun cdv A outer s H vs Q E hr h => ?_)
  · obtain ⟨p, q, cs, b, n, rfl, _⟩ := h
    rfl
  · obtain ⟨p, q, cs, b, n, rfl, D, n0, n1, k⟩ := h
    have hu := hr.units
    refine ⟨_, pss_cons (ps_while PassesOwn.never (PW.pt (pw_and (pt_cmpR (op_neD hu) (pe_ix ix_list (pv 0) pe_int (fun _ _ => rfl)) (pe_lst pa_nil) (nomark _))
          (pw_and1 (pt_cmpR op_eq (pe_ix ix_list (pe_ix ix_list (pv 0) pe_int (fun _ _ => rfl)) (pe_un un_neg pe_int) (fun _ _ => rfl)) pe_int (nomark _)))))
        (pss_one (ps_expr (pe_bm0 PySem.F.plainAttrs_list PySem.F.slot_list_pop PySem.F.type_list_pop mt_pop (pe_ix ix_list (pv 0) pe_int (fun _ _ => rfl))))))
      (pss_cons (ps_if (pt_cmpR (op_neD hu) (pe_ix ix_list (pv 0) pe_int (fun _ _ => rfl)) (pe_lst pa_nil) (nomark _))
        (pss_cons (ps_set (i := 2) scAny.nd rfl (.inl rfl) (pe_callTy call_int1 (by rfl) mint (by decide +kernel) (pa_cons (pe_bm0 PySem.F.plainAttrs_list PySem.F.slot_list_pop PySem.F.type_list_pop mt_pop (pe_ix ix_list (pv 0) pe_int (fun _ _ => rfl))) pa_nil)))
          (pss_cons (ps_expr (pe_bm PySem.F.plainAttrs_list PySem.F.slot_list_append PySem.F.type_list_append mt_append (pe_ix ix_list (pv 0) pe_int (fun _ _ => rfl)) (pa_cons (pe_op op_fdivW (pv 2) (pv 1)) pa_nil)))
          (pss_one (ps_ret (pe_op op_mod (pv 2) (pv 1)))))) pss_nil)
      (pss_cons (ps_asg (pe_op op_mod (pe_callTy call_int1 (by rfl) mint (by decide +kernel) (pa_cons (pe_op op_add (pe_op op_mul (pe_ix ix_list (pv 0) pe_int (fun _ _ => rfl)) pe_int) pe_int) pa_nil)) pe_int) (pg_sub (pv 0) pe_int set_list))
      (pss_one (ps_ret (pe_op op_mod (pe_callTy call_int1 (by rfl) mint (by decide +kernel) (pa_cons (pe_op op_fdiv (pe_ix ix_list (pv 0) pe_int (fun _ _ => rfl)) pe_int) pa_nil)) (pv 1)))))), ?_⟩
    refine ⟨fun m σ H1 => ∃ ds, σ = [some (.ref p), some (.int n), none] ∧ Deal H1 p q ds b ∧ But p q H H1 ∧ m = ds.length, ⟨_, cs, rfl, D, .refl, rfl⟩, ?_⟩
    rintro m σ H1 ⟨ds, rfl, D1, f1, rfl⟩
    refine rd_any D1 rfl fun t nt => ?_
    have D2 := D1.keep (same_new (o := .lst []) nt)
    have f2 : But p q H _ := f1.trans (.of (same_new (o := .lst []) nt))
    generalize upd H1 t (.lst []) = H2 at D2 f2
    clear nt D1 f1 H1
    have pops : ∀ (es : List Int) (z : Int), ds = es ++ [z] → (∀ c ∈ es, 0 ≤ c) ∧ 0 ≤ z ∧ es.length + 1 = ds.length ∧ (ds.map V.int)[(ds.map V.int).length - 1]? = some (.int z) ∧ (ds.map V.int).dropLast = es.map V.int := by
      rintro es z rfl
      refine ⟨fun c hc => D2.c0 c (List.mem_append_left _ hc), D2.c0 z (by simp), by simp, ?_, ?_⟩
      · simp
      · simp
    refine ite2 (fun hne => ?_) (fun hem => ?_)
    · -- there are great cells: is the last one 0
      obtain ⟨es, z, e⟩ : ∃ es z, ds = es ++ [z] := by
        refine ⟨ds.dropLast, ds.getLast (by rintro rfl; exact Bool.noConfusion hne), ?_⟩
        rw [List.dropLast_concat_getLast]
      obtain ⟨p1, p2, p3, p4, p5⟩ := pops es z e
      refine rd_left D2 rfl ?_
      refine ⟨1, rfl, q, _, -1, .int z, rfl, rfl, sq_at D2.low, by rw [e, List.map_append]; exact atI_last _ _, rfl, _, rfl, ?_⟩
      refine ite2 (fun hz => ?_) (fun hz => ?_)
      · -- deal[0].pop()
        refine ⟨fun σ H1 => ∃ ds', σ = [some (.ref p), some (.int n), none] ∧ Deal H1 p q ds' b ∧ But p q H H1 ∧ ds'.length < ds.length, fun σ' H' ⟨ds', a1, a2, a3, a4⟩ => ⟨_, a4, ds', a1, a2, a3, rfl⟩, ?_⟩
        refine rd_left D2 rfl ?_
        refine ⟨.inl ⟨rfl, _, sq_at D2.low⟩, q, _, .int z, rfl, rfl, D2.low, p4, ?_⟩
        rw [p5]
        exact ⟨es, rfl, D2.setLow p1 (by have := D2.len; omega), f2.trans .low, by omega⟩
      · refine rd_any D2 rfl fun t nt => ?_
        have D3 := D2.keep (same_new (o := .lst []) nt)
        have f3 : But p q H _ := f2.trans (.of (same_new (o := .lst []) nt))
        generalize upd H2 t (.lst []) = H3 at D3 f3
        refine ite2 (fun _ => ?_) (fun h => absurd hne h)
        -- rest = int(deal[0].pop())
        refine rd_left D3 rfl ?_
        refine ⟨.inl ⟨rfl, _, sq_at D3.low⟩, q, _, .int z, rfl, rfl, D3.low, p4, .inl ⟨z, rfl, ?_⟩⟩
        rw [p5]
        have D4 := D3.setLow p1 (by have := D3.len; omega)
        have f4 : But p q H _ := f3.trans (But.low (o := .lst (es.map V.int)))
        generalize upd H3 q (.lst (es.map V.int)) = H4 at D4 f4
        -- deal[0].append(rest // bound)
        refine rd_left D4 rfl ?_
        refine ⟨.inl ⟨rfl, _, sq_at D4.low⟩, _, rfl, _, rfl, _, _, rfl, rfl, wide_div n0 (b := 64) (by omega) (by decide) (by decide), q, _, _, rfl, rfl, D4.low, ?_, ?_⟩
        · rw [List.length_map]
          exact small1000 (by have := D3.len; omega)
        · refine ⟨_, rfl, _, rfl, _, _, rfl, rfl, n0, ?_⟩
          have ee : es.map V.int ++ [V.int (z / n)] = (es ++ [z / n]).map V.int := by rw [List.map_append]; rfl
          rw [ee]
          refine k _ _ _ _ (D4.setLow (ds := es ++ [z / n]) (fun c hc => ?_) (by rw [List.length_append]; have := D3.len; show es.length + 1 ≤ 48; omega)) (f4.trans .low) (Int.emod_nonneg _ (by omega)) (Int.emod_lt_of_pos _ n0)
          rcases List.mem_append.mp hc with h | h
          · exact p1 c h
          · rw [List.mem_singleton.mp h]
            exact Int.ediv_nonneg p2 (by omega)
    · -- there are none
      refine rd_any D2 rfl fun t nt => ?_
      have D3 := D2.keep (same_new (o := .lst []) nt)
      have f3 : But p q H _ := f2.trans (.of (same_new (o := .lst []) nt))
      generalize upd H2 t (.lst []) = H3 at D3 f3
      refine ite2 (fun h => absurd h hem) (fun _ => ?_)
      -- deal[1] = ..
      refine rd_right D3 rfl ?_
      refine ⟨_, _, rfl, rfl, .inr ⟨by decide, by decide⟩, _, _, rfl, rfl, .inl ⟨_, rfl, _, _, rfl, rfl, (by show (0 : Int) < 2147483647; decide), ?_⟩⟩
      have b1 : 0 ≤ (b * 40693 + 71) % 2147483647 := Int.emod_nonneg _ (by decide)
      refine ⟨_, rfl, p, _, 1, 1, rfl, rfl, D3.top, rfl, ?_⟩
      have D4 := D3.setTop b1
      refine rd_right D4 rfl ?_
      refine ⟨_, _, rfl, rfl, ⟨by decide, by decide⟩, .inl ⟨_, rfl, _, rfl, _, _, rfl, rfl, n0, ?_⟩⟩
      exact k _ _ _ _ D4 (f3.trans .top) (Int.emod_nonneg _ (by omega)) (Int.emod_lt_of_pos _ n0)
end
theorem But.seq {K : PySem.W.Frag} {H H' : Hp} {p q a : Addr} {xs : List V} (e : But p q H H') (hp : a ≠ p) (hq : a ≠ q) (h : SqL K H a xs) : SqL K H' a xs := by
  rcases h with (h | ⟨o, h⟩) | h
  · exact .inl (.inl (e a _ hp hq h))
  · exact .inl (.inr ⟨o, e a _ hp hq h⟩)
  · exact .inr h
theorem meets_int_repr (a : Int) (t : Tok) : Meets (Builtin.«int.__repr__» ⟨[.int a t], []⟩) (fun _ R s => s.heap.NoDigits ∧ a.natAbs < 10 ^ 4300 ∧ R (.ok (.ret (.str (toString a) s.toks))) { s with toks := s.toks + 1 }) := by
  rintro prog w A R s ⟨hn, hlt, h⟩
  unfold Builtin.«int.__repr__»
  show wpAny _ _ (do let r ← Builtin.overDigitLimit? a; _) _ _ s
  exact wpAny_bind (overDigitLimit_any hn (fun _ => wpAny_bind (wpAny_mkStr (wpAny_pure h) (int_text_fits10 hlt))) fun hge => absurd hlt (by omega))
section
variable {X : Cx}
def rReprI : List V → Hp → VK → Prop := fun xs H Q => ∃ i, xs = [.int i] ∧ i.natAbs < 10 ^ 4300 ∧ Q (.str (toString i)) H
theorem call_reprI (hu : X.A.units + 1 < cLine) (hz : PySem.W.nsIn X.K cStatics "sys.int_max_str_digits" = some none) : CallR X (.builtin "repr") rReprI := by
  intro pins s σ H xs us Q I r h
  obtain ⟨i, rfl, hlt, q⟩ := h
  obtain ⟨u, rfl, t, rfl⟩ := vals1 r
  have nd : s.heap.NoDigits := by
    obtain ⟨mc, h1, _⟩ := I.nolimit
    exact ⟨mc, h1, PySem.W.ns_none_of I.kIn h1 hz⟩
  exact call_repr_slot hu (typeIs_int s i t) PySem.F.slot_int_repr.toG (call_meets PySem.F.slot_int_repr (typeIs_int s i t) PySem.F.entry_int_repr (PySem.F.args_int_repr_1 _) (meets_int_repr i t) ⟨nd, hlt, _, _, rfl, .str _, H, I.tok _, ⟨_, rfl⟩, q⟩)
end
def natV (n : Nat) : V := .int (n : Int)
def TabT (K : PySem.W.Frag) (H : Hp) (t : Addr) (rows : List (List Nat)) : Prop :=
  ∃ as : List Addr, SqT K H t (as.map V.ref) ∧ as.length = rows.length ∧ ∀ (i : Nat) (a : Addr) (xs : List Nat), as[i]? = some a → rows[i]? = some xs → SqT K H a (xs.map natV)
def TabL (K : PySem.W.Frag) (H : Hp) (t : Addr) (rows : List (List Nat)) : Prop :=
  ∃ as : List Addr, SqL K H t (as.map V.ref) ∧ as.length = rows.length ∧ ∀ (i : Nat) (a : Addr) (xs : List Nat), as[i]? = some a → rows[i]? = some xs → SqL K H a (xs.map natV)
theorem same_tup {K : PySem.W.Frag} {H H' : Hp} {a : Addr} {xs : List V} (e : Same H H') (h : SqT K H a xs) : SqT K H' a xs := by
  rcases h with (h | ⟨o, h⟩) | h
  · exact .inl (.inl (e a _ h))
  · exact .inl (.inr ⟨o, e a _ h⟩)
  · exact .inr h
theorem ref_at {as : List Addr} {i : Nat} {x : V} (h : (as.map V.ref)[i]? = some x) : ∃ a, as[i]? = some a ∧ x = .ref a := by
  rw [List.getElem?_map] at h
  cases e : as[i]? with
  | none => rw [e] at h; cases h
  | some z =>
    rw [e] at h
    exact ⟨z, rfl, (Option.some.inj h).symm⟩
theorem nat_at {ns : List Nat} {i : Nat} {x : V} (h : (ns.map natV)[i]? = some x) : ∃ z, ns[i]? = some z ∧ x = natV z := by
  rw [List.getElem?_map] at h
  cases e : ns[i]? with
  | none => rw [e] at h; cases h
  | some z =>
    rw [e] at h
    exact ⟨z, rfl, (Option.some.inj h).symm⟩
theorem takeN {α : Type} {ks : List α} {i : Nat} {z : α} (h : ks[i]? = some z) : ks.take (i + 1) = ks.take i ++ [z] := by
  rw [List.take_add_one, h]
  rfl
theorem Deal.keepBut {H : Hp} {p q L : Addr} {cs : List Int} {b : Int} {o : HO} (D : Deal H p q cs b) (hp : L ≠ p) (hq : L ≠ q) : Deal (upd H L o) p q cs b :=
  ⟨by rw [upd_ne hp.symm]; exact D.top, by rw [upd_ne hq.symm]; exact D.low, D.ne, D.b0, D.c0, D.len⟩
theorem kw_one {K : PySem.W.Frag} {nm qual x : Str} {st : Stmt} {f : Addr} {fd : FuncData} (F : Fun K nm qual st f fd)
    (h1 : ∀ (kV doc pm : Value) (an : Option Addr) (cdv ct : Value) (u : Value), bindArgs (PySem.W.fnOf nm qual (defArgs st) (defBody st) (defScope st) .none kV doc pm an cdv ct) ⟨[u], []⟩ = pure [(x, u)])
    (h2 : ∀ (kV doc pm : Value) (an : Option Addr) (cdv ct : Value) (u : Value), bindArgs (PySem.W.fnOf nm qual (defArgs st) (defBody st) (defScope st) .none kV doc pm an cdv ct) ⟨[], [(x, u)]⟩ = pure [(x, u)]) :
    KBinds K fd [x] [x] (fun us ws => us ++ ws) (fun us ws => us ++ ws) := by
  obtain ⟨oc, od, kV, doc, pm, an, cdv, ct, osl, rfl, lk, hcd⟩ := F.ex
  refine ⟨fun s us ws _ hl => ?_, fun r r2 => r.append r2⟩
  match us, ws, hl with
  | [u], [], _ => exact .of_eq (h1 kV doc pm an cdv ct u)
  | [], [u], _ => exact .of_eq (h2 kV doc pm an cdv ct u)
theorem ne_self {v : V} {A B : Prop} (h : B) : if (!decide (v = v)) = true then A else B := by
  rw [decide_eq_true rfl]
  exact h
theorem ne_same {v u : V} {A B : Prop} (e : v = u) (h : B) : if (!decide (v = u)) = true then A else B := by
  subst e
  exact ne_self h
theorem if_no {c A B : Prop} [Decidable c] (n : ¬ c) (h : B) : if decide c = true then A else B := by
  rw [decide_eq_false n, if_neg Bool.false_ne_true]
  exact h
theorem dec_yes {c : Prop} [Decidable c] (h : c) : V.bl (decide c) = V.bl true := by rw [decide_eq_true h]
/-! ### comprehensions: elements that are told, elements that are drawn -/
theorem wipe_again (σ : L2.St) (j : Nat) (x : Option V) : wipe ((wipe σ [j]).set j x) [j] = wipe σ [j] := by
  show ((σ.set j none).set j x).set j none = σ.set j none
  rw [List.set_set, List.set_set]
theorem small_lt {n : Nat} (h : n ≤ 100000) : n < sizeLine := Nat.lt_of_le_of_lt h (by decide)
theorem lc_vals {J : It} {n j : Nat} {G : Hp → Prop} {Y : Nat → Hp → V → Hp → Prop} {Yx : Nat → V → Prop} (w : Walk J n G Y) {te : TE} {σ : L2.St} {H1 : Hp} {D : Addr} {Qd : Hp → Prop} (nD : H1 D = none) (val : Nat → V) (hn : n ≤ 100000)
    (hY : ∀ i H x H', Y i H x H' → H' = H ∧ Yx i x) (hG : ∀ H, Same H1 H → G H)
    (hs : ∀ i x H, i < n → Same H1 H → Yx i x → ∀ Q' : VK, (∀ H4, Same H H4 → Q' (val i) H4) → te ((wipe σ [j]).set j (some x)) H Q')
    (hd : ∀ H, Same H1 H → H D = some (.lst ((List.range n).map val)) → Qd H) :
    ∃ W : Nat → Nat → Hp → Prop, (∃ m, W 0 m (upd H1 D (.lst []))) ∧ ∀ i m H, W i m H →
      (J.stop i H ∧ Qd H) ∨ (J.go i H ∧ ∃ Nx : Hp → Prop, (∀ H', Nx H' → ∃ m', m' < m ∧ W (i + 1) m' H') ∧ ∀ x H', J.yld i H x H' → gName j x (wipe σ [j]) H' fun σ2 H2 => wipe σ2 [j] = wipe σ [j] ∧ tYes σ2 H2 fun b H3 =>
        if b = true then te σ2 H3 fun y H4 => ∃ acc, H4 D = some (.lst acc) ∧ acc.length < sizeLine ∧ Nx (upd H4 D (.lst (acc ++ [y]))) else Nx H3) := by
  refine lc_it w (Qd := Qd) (fun i H => Same H1 H ∧ H D = some (.lst ((List.range i).map val))) ⟨same_new nD, upd_same⟩ (fun i H _ h => hG H h.1) ?_ fun H h => hd H h.1 h.2
  rintro i x H H' hi ⟨s, hD⟩ y
  obtain ⟨rfl, yx⟩ := hY _ _ _ _ y
  refine ⟨wipe_again σ j (some x), tt_yes (hs i x H' hi s yx _ fun H4 s4 => ?_)⟩
  refine ⟨_, s4 _ _ hD, ?_, same_mut (s.trans s4) nD, ?_⟩
  · rw [List.length_map, List.length_range]
    exact small_lt (by omega)
  · rw [upd_same, List.range_succ, List.map_append]
    rfl
/-- over a source of draws: each element a number drawn -/
theorem lc_draws {n j : Nat} {p q : Addr} {cs : List Int} {b : Int} (Pd : Nat → Prop) {te : TE} {σ : L2.St} {H1 : Hp} {D : Addr} {Qd : Hp → Prop} (A : Deal H1 p q cs b) (nD : H1 D = none) (hn : n ≤ 100000)
    (hs : ∀ (i : Nat) H cs b, i < n → Deal H p q cs b → ∀ Q' : VK, (∀ H' m cs' b', Deal H' p q cs' b' → But p q H H' → Pd m → Q' (.int (m : Nat)) H') → te ((wipe σ [j]).set j (some (.int (0 + (i : Int))))) H Q')
    (hd : ∀ H (xs : List Nat) cs b, Deal H p q cs b → But p q H1 H → D ≠ p → D ≠ q → H D = some (.lst (xs.map natV)) → xs.length = n → (∀ x ∈ xs, Pd x) → Qd H) :
    ∃ W : Nat → Nat → Hp → Prop, (∃ m, W 0 m (upd H1 D (.lst []))) ∧ ∀ i m H, W i m H →
      ((Itr 0 n).stop i H ∧ Qd H) ∨ ((Itr 0 n).go i H ∧ ∃ Nx : Hp → Prop, (∀ H', Nx H' → ∃ m', m' < m ∧ W (i + 1) m' H') ∧ ∀ x H', (Itr 0 n).yld i H x H' → gName j x (wipe σ [j]) H' fun σ2 H2 => wipe σ2 [j] = wipe σ [j] ∧ tYes σ2 H2 fun b H3 =>
        if b = true then te σ2 H3 fun y H4 => ∃ acc, H4 D = some (.lst acc) ∧ acc.length < sizeLine ∧ Nx (upd H4 D (.lst (acc ++ [y]))) else Nx H3) := by
  have Dp : D ≠ p := (ne_of_none A.top nD).symm
  have Dq : D ≠ q := (ne_of_none A.low nD).symm
  refine lc_it walk_range (Qd := Qd) (fun i H => ∃ (xs : List Nat) (cs : List Int) (b : Int), Deal H p q cs b ∧ (∀ y o, y ≠ p → y ≠ q → y ≠ D → H1 y = some o → H y = some o) ∧ H D = some (.lst (xs.map natV)) ∧ xs.length = i ∧ ∀ x ∈ xs, Pd x)
    ⟨[], cs, b, A.keep (same_new nD), fun y o _ _ h3 h => by rw [upd_ne h3]; exact h, upd_same, rfl, fun x hx => absurd hx List.not_mem_nil⟩ (fun _ _ _ _ => trivial) ?_ ?_
  · rintro i x H H' hi ⟨xs, cs, b, A', fr, hD, hl, hP⟩ ⟨rfl, rfl⟩
    refine ⟨wipe_again σ j _, tt_yes (hs i H' cs b hi A' _ fun H4 m cs' b' A4 f4 hm => ?_)⟩
    refine ⟨_, f4 D _ Dp Dq hD, ?_, xs ++ [m], cs', b', A4.keepBut Dp Dq, fun y o h1 h2 h3 h => ?_, ?_, ?_, fun y hy => ?_⟩
    · rw [List.length_map]
      exact small_lt (by omega)
    · rw [upd_ne h3]
      exact f4 y o h1 h2 (fr y o h1 h2 h3 h)
    · rw [upd_same, List.map_append]
      rfl
    · rw [List.length_append, hl]
      rfl
    · rcases List.mem_append.mp hy with h | h
      · exact hP y h
      · rw [List.mem_singleton.mp h]
        exact hm
  · rintro H ⟨xs, cs, b, A', fr, hD, hl, hP⟩
    exact hd H xs cs b A' (fun y o h1 h2 h => fr y o h1 h2 (ne_of_none h nD) h) Dp Dq hD hl hP
end Lw
namespace Lw
open PySem PySem.Spec PyProof.Rows L2 Gd Ld Pt
/-! ### rows of drawn numbers, tables of them -/
theorem wipe_at {σ : L2.St} {i j : Nat} {v : Option V} (hij : i ≠ j) : (wipe σ [j])[i]? = σ[i]? ∧ ((wipe σ [j]).set j v)[i]? = σ[i]? := by
  have e : (wipe σ [j])[i]? = σ[i]? := by
    show (σ.set j none)[i]? = _
    rw [List.getElem?_set_ne (Ne.symm hij)]
  exact ⟨e, by rw [List.getElem?_set_ne (Ne.symm hij), e]⟩
theorem rd_draws {σ : L2.St} {H : Hp} {p q : Addr} {cs : List Int} {b : Int} {Q : VK} {j k n : Nat} (D : Deal H p q cs b) (h1 : σ[1]? = some (some (.ref p))) (hj : 1 ≠ j) (hk : 0 < k) (hk2 : k ≤ 1000) (hn : 0 < n) (hn2 : n ≤ 1000000)
    (kk : ∀ J H' (xs : List Nat) cs' b', Deal H' p q cs' b' → But p q H H' → H' J = some (.lst (xs.map natV)) → J ≠ p → J ≠ q → H J = none → xs.length < k → (∀ x ∈ xs, x < n) → Q (.ref J) H') :
    tLc (iRng1 (tCons (tCall spAny [] E0 (tCons (tVar 1) (tCons (tC (.int (k : Int))) tNil))) tNil)) (gName j) tYes (tCall spAny [] E0 (tCons (tVar 1) (tCons (tC (.int (n : Int))) tNil))) [j] σ H Q := by
  refine ⟨_, h1, p, q, cs, b, _, rfl, D, by omega, by omega, fun H1 r cs b D1 f1 r0 r1 => ?_⟩
  obtain ⟨rn, rfl⟩ : ∃ rn : Nat, r = (rn : Int) := ⟨r.toNat, by omega⟩
  refine ⟨_, rfl, by omega, by omega, fun J nJ => ?_⟩
  refine lc_draws (n := rn) (fun x => x < n) D1 nJ (by omega) ?_ ?_
  · intro i H2 cs b hi D2 Q' hQ
    refine ⟨_, ?_, p, q, cs, b, _, rfl, D2, by omega, by omega, fun H3 z cs b D3 f3 z0 z1 => ?_⟩
    · exact (wipe_at hj).2.trans h1
    obtain ⟨m, rfl⟩ : ∃ m : Nat, z = (m : Int) := ⟨z.toNat, by omega⟩
    exact hQ H3 m cs b D3 f3 (by omega)
  · intro H2 xs cs b D2 f2 Jp Jq hJ hl hx
    refine kk J H2 xs cs b D2 (f1.trans f2) hJ Jp Jq ?_ (by omega) hx
    cases e : H J with
    | none => rfl
    | some o => exact absurd nJ (by rw [f1 J o Jp Jq e]; simp)
theorem rd_table {K : PySem.W.Frag} {σ : L2.St} {H : Hp} {p q : Addr} {cs : List Int} {b : Int} {Q : VK} {jo jr k k2 n : Nat} (D : Deal H p q cs b) (h1 : σ[1]? = some (some (.ref p))) (hjo : 1 ≠ jo) (hjr : 1 ≠ jr) (hk : 0 < k) (hk2 : k ≤ 1000) (hk3 : 0 < k2) (hk4 : k2 ≤ 1000) (hn : 0 < n) (hn2 : n ≤ 1000000)
    (kk : ∀ t H' (rows : List (List Nat)) cs' b', Deal H' p q cs' b' → But p q H H' → TabT K H' t rows → rows.length < k → (∀ xs ∈ rows, xs.length < k2 ∧ ∀ x ∈ xs, x < n) → Q (.ref t) H') :
    tCB (rTupK K) (tCons (tLc (iRng1 (tCons (tCall spAny [] E0 (tCons (tVar 1) (tCons (tC (.int (k : Int))) tNil))) tNil)) (gName jr) tYes
      (tCB (rTupK K) (tCons (tLc (iRng1 (tCons (tCall spAny [] E0 (tCons (tVar 1) (tCons (tC (.int (k2 : Int))) tNil))) tNil)) (gName jo) tYes (tCall spAny [] E0 (tCons (tVar 1) (tCons (tC (.int (n : Int))) tNil))) [jo]) tNil)) [jr]) tNil) σ H Q := by
  refine ⟨_, h1, p, q, cs, b, _, rfl, D, by omega, by omega, fun H8 r cs b D f8 r0 r1 => ?_⟩
  obtain ⟨rn, rfl⟩ : ∃ rn : Nat, r = (rn : Int) := ⟨r.toNat, by omega⟩
  refine ⟨_, rfl, by omega, by omega, fun G nG => ?_⟩
  have Gp : G ≠ p := (ne_of_none D.top nG).symm
  have Gq : G ≠ q := (ne_of_none D.low nG).symm
  refine lc_it (n := rn) walk_range (fun i H5 => ∃ cs b as rows, Deal H5 p q cs b ∧ H5 G = some (.lst (as.map V.ref)) ∧ as.length = i ∧ rows.length = i ∧ (∀ xs ∈ rows, xs.length < k2 ∧ ∀ x ∈ xs, x < n) ∧
      (∀ (i : Nat) (a : Addr) (xs : List Nat), as[i]? = some a → rows[i]? = some xs → H5 a = some (.tup (xs.map natV)) ∧ a ≠ p ∧ a ≠ q ∧ a ≠ G) ∧ ∀ y o, y ≠ p → y ≠ q → y ≠ G → H8 y = some o → H5 y = some o)
    ⟨cs, b, [], [], D.keep (same_new nG), upd_same, rfl, rfl, fun x hx => absurd hx List.not_mem_nil, fun i a xs h1 _ => by simp at h1, fun y o _ _ h3 h => by rw [upd_ne h3]; exact h⟩ (fun _ _ _ _ => trivial) ?_ ?_
  · rintro i x H5 H6 hi ⟨cs, b, as, rows, D, hG, la, lr, hr, hat, fr⟩ ⟨rfl, rfl⟩
    refine ⟨wipe_again _ jr _, tt_yes ?_⟩
    unfold tCB tCons
    refine rd_draws D ((wipe_at hjr).2.trans h1) hjo hk3 hk4 hn hn2 fun J H7 xs cs b D f7 hJ _ _ _ lx bx => ?_
    refine ⟨J, _, rfl, .inl ⟨sq_at hJ, fun t nt => ?_⟩⟩
    have hG7 := f7 G _ Gp Gq hG
    have tp : t ≠ p := (ne_of_none D.top nt).symm
    have tq : t ≠ q := (ne_of_none D.low nt).symm
    have tG : t ≠ G := (ne_of_none hG7 nt).symm
    refine ⟨_, by rw [upd_ne tG.symm]; exact hG7, ?_, cs, b, as ++ [t], rows ++ [xs], (D.keepBut tp tq).keepBut Gp Gq, ?_, ?_, ?_, ?_, ?_, ?_⟩
    · rw [List.length_map]
      exact small1000 (by omega)
    · rw [upd_same, List.map_append]
      rfl
    · rw [List.length_append, la]
      rfl
    · rw [List.length_append, lr]
      rfl
    · intro ys hy
      rcases List.mem_append.mp hy with h | h
      · exact hr ys h
      · rw [List.mem_singleton.mp h]
        exact ⟨lx, bx⟩
    · intro j a ys h1 h2
      by_cases hj : j < as.length
      · rw [List.getElem?_append_left hj] at h1
        rw [List.getElem?_append_left (by omega)] at h2
        obtain ⟨g1, g2, g3, g4⟩ := hat j a ys h1 h2
        have g5 := f7 a _ g2 g3 g1
        have g6 : a ≠ t := ne_of_none g5 nt
        exact ⟨by rw [upd_ne g4, upd_ne g6]; exact g5, g2, g3, g4⟩
      · have e1 : j = as.length := by
          have := (List.getElem?_eq_some_iff.mp h1).1
          rw [List.length_append] at this
          have e : ([t] : List Addr).length = 1 := rfl
          omega
        subst e1
        rw [List.getElem?_append_right (Nat.le_refl _), Nat.sub_self] at h1
        rw [List.getElem?_append_right (by omega), show as.length - rows.length = 0 by omega] at h2
        cases Option.some.inj h1
        cases Option.some.inj h2
        exact ⟨by rw [upd_ne tG]; exact upd_same, tp, tq, tG⟩
    · intro y o h1 h2 h3 h
      have h7 := f7 y o h1 h2 (fr y o h1 h2 h3 h)
      rw [upd_ne h3, upd_ne (ne_of_none h7 nt)]
      exact h7
  rintro H5 ⟨cs, b, as, rows, D, hG, la, lr, hr, hat, fr⟩
  refine ⟨G, _, rfl, .inl ⟨sq_at hG, fun t nt => ?_⟩⟩
  refine kk t _ rows cs b (D.keep (same_new nt)) (f8.trans ?_) ⟨as, st_at upd_same, by omega, fun i a xs h1 h2 => st_at ((same_new nt) _ _ (hat i a xs h1 h2).1)⟩ (by omega) hr
  intro y o h1 h2 h
  exact (same_new nt) _ _ (fr y o h1 h2 (ne_of_none h nG) h)

structure Zs (K : PySem.W.Frag) (mg : Str → Option Value) : Prop where
  z_len : mg "len" = none
  z_range : mg "range" = none
  z_sum : mg "sum" = none
  z_min : mg "min" = none
  z_max : mg "max" = none
  z_repr : mg "repr" = none
  z_tuple : mg "tuple" = none
  z_list : mg "list" = none
  z_sorted : mg "sorted" = none
  z_isinstance : mg "isinstance" = none
  z_int : mg "int" = none
  z_bool : mg "bool" = none
  dig : PySem.W.nsIn K cStatics "sys.int_max_str_digits" = some none
theorem vals_rev : ∀ {vs : List V} {us : List Value}, Vals vs us → Vals vs.reverse us.reverse
  | _, _, .nil => .nil
  | _, _, .cons h t => by
    rw [List.reverse_cons, List.reverse_cons]
    exact (vals_rev t).append (.cons h .nil)
/-- two arguments by their names, the second one first -/
theorem kw_two {K : PySem.W.Frag} {nm qual x y : Str} {st : Stmt} {f : Addr} {fd : FuncData} (F : Fun K nm qual st f fd)
    (h0 : ∀ (kV doc pm : Value) (an : Option Addr) (cdv ct : Value) (u v : Value), bindArgs (PySem.W.fnOf nm qual (defArgs st) (defBody st) (defScope st) .none kV doc pm an cdv ct) ⟨[u, v], []⟩ = pure [(x, u), (y, v)])
    (h1 : ∀ (kV doc pm : Value) (an : Option Addr) (cdv ct : Value) (u v : Value), bindArgs (PySem.W.fnOf nm qual (defArgs st) (defBody st) (defScope st) .none kV doc pm an cdv ct) ⟨[u], [(y, v)]⟩ = pure [(x, u), (y, v)])
    (h2 : ∀ (kV doc pm : Value) (an : Option Addr) (cdv ct : Value) (u v : Value), bindArgs (PySem.W.fnOf nm qual (defArgs st) (defBody st) (defScope st) .none kV doc pm an cdv ct) ⟨[], [(y, v), (x, u)]⟩ = pure [(x, u), (y, v)]) :
    KBinds K fd [x, y] [y, x] (fun us ws => us ++ ws.reverse) (fun us ws => us ++ ws.reverse) := by
  obtain ⟨oc, od, kV, doc, pm, an, cdv, ct, osl, rfl, lk, hcd⟩ := F.ex
  refine ⟨fun s us ws _ hl => ?_, fun r r2 => r.append (vals_rev r2)⟩
  match us, ws, hl with
  | [u, v], [], _ => exact .of_eq (h0 kV doc pm an cdv ct u v)
  | [u], [v], _ => exact .of_eq (h1 kV doc pm an cdv ct u v)
  | [], [v, u], _ => exact .of_eq (h2 kV doc pm an cdv ct u v)
  | u :: v :: w :: r, ws, hl => simp at hl
  | [u, v], w :: r, hl => simp at hl
  | [u], [], hl => simp at hl
  | [u], v :: w :: r, hl => simp at hl
  | [], [], hl => simp at hl
  | [], [v], hl => simp at hl
  | [], u :: v :: w :: r, hl => simp at hl
theorem sum_ints : ∀ xs : List Nat, (xs.map fun n : Nat => (n : Int)).sum = ((xs.sum : Nat) : Int)
  | [] => rfl
  | x :: xs => by rw [List.map_cons, List.sum_cons, sum_ints xs, List.sum_cons, Int.natCast_add]
theorem inV_nat (y : Nat) : ∀ ns : List Nat, inV (.int (y : Int)) (ns.map natV) = ns.contains y
  | [] => rfl
  | n :: ns => by
    show (((n : Int) == (y : Int)) || inV (.int (y : Int)) (ns.map natV)) = (y == n || ns.contains y)
    rw [inV_nat y ns]
    congr 1
    by_cases h : n = y
    · subst h
      simp
    · rw [beq_false_of_ne (fun e => h (by omega)), beq_false_of_ne (fun e => h e.symm)]
abbrev s_is_whole : Stmt := topS 1
abbrev n_is_whole : List Str := ["value"]
theorem sc_is_whole : FnScope n_is_whole ["value"] (defScope s_is_whole) := ⟨rfl, rfl, rfl, by decide +kernel, rfl, by decide +kernel, by decide +kernel⟩
abbrev s_is_number : Stmt := topS 2
abbrev n_is_number : List Str := ["value"]
theorem sc_is_number : FnScope n_is_number ["value"] (defScope s_is_number) := ⟨rfl, rfl, rfl, by decide +kernel, rfl, by decide +kernel, by decide +kernel⟩
abbrev s_least_depths : Stmt := topS 4
abbrev n_least_depths : List Str := ["x", "m", "level", "full", "more", "inner"]
theorem sc_least_depths : FnScope n_least_depths ["x", "m"] (defScope s_least_depths) := ⟨rfl, rfl, rfl, by decide +kernel, rfl, by decide +kernel, by decide +kernel⟩
abbrev s_law_least_depths : Stmt := topS 13
abbrev n_law_least_depths : List Str := ["most", "m", "least", "x", "rows", "turn", "row", "k", "some", "one"]
theorem sc_law_least_depths : FnScope n_law_least_depths ["most", "m"] (defScope s_law_least_depths) := ⟨rfl, rfl, rfl, by decide +kernel, rfl, by decide +kernel, by decide +kernel⟩
abbrev s_is_best_parting : Stmt := topS 6
abbrev n_is_best_parting : List Str := ["m", "value", "entry", "total"]
theorem sc_is_best_parting : FnScope n_is_best_parting ["m", "value"] (defScope s_is_best_parting) := ⟨rfl, rfl, rfl, by decide +kernel, rfl, by decide +kernel, by decide +kernel⟩
abbrev s_best_parting : Stmt := topS 7
abbrev n_best_parting : List Str := ["x", "m", "part", "left", "parts", "_", "more"]
theorem sc_best_parting : FnScope n_best_parting ["x", "m"] (defScope s_best_parting) := ⟨rfl, rfl, rfl, by decide +kernel, rfl, by decide +kernel, by decide +kernel⟩
abbrev s_law_mixed : Stmt := topS 11
abbrev n_law_mixed : List Str := ["deal", "some", "left", "found"]
theorem sc_law_mixed : FnScope n_law_mixed ["deal", "some"] (defScope s_law_mixed) := ⟨rfl, rfl, rfl, by decide +kernel, rfl, by decide +kernel, by decide +kernel⟩
abbrev s_law_split : Stmt := topS 12
abbrev n_law_split : List Str := ["total", "many", "found", "turn", "later", "some", "low", "left", "one"]
theorem sc_law_split : FnScope n_law_split ["total", "many"] (defScope s_law_split) := ⟨rfl, rfl, rfl, by decide +kernel, rfl, by decide +kernel, by decide +kernel⟩
abbrev s_law_best : Stmt := topS 14
abbrev n_law_best : List Str := ["least", "some", "one"]
theorem sc_law_best : FnScope n_law_best ["least", "some"] (defScope s_law_best) := ⟨rfl, rfl, rfl, by decide +kernel, rfl, by decide +kernel, by decide +kernel⟩
abbrev s_law_by_two : Stmt := topS 15
abbrev n_law_by_two : List Str := ["one", "other", "k"]
theorem sc_law_by_two : FnScope n_law_by_two ["one", "other"] (defScope s_law_by_two) := ⟨rfl, rfl, rfl, by decide +kernel, rfl, by decide +kernel, by decide +kernel⟩
abbrev s_law : Stmt := topS 16
abbrev n_law : List Str := ["script", "deal", "m", "least", "x", "partings", "many", "best", "some", "told", "odd", "value", "one", "part"]
theorem sc_law : FnScope n_law ["script"] (defScope s_law) := ⟨rfl, rfl, rfl, by decide +kernel, rfl, by decide +kernel, by decide +kernel⟩
theorem kitTI (K : PySem.W.Frag) : PySem.W.kitOne K (.type "tuple") (.type "int") = some false := by rfl
theorem kitBI (K : PySem.W.Frag) : PySem.W.kitOne K (.type "bool") (.type "int") = some true := by rfl
theorem kitBB (K : PySem.W.Frag) : PySem.W.kitOne K (.type "bool") (.type "bool") = some true := by rfl
theorem kitNT (K : PySem.W.Frag) : PySem.W.kitOne K (.type "NoneType") (.type "tuple") = some false := by rfl
theorem kitLT (K : PySem.W.Frag) : PySem.W.kitOne K (.type "list") (.type "tuple") = some false := by rfl
theorem kitTT (K : PySem.W.Frag) : PySem.W.kitOne K (.type "tuple") (.type "tuple") = some true := by rfl
theorem kitIB (K : PySem.W.Frag) : PySem.W.kitOne K (.type "int") (.type "bool") = some false := by rfl
theorem kitSI (K : PySem.W.Frag) : PySem.W.kitOne K (.type "str") (.type "int") = some false := by rfl
theorem kitII (K : PySem.W.Frag) : PySem.W.kitOne K (.type "int") (.type "int") = some true := by rfl
theorem kitIT (K : PySem.W.Frag) : PySem.W.kitOne K (.type "int") (.type "tuple") = some false := by rfl
theorem iteF {A C : Prop} (h : C) : if false = true then A else C := by rw [if_neg Bool.false_ne_true]; exact h
theorem told_at {m n x : Nat} (h : x < n) : (told m n)[x]? = some (LD x m) := by
  unfold told
  rw [List.getElem?_map, List.getElem?_range h]
  rfl
section
variable {P : Program} {w : World} {K : PySem.W.Frag} {mg : Str → Option Value} {base : Heap}
def spLD : Sp := fun vs H Q _ => ∃ x m : Nat, vs = [.int (x : Int), .int (m : Int)] ∧ 2 ≤ m ∧ m ≤ 64 ∧ x < 2 ^ 20 ∧ Q (.int (LD x m : Nat)) H
theorem ok_least_depths {f : Addr} {fd : FuncData} {k : Nat} (F : Fun K "least_depths" "least_depths" s_least_depths f fd)  : FnG P w K mg base (k + 1) f fd ["x", "m"] spLD := by
  refine okG F sc_least_depths (fun {vs H Q E} h => ?_) (fun cdv A outer s H vs Q E st hr h => ?_)
  · obtain ⟨x, m, rfl, _⟩ := h
    rfl
  · have hu := hu_of hr
    have sc := sc_least_depths
    obtain ⟨x, m, rfl, hm, hm2, hx, q⟩ := h
    refine ⟨_, (pss_cons (ps_if (pt_cmpR op_eq (pv 0) pe_int (nomark _)) (pss_one (ps_ret pe_int)) pss_nil)
      (pss_cons (ps_set (i := 2) sc.nd rfl (.inl rfl) pe_int)
      (pss_cons (ps_set (i := 3) sc.nd rfl (.inl rfl) pe_int)
      (pss_cons (ps_while PassesOwn.never (pt_cmpR op_le (pe_op op_mul (pv 3) (pv 1)) (pv 0) (nomark _)) (pss_cons (ps_set (i := 3) sc.nd rfl (.inl rfl) (pe_op op_mul (pv 3) (pv 1)))
      (pss_one (ps_aug (i := 2) sc.nd rfl (.inl rfl) pe_int ip_add))))
      (pss_cons (ps_set (i := 4) sc.nd rfl (.inl rfl) (pe_op op_sub (pv 0) (pv 3)))
      (pss_cons (ps_set (i := 5) sc.nd rfl (.inl rfl) (pe_op op_fdiv (pe_op op_sub (pe_op op_add (pv 4) (pv 1)) pe_int) (pe_op op_sub (pv 1) pe_int)))
      (pss_one (ps_ret (pe_op op_add (pe_op op_add (pe_op op_mul (pv 2) (pv 0)) (pv 4)) (pv 5)))))))))), ?_⟩
    refine ⟨_, rfl, rfl, _, rfl, ite2 (fun h => ?_) (fun h => ?_)⟩
    · have e : x = 0 := by have := V.int.inj (of_decide_eq_true h); omega
      subst e
      rw [LD_zero] at q
      exact q
    have hx0 : 1 ≤ x := by
      rcases Nat.eq_zero_or_pos x with e | e
      · subst e
        exact absurd (decide_eq_true rfl) h
      · exact e
    refine ⟨fun mm σ H1 => ∃ l f : Nat, σ = [some (.int (x : Int)), some (.int (m : Int)), some (.int (l : Int)), some (.int (f : Int)), none, none] ∧ lvl x m mm l f = lvl x m x 0 1 ∧ 1 ≤ f ∧ f ≤ x ∧ x ≤ mm + f ∧ H1 = H,
      ⟨x, 0, 1, rfl, rfl, by omega, by omega, by omega, rfl⟩, ?_⟩
    rintro n σ H1 ⟨l, f, rfl, hl, hf, hfx, hn, eH⟩
    subst eH
    have hmul : ((f : Int) * (m : Int)) = ((f * m : Nat) : Int) := (Int.natCast_mul ..).symm
    refine ⟨_, rfl, _, rfl, _, _, rfl, rfl, .inr ⟨by omega, by omega⟩, _, rfl, _, _, rfl, rfl, _, rfl, ite2 (fun h => ?_) (fun h => ?_)⟩
    · have hle : f * m ≤ x := by
        have := of_decide_eq_true h
        rw [hmul] at this
        omega
      have h2 : f * 2 ≤ f * m := Nat.mul_le_mul_left f hm
      obtain ⟨n', rfl⟩ : ∃ n', n = n' + 1 := ⟨n - 1, by omega⟩
      refine ⟨fun σ H2 => ∃ l f : Nat, σ = [some (.int (x : Int)), some (.int (m : Int)), some (.int (l : Int)), some (.int (f : Int)), none, none] ∧ lvl x m n' l f = lvl x m x 0 1 ∧ 1 ≤ f ∧ f ≤ x ∧ x ≤ n' + f ∧ H2 = H1,
        fun σ' H' ⟨l, f, a1, a2, a3, a4, a5, a7⟩ => ⟨n', by omega, l, f, a1, a2, a3, a4, a5, a7⟩, ?_⟩
      refine ⟨_, rfl, _, rfl, _, _, rfl, rfl, .inr ⟨by omega, by omega⟩, _, rfl, _, _, rfl, rfl, l + 1, f * m, ?_, ?_, by omega, hle, by omega, rfl⟩
      · rw [← hmul]
        rfl
      · rw [← hl]
        show _ = lvl x m (n' + 1) l f
        rw [show lvl x m (n' + 1) l f = if f * m ≤ x then lvl x m n' (l + 1) (f * m) else (l, f) from rfl, if_pos hle]
    · have hgt : ¬ f * m ≤ x := fun z => h (decide_eq_true (by rw [hmul]; omega))
      have hend : lvl x m x 0 1 = (l, f) := by
        rw [← hl]
        cases n with
        | zero => rfl
        | succ n => rw [show lvl x m (n + 1) l f = if f * m ≤ x then lvl x m n (l + 1) (f * m) else (l, f) from rfl, if_neg hgt]
      refine ⟨_, rfl, _, rfl, _, _, rfl, rfl, ?_⟩
      refine ⟨_, rfl, _, rfl, _, _, rfl, rfl, _, _, rfl, rfl, _, rfl, _, _, rfl, rfl, _, _, rfl, rfl, ⟨by omega, by omega⟩, ?_⟩
      refine ⟨_, rfl, _, rfl, _, _, rfl, rfl, .inr ⟨by omega, by omega⟩, _, rfl, _, _, rfl, rfl, _, rfl, _, _, rfl, rfl, ?_⟩
      have hv : (LD x m : Int) = (l : Int) * (x : Int) + ((x : Int) - (f : Int)) + ((x : Int) - (f : Int) + (m : Int) - 2) / ((m : Int) - 1) := by
        unfold LD
        rw [if_neg (by omega), hend]
        dsimp only
        rw [show (x : Int) - (f : Int) = ((x - f : Nat) : Int) by omega, show ((x - f : Nat) : Int) + (m : Int) - 2 = ((x - f + m - 2 : Nat) : Int) by omega, show (m : Int) - 1 = ((m - 1 : Nat) : Int) by omega]
        rw [Int.natCast_add, Int.natCast_add, Int.natCast_mul, Int.natCast_ediv]
      rw [hv] at q
      exact q

/-! ### the law's own least sums -/
def oV : Option Nat → V
  | none => .non
  | some n => .int (n : Int)
/-- the rows made so far -/
structure Rw (H0 H : Hp) (Ls R : Addr) (ls : List Nat) (x t : Nat) (rs : List Addr) : Prop where
  sm : Same H0 H
  hL : H Ls = some (.lst (ls.map natV))
  hR : H R = some (.lst (rs.map V.ref))
  RL : R ≠ Ls
  rl : rs.length = t + 1
  at_ : ∀ (j : Nat) (a : Addr), rs[j]? = some a → H a = some (.lst ((rowAt ls x j).map oV)) ∧ a ≠ R ∧ a ≠ Ls
theorem Rw.keep {H0 H H' : Hp} {Ls R : Addr} {ls : List Nat} {x t : Nat} {rs : List Addr} (w : Rw H0 H Ls R ls x t rs) (s : Same H H') : Rw H0 H' Ls R ls x t rs :=
  ⟨w.sm.trans s, s _ _ w.hL, s _ _ w.hR, w.RL, w.rl, fun j a h => ⟨s _ _ (w.at_ j a h).1, (w.at_ j a h).2⟩⟩
/-- one object more, or another one changed, that none of them is -/
theorem Rw.aside {H0 H : Hp} {Ls R W : Addr} {ls : List Nat} {x t : Nat} {rs : List Addr} {o : HO} (w : Rw H0 H Ls R ls x t rs) (n0 : H0 W = none) (h1 : W ≠ Ls) (h2 : W ≠ R) (h3 : W ∉ rs) : Rw H0 (upd H W o) Ls R ls x t rs :=
  ⟨same_mut w.sm n0, by rw [upd_ne h1.symm]; exact w.hL, by rw [upd_ne h2.symm]; exact w.hR, w.RL, w.rl, fun j a h => ⟨by rw [upd_ne (fun e : a = W => h3 (by rw [← e]; exact List.mem_of_getElem? h))]; exact (w.at_ j a h).1, (w.at_ j a h).2⟩⟩
theorem rowAt_len (ls : List Nat) (x : Nat) : ∀ t, (rowAt ls x t).length = x + 1
  | 0 => by
    show ((List.range (x + 1)).map _).length = x + 1
    rw [List.length_map, List.length_range]
  | t + 1 => by
    show ((List.range (x + 1)).map _).length = x + 1
    rw [List.length_map, List.length_range]
theorem rowAt_at {ls : List Nat} {x t k : Nat} (hk : k ≤ x) : ∃ v, (rowAt ls x t)[k]? = some v ∧ (rowAt ls x t).getD k none = v := by
  have h : k < (rowAt ls x t).length := by rw [rowAt_len]; omega
  refine ⟨(rowAt ls x t)[k], List.getElem?_eq_getElem h, ?_⟩
  rw [List.getD_eq_getElem?_getD, List.getElem?_eq_getElem h]
  rfl
theorem nat_ints (xs : List Nat) : (xs.map fun n : Nat => (n : Int)).map V.int = xs.map natV := by rw [List.map_map]; rfl
theorem cut_two (xs : List V) : cutV xs (some 2) none = xs.drop 2 := by
  unfold cutV
  rw [show HT.sIx xs.length 0 (some 2) = min 2 xs.length from HT.sIx_nat xs.length 0 2, HT.sIx_none]
  rcases Nat.lt_or_ge xs.length 2 with h | h
  · rw [Nat.min_eq_right (by omega), List.drop_of_length_le (Nat.le_refl _), List.drop_of_length_le (by omega)]
    exact List.take_nil
  · rw [Nat.min_eq_left h]
    exact List.take_of_length_le (by rw [List.length_drop]; omega)
def spLL : Sp := fun vs H Q _ => ∃ N m : Nat, vs = [.int (N : Int), .int (m : Int)] ∧ 2 ≤ N ∧ N ≤ 30 ∧ 2 ≤ m ∧ m ≤ 7 ∧ ∀ H' l, Same H H' → H l = none → H' l = some (.lst ((told m (N + 1)).map natV)) → Q (.ref l) H'
theorem told_step (m n : Nat) : told m (n + 1) = told m n ++ [LD n m] := by
  unfold told
  rw [List.range_succ, List.map_append]
  rfl
theorem told_len (m n : Nat) : (told m n).length = n := by
  unfold told
  rw [List.length_map, List.length_range]
theorem ok_law_least_depths {f : Addr} {fd : FuncData} {k : Nat} (F : Fun K "_law_least_depths" "_law_least_depths" s_law_least_depths f fd) (T : Zs K mg) : FnG P w K mg base (k + 1) f fd ["most", "m"] spLL := by
  refine okG F sc_law_least_depths (fun {vs H Q E} h => ?_) (fun cdv A outer s H vs Q E st hr h => ?_)
  · obtain ⟨N, m, rfl, _⟩ := h
    rfl
  · have hu := hu_of hr
    have sc := sc_law_least_depths
    obtain ⟨N, m, rfl, hN1, hN2, hm, hm2, q⟩ := h
    refine ⟨_, (pss_cons (ps_set (i := 2) sc.nd rfl (.inr rfl) (pe_lst (pa_cons pe_int (pa_cons pe_int pa_nil))))
      (pss_cons (ps_for PassesOwn.never rfl (pi_range2 (by rfl) T.z_range (pa_cons pe_int (pa_cons (pe_op op_add (pv 0) pe_int) pa_nil))) (pg_name (i := 3) sc.nd rfl (.inr rfl)) (pss_cons (ps_set (i := 4) sc.nd rfl (.inr rfl) (pe_lst (pa_cons (pe_lc (own := [("k", 7)]) (g := gName 7) (tt := tYes) rfl sc.nd (pi_range1 (by rfl) T.z_range (pa_cons (pe_op op_add (pv 3) pe_int) pa_nil)) (blk_in (N := n_law_least_depths) (by decide +kernel) (by repeat (first | exact trivial | exact Or.inl rfl | exact Or.inr rfl | refine And.intro ?_ ?_))) (fun _ _ _ _ _ => (pg_name (i := 7) sc.nd rfl (.inl rfl))) (fun _ _ _ _ _ => pts_nil) (fun _ _ _ _ _ => (pe_ifExp (pt_cmpR op_eq (pv 7) pe_int (nomark _)) pe_int pe_non))) pa_nil)))
      (pss_cons (ps_for PassesOwn.never rfl (pi_range1 (by rfl) T.z_range (pa_cons (pv 1) pa_nil)) (pg_name (i := 5) sc.nd rfl (.inl rfl)) (pss_cons (ps_set (i := 6) sc.nd rfl (.inl rfl) (pe_lst pa_nil))
      (pss_cons (ps_for PassesOwn.never rfl (pi_range1 (by rfl) T.z_range (pa_cons (pe_op op_add (pv 3) pe_int) pa_nil)) (pg_name (i := 7) sc.nd rfl (.inr rfl)) (pss_cons (ps_setLc (i := 8) (own := [("one", 9)]) (g := gName 9) rfl sc.nd rfl rfl (sw_true rfl rfl rfl (by decide +kernel)) (pi_range2 (by rfl) T.z_range (pa_cons pe_int (pa_cons (pe_op op_add (pe_callB (call_min2 rfl) (by rfl) T.z_min (by decide +kernel) (pa_cons (pv 7) (pa_cons (pe_op op_sub (pv 3) pe_int) pa_nil))) pe_int) pa_nil))) (blk_in (N := n_law_least_depths) (by decide +kernel) (by repeat (first | exact trivial | exact Or.inl rfl | exact Or.inr rfl | refine And.intro ?_ ?_))) (fun _ _ _ _ _ => (pg_name (i := 9) sc.nd rfl (.inl rfl))) (fun _ _ _ _ _ => (pts_one (pt_cmpR op_notN (pe_ix (ixLK (K := K) rfl) (pe_ix (ixLK (K := K) rfl) (pv 4) (pe_un un_neg pe_int) (fun _ _ => rfl)) (pe_op op_sub (pv 7) (pv 9)) (fun _ _ => rfl)) pe_non (nomark _)))) (fun _ _ _ _ _ => (pe_op op_add (pe_ix (ixLK (K := K) rfl) (pe_ix (ixLK (K := K) rfl) (pv 4) (pe_un un_neg pe_int) (fun _ _ => rfl)) (pe_op op_sub (pv 7) (pv 9)) (fun _ _ => rfl)) (pe_ix (ixLK (K := K) rfl) (pv 2) (pv 9) (fun _ _ => rfl)))))
      (pss_one (ps_expr (pe_bm PySem.F.plainAttrs_list PySem.F.slot_list_append PySem.F.type_list_append mt_append (pv 6) (pa_cons (pe_ifExp (pt_cmpR (neK (K := K) rfl hr.units) (pv 8) (pe_lst pa_nil) (nomark _)) (pe_callB (minK (K := K) rfl rfl) (by rfl) T.z_min (by decide +kernel) (pa_cons (pv 8) pa_nil)) pe_non) pa_nil))))))
      (pss_one (ps_expr (pe_bm PySem.F.plainAttrs_list PySem.F.slot_list_append PySem.F.type_list_append mt_append (pv 4) (pa_cons (pv 6) pa_nil)))))))
      (pss_one (ps_expr (pe_bm PySem.F.plainAttrs_list PySem.F.slot_list_append PySem.F.type_list_append mt_append (pv 2) (pa_cons (pe_op op_add (pv 3) (pe_callB (minK (K := K) rfl rfl) (by rfl) T.z_min (by decide +kernel) (pa_cons (pe_lc (own := [("row", 6)]) (g := gName 6) rfl sc.nd (pi_listK (K := K) rfl (pe_slice (slLK (K := K) rfl) (pv 4) (po_some pe_int) po_none)) (blk_in (N := n_law_least_depths) (by decide +kernel) (by repeat (first | exact trivial | exact Or.inl rfl | exact Or.inr rfl | refine And.intro ?_ ?_))) (fun _ _ _ _ _ => (pg_name (i := 6) sc.nd rfl (.inl rfl))) (fun _ _ _ _ _ => (pts_one (pt_cmpR op_notN (pe_ix (ixLK (K := K) rfl) (pv 6) (pv 3) (fun _ _ => rfl)) pe_non (nomark _)))) (fun _ _ _ _ _ => (pe_ix (ixLK (K := K) rfl) (pv 6) (pv 3) (fun _ _ => rfl)))) pa_nil))) pa_nil)))))))
      (pss_one (ps_ret (pv 2))))), ?_⟩
    -- least = [0, 0]
    refine ⟨by show 2 ≤ sizeLine; decide, fun Ls nL => ?_⟩
    have e00 : ([.int 0, .int 0] : List V) = (told m 2).map natV := by
      have h1 : LD 1 m = 0 := by
        rw [LD_eq (k := 0) hm (by simp) (by rw [Nat.pow_zero]; omega)]
        show 0 * 1 + 0 + (0 + m - 2) / (m - 1) = 0
        rw [Nat.div_eq_of_lt (by omega)]
      show _ = [natV (LD 0 m), natV (LD 1 m)]
      rw [h1, LD_zero]
      rfl
    rw [e00]
    refine ⟨_, rfl, _, _, rfl, rfl, 2, (N : Int) + 1, rfl, ⟨by omega, by omega, by omega, by omega⟩, ?_⟩
    rw [show ((N : Int) + 1 - 2).toNat = N - 1 by omega]
    refine for_range (lo := 2) (n := N - 1) (fun i σ H1 => ∃ v3 v4 v5 v6 v7 v8, σ = [some (.int (N : Int)), some (.int (m : Int)), some (.ref Ls), v3, v4, v5, v6, v7, v8, none] ∧ Same H H1 ∧ H1 Ls = some (.lst ((told m (i + 2)).map natV)))
      ⟨none, none, none, none, none, none, rfl, same_new nL, upd_same⟩ ?_ ?_
    · rintro i σ H1 hi ⟨v3, v4, v5, v6, v7, v8, rfl, s1, hL⟩
      obtain ⟨x, hx⟩ : ∃ x, x = i + 2 := ⟨_, rfl⟩
      rw [← hx] at hL
      rw [show (2 : Int) + (i : Int) = (x : Int) by omega]
      have hxb : x ≤ 30 := by omega
      have hx2 : 2 ≤ x := by omega
      -- rows = [[0 if k == 0 else None for k in range(x + 1)]]
      refine ⟨_, rfl, _, _, rfl, rfl, (x : Int) + 1, rfl, by omega, by omega, fun D nD => ?_⟩
      rw [show ((x : Int) + 1).toNat = x + 1 by omega]
      refine lc_vals (n := x + 1) (j := 7) (Yx := fun i y => y = .int (0 + (i : Int))) walk_range nD (fun k => oV (if k = 0 then some 0 else none)) (by omega) (fun _ _ _ _ y => y) (fun _ _ => trivial) ?_ ?_
      · rintro k y H2 hk s2 rfl Q' hQ
        refine ⟨_, rfl, rfl, _, rfl, ite2 (fun h => ?_) (fun h => ?_)⟩
        · have e : k = 0 := by have := V.int.inj (of_decide_eq_true h); omega
          subst e
          exact hQ H2 (Same.refl _)
        · have e : k ≠ 0 := fun z => by
            subst z
            exact h (decide_eq_true rfl)
          rw [if_neg e] at hQ
          exact hQ H2 (Same.refl _)
      intro H2 s2 hD
      refine ⟨by show 1 ≤ sizeLine; decide, fun R nR => ?_⟩
      have hL2 := s2 _ _ hL
      have W0 : Rw H (upd H2 R (.lst [.ref D])) Ls R (told m x) x 0 [D] := by
        have a1 : Ls ≠ R := ne_of_none hL2 nR
        have a2 : D ≠ R := ne_of_none hD nR
        have a3 : Ls ≠ D := ne_of_none hL nD
        refine ⟨(s1.trans s2).trans (same_new nR), by rw [upd_ne a1]; exact hL2, upd_same, a1.symm, rfl, fun j a h => ?_⟩
        match j, h with
        | 0, h =>
          cases Option.some.inj h
          refine ⟨?_, a2, a3.symm⟩
          rw [upd_ne a2, hD]
          show _ = some (HO.lst (((List.range (x + 1)).map fun k => if k = 0 then some 0 else none).map oV))
          rw [List.map_map]
          rfl
      have nL0 : H Ls = none := nL
      have nR0 : H R = none := free_back (s1.trans s2) nR
      clear hD hL2 s2 nD nR hL
      generalize upd H2 R (.lst [.ref D]) = H3 at W0
      -- for turn in range(m)
      refine ⟨_, rfl, (m : Int), rfl, by omega, by omega, for_range (lo := 0) (n := m) (fun t σ H4 => ∃ v5 v6 v7 v8 rs, σ = [some (.int (N : Int)), some (.int (m : Int)), some (.ref Ls), some (.int (x : Int)), some (.ref R), v5, v6, v7, v8, none] ∧ Rw H H4 Ls R (told m x) x t rs)
        ⟨v5, v6, v7, v8, [D], rfl, W0⟩ ?_ ?_⟩
      · rintro t σ H4 ht ⟨v5, v6, v7, v8, rs, rfl, W⟩
        -- row = []
        refine ⟨Nat.zero_le _, fun Wd nW => ?_⟩
        have nW0 : H Wd = none := free_back W.sm nW
        have wL : Wd ≠ Ls := (ne_of_none W.hL nW).symm
        have wR : Wd ≠ R := (ne_of_none W.hR nW).symm
        have wrs : Wd ∉ rs := fun hm' => by
          obtain ⟨j, hj⟩ := List.mem_iff_getElem?.mp hm'
          exact (ne_of_none (W.at_ j Wd hj).1 nW) rfl
        refine ⟨_, rfl, _, _, rfl, rfl, (x : Int) + 1, rfl, by omega, by omega, ?_⟩
        rw [show ((x : Int) + 1).toNat = x + 1 by omega]
        refine for_range (lo := 0) (n := x + 1) (fun k σ H5 => ∃ v7 v8, σ = [some (.int (N : Int)), some (.int (m : Int)), some (.ref Ls), some (.int (x : Int)), some (.ref R), some (.int (0 + (t : Int))), some (.ref Wd), v7, v8, none] ∧ Rw H H5 Ls R (told m x) x t rs ∧
            H5 Wd = some (.lst (((List.range k).map fun k => minO (cellM (rowAt (told m x) x t) (told m x) x k)).map oV))) ⟨v7, v8, rfl, W.aside nW0 wL wR wrs, upd_same⟩ ?_ ?_
        · rintro k σ H5 hk ⟨v7, v8, rfl, W5, hW⟩
          rw [show (0 : Int) + (k : Int) = (k : Int) by omega]
          -- the last row
          obtain ⟨a, ha⟩ : ∃ a, rs[t]? = some a := ⟨rs[t]'(by rw [W.rl]; omega), List.getElem?_eq_getElem _⟩
          obtain ⟨hA, aR, aL⟩ := W5.at_ t a ha
          have lastI : atI (rs.map V.ref) (-1) = some (.ref a) := by
            obtain ⟨ys, z, e⟩ : ∃ ys z, rs = ys ++ [z] := ⟨rs.dropLast, rs.getLast (by intro z; rw [z] at ha; cases ha), (List.dropLast_concat_getLast _).symm⟩
            have hz : z = a := by
              have h1 := W.rl
              rw [e, List.length_append] at h1
              have h2 : ([z] : List Addr).length = 1 := rfl
              rw [e, List.getElem?_append_right (by omega), show t - ys.length = 0 by omega] at ha
              exact Option.some.inj ha
            rw [e, List.map_append, hz]
            exact atI_last _ _
          -- some = [rows[-1][k - one] + least[one] for one in range(1, min(k, x - 1) + 1) if rows[-1][k - one] is not None]
          have hmin : (if (x : Int) - 1 < (k : Int) then (x : Int) - 1 else (k : Int)) = ((min k (x - 1) : Nat) : Int) := by split <;> omega
          refine ⟨_, rfl, _, rfl, _, _, rfl, rfl, _, _, rfl, ?_⟩
          rw [hmin]
          refine ⟨_, _, rfl, rfl, 1, ((min k (x - 1) : Nat) : Int) + 1, rfl, by omega, ?_⟩
          rw [show (((min k (x - 1) : Nat) : Int) + 1 - 1).toNat = min k (x - 1) by omega]
          intro S nS
          have sW : S ≠ Wd := (ne_of_none hW nS).symm
          let fm := fun i => ((rowAt (told m x) x t).getD (k - (i + 1)) none).map (· + (told m x).getD (i + 1) 0)
          refine lc_it walk_range (fun i H6 => Same H5 H6 ∧ H6 S = some (.lst (((List.range i).filterMap fm).map natV))) ⟨same_new nS, upd_same⟩ (fun _ _ _ _ => trivial) ?_ ?_
          · rintro i y H6 H7 hi ⟨s6, hS⟩ ⟨rfl, rfl⟩
            refine ⟨wipe_again _ 9 _, ?_⟩
            have W6 := W5.keep s6
            have hA6 := s6 _ _ hA
            obtain ⟨v, hv, hv2⟩ := rowAt_at (ls := told m x) (x := x) (t := t) (k := k - (i + 1)) (by omega)
            have at1 : atI ((rowAt (told m x) x t).map oV) ((k : Int) - (1 + (i : Int))) = some (oV v) := by
              rw [show (k : Int) - (1 + (i : Int)) = ((k - (i + 1) : Nat) : Int) by omega]
              exact atI_nat (by rw [List.getElem?_map, hv]; rfl)
            refine ⟨_, rfl, 1, rfl, R, _, -1, .ref a, rfl, rfl, sq_at W6.hR, lastI, _, rfl, _, rfl, _, _, rfl, rfl, a, _, _, oV v, rfl, rfl, sq_at hA6, at1, rfl, _, rfl, ?_⟩
            have step : (List.range (i + 1)).filterMap fm = (List.range i).filterMap fm ++ (match v.map (· + (told m x).getD (i + 1) 0) with | none => [] | some z => [z]) := by
              have h : fm i = v.map (· + (told m x).getD (i + 1) 0) := by
                show ((rowAt (told m x) x t).getD (k - (i + 1)) none).map _ = _
                rw [hv2]
              rw [List.range_succ, List.filterMap_append]
              simp only [List.filterMap_cons, List.filterMap_nil, h]
              cases v <;> rfl
            cases v with
            | none =>
              show (if (!decide (V.non = V.non)) = true then _ else _)
              refine ne_self ⟨s6, ?_⟩
              rw [step]
              simpa using hS
            | some z =>
              show (if (!decide (oV (some z) = V.non)) = true then _ else _)
              rw [if_pos (show (!decide (oV (some z) = V.non)) = true from rfl)]
              have ht1 : (told m x)[i + 1]? = some (LD (i + 1) m) := told_at (by omega)
              refine ⟨_, rfl, 1, rfl, R, _, -1, .ref a, rfl, rfl, sq_at W6.hR, lastI, _, rfl, _, rfl, _, _, rfl, rfl, a, _, _, oV (some z), rfl, rfl, sq_at hA6, at1, _, rfl, _, rfl, Ls, _, 1 + (i : Int), natV (LD (i + 1) m), rfl, rfl, sq_at W6.hL, ?_, _, _, rfl, rfl, ?_⟩
              · rw [show (1 : Int) + (i : Int) = ((i + 1 : Nat) : Int) by omega]
                exact atI_nat (by rw [List.getElem?_map, ht1]; rfl)
              · refine ⟨_, hS, ?_, same_mut s6 nS, ?_⟩
                · rw [List.length_map]
                  exact small1000 (Nat.le_trans (List.length_filterMap_le _ _) (by rw [List.length_range]; omega))
                · rw [upd_same, step, List.map_append]
                  have : (told m x).getD (i + 1) 0 = LD (i + 1) m := by
                    rw [List.getD_eq_getElem?_getD, ht1]
                    rfl
                  rw [this]
                  show some (HO.lst (_ ++ [V.int ((z : Int) + ((LD (i + 1) m : Nat) : Int))])) = some (HO.lst (_ ++ [natV (z + LD (i + 1) m)]))
                  unfold natV
                  rw [Int.natCast_add]
          · rintro H6 ⟨s6, hS⟩
            obtain ⟨fs, hfs⟩ : ∃ fs, (List.range (min k (x - 1))).filterMap fm = fs := ⟨_, rfl⟩
            have hcell : cellM (rowAt (told m x) x t) (told m x) x k = fs := hfs
            have lfs : fs.length ≤ 31 := by
              rw [← hfs]
              exact Nat.le_trans (List.length_filterMap_le _ _) (by rw [List.length_range]; omega)
            rw [hfs, ← nat_ints] at hS
            have W6 := W5.keep s6
            have hW6 := s6 _ _ hW
            clear_value fm
            -- row.append(min(some) if some != [] else None)
            have fin : ∀ (H8 : Hp) (v : Option Nat), Same H6 H8 → minO fs = v → rAppend (.ref Wd) [oV v] H8 fun _ H9 => ∃ (v7' v8' : Option V), ([some (.int (N : Int)), some (.int (m : Int)), some (.ref Ls), some (.int (x : Int)), some (.ref R), some (.int (0 + (t : Int))), some (.ref Wd), some (.int (k : Int)), some (.ref S), none] : L2.St) = [some (.int (N : Int)), some (.int (m : Int)), some (.ref Ls), some (.int (x : Int)), some (.ref R), some (.int (0 + (t : Int))), some (.ref Wd), v7', v8', none] ∧ Rw H H9 Ls R (told m x) x t rs ∧
                H9 Wd = some (.lst (((List.range (k + 1)).map fun k => minO (cellM (rowAt (told m x) x t) (told m x) x k)).map oV)) := fun H8 v s8 hv => by
              refine ⟨Wd, _, oV v, rfl, rfl, s8 _ _ hW6, ?_, _, _, rfl, (W6.keep s8).aside nW0 wL wR wrs, ?_⟩
              · rw [List.length_map, List.length_map, List.length_range]
                exact small1000 (by omega)
              · rw [upd_same, List.range_succ, List.map_append, List.map_append]
                show some (HO.lst (_ ++ [oV v])) = some (HO.lst (_ ++ [oV (minO (cellM (rowAt (told m x) x t) (told m x) x k))]))
                rw [hcell, hv]
            refine ⟨_, rfl, .inl ⟨rfl, _, sq_at hW6⟩, _, rfl, Nat.zero_le _, fun G nG => ?_⟩
            have sG := same_new (o := .lst []) nG
            refine ⟨.list ((fs.map fun n : Nat => (n : Int)).map PyData.int), .list [], dp_ints (sG _ _ hS), .lst (sq_at upd_same) .nil, shaped_ints _, by decide, _, rfl, ?_⟩
            rw [eqv_nil]
            cases fs with
            | nil => exact fin _ none sG rfl
            | cons f0 fr =>
              refine ⟨_, rfl, S, _, rfl, sq_at (sG _ _ hS), by simp, fun z hz hle => ?_⟩
              obtain ⟨z0, hz0, rfl⟩ := List.mem_map.mp hz
              exact fin _ (some z0) sG (minO_some hz0 fun y hy => by have := hle (y : Int) (List.mem_map.mpr ⟨y, hy, rfl⟩); omega)
        · rintro σ H5 ⟨v7, v8, rfl, W5, hW⟩
          -- rows.append(row)
          refine ⟨_, rfl, .inl ⟨rfl, _, sq_at W5.hR⟩, _, rfl, R, _, _, rfl, rfl, W5.hR, ?_, some (.int (0 + (t : Int))), some (.ref Wd), v7, v8, rs ++ [Wd], rfl, ⟨same_mut W5.sm nR0, by rw [upd_ne W5.RL.symm]; exact W5.hL, ?_, W5.RL, ?_, fun j a h => ?_⟩⟩
          · rw [List.length_map, W5.rl]
            exact small1000 (by omega)
          · rw [upd_same, List.map_append]
            rfl
          · rw [List.length_append, W5.rl]
            rfl
          · by_cases hj : j < rs.length
            · rw [List.getElem?_append_left hj] at h
              obtain ⟨g1, g2, g3⟩ := W5.at_ j a h
              exact ⟨by rw [upd_ne g2]; exact g1, g2, g3⟩
            · have hl : j < (rs ++ [Wd]).length := (List.getElem?_eq_some_iff.mp h).1
              rw [List.length_append] at hl
              have e1 : ([Wd] : List Addr).length = 1 := rfl
              have hrl := W5.rl
              rw [List.getElem?_append_right (by omega), show j - rs.length = 0 by omega] at h
              cases Option.some.inj h
              refine ⟨?_, wR, wL⟩
              rw [upd_ne wR, hW, show j = t + 1 by omega]
              rfl
      · rintro σ H4 ⟨v5, v6, v7, v8, rs, rfl, W⟩
        -- least.append(x + min([row[x] for row in rows[2:] if row[x] is not None]))
        refine ⟨_, rfl, .inl ⟨rfl, _, sq_at W.hL⟩, _, rfl, _, rfl, 2, rfl, R, _, rfl, sq_at W.hR, fun c nc => ?_⟩
        rw [cut_two, ← List.map_drop]
        have sc4 := same_new (o := .lst ((rs.drop 2).map V.ref)) nc
        have Wc := W.keep sc4
        refine ⟨c, rfl, ⟨_, sq_at upd_same⟩, fun S nS => ?_⟩
        have hc : upd H4 c (.lst ((rs.drop 2).map V.ref)) c = some (.lst ((rs.drop 2).map V.ref)) := upd_same
        generalize upd H4 c (.lst ((rs.drop 2).map V.ref)) = H5 at Wc hc nS
        clear sc4 nc
        let gm := fun i => (rowAt (told m x) x (i + 2)).getD x none
        refine lc_it (walk_list (K := K) (a := c) (xs := (rs.drop 2).map V.ref)) (fun i H6 => Same H5 H6 ∧ H6 S = some (.lst (((List.range i).filterMap gm).map natV))) ⟨same_new nS, upd_same⟩ (fun i H6 _ h6 => h6.1.seq (sq_at hc)) ?_ ?_
        · rintro i y H6 H7 hi ⟨s6, hS⟩ ⟨rfl, hy⟩
          obtain ⟨a, ha, rfl⟩ := ref_at hy
          rw [List.getElem?_drop, Nat.add_comm] at ha
          obtain ⟨hA, aR, aL⟩ := (Wc.keep s6).at_ (i + 2) a ha
          obtain ⟨v, hv, hv2⟩ := rowAt_at (ls := told m x) (x := x) (t := i + 2) (k := x) (Nat.le_refl _)
          have at1 : atI ((rowAt (told m x) x (i + 2)).map oV) (x : Int) = some (oV v) := atI_nat (by rw [List.getElem?_map, hv]; rfl)
          have hil : i < m := by
            rw [List.length_map, List.length_drop, W.rl] at hi
            omega
          refine ⟨wipe_again _ 6 _, ?_⟩
          refine ⟨_, rfl, _, rfl, a, _, _, oV v, rfl, rfl, sq_at hA, at1, rfl, _, rfl, ?_⟩
          have step : (List.range (i + 1)).filterMap gm = (List.range i).filterMap gm ++ (match v with | none => [] | some z => [z]) := by
            have h : gm i = v := hv2
            rw [List.range_succ, List.filterMap_append]
            simp only [List.filterMap_cons, List.filterMap_nil, h]
            cases v <;> rfl
          cases v with
          | none =>
            show (if (!decide (V.non = V.non)) = true then _ else _)
            refine ne_self ⟨s6, ?_⟩
            rw [step]
            simpa using hS
          | some z =>
            show (if (!decide (oV (some z) = V.non)) = true then _ else _)
            rw [if_pos (show (!decide (oV (some z) = V.non)) = true from rfl)]
            refine ⟨_, rfl, _, rfl, a, _, _, oV (some z), rfl, rfl, sq_at hA, at1, _, hS, ?_, same_mut s6 nS, ?_⟩
            · rw [List.length_map]
              exact small1000 (Nat.le_trans (List.length_filterMap_le _ _) (by rw [List.length_range]; omega))
            · rw [upd_same, step, List.map_append]
              rfl
        · rintro H6 ⟨s6, hS⟩
          have hlast : (List.range ((rs.drop 2).map V.ref).length).filterMap gm = lastM (told m x) m x := by
            rw [List.length_map, List.length_drop, W.rl, show m + 1 - 2 = m - 1 by omega]
            rfl
          rw [hlast, ← nat_ints] at hS
          obtain ⟨z, hz1, hz2⟩ := next hm hm2 hx2 hxb
          have W6 := Wc.keep s6
          refine ⟨S, _, rfl, sq_at hS, ?_, fun mv hmv hle => ?_⟩
          · rw [List.length_map]
            refine List.length_pos_iff.mpr fun e => ?_
            rw [e] at hz1
            cases hz1
          · obtain ⟨z0, hz0, rfl⟩ := List.mem_map.mp hmv
            have e0 := minO_some hz0 fun y hy => by have := hle (y : Int) (List.mem_map.mpr ⟨y, hy, rfl⟩); omega
            obtain rfl : z = z0 := Option.some.inj (hz1.symm.trans e0)
            refine ⟨_, _, rfl, rfl, Ls, _, _, rfl, rfl, W6.hL, ?_, some (.int (x : Int)), some (.ref R), v5, v6, v7, v8, rfl, same_mut W6.sm nL0, ?_⟩
            · rw [List.length_map, told_len]
              exact small1000 (by omega)
            · rw [upd_same, show i + 1 + 2 = x + 1 by omega, told_step, List.map_append, ← hz2]
              show some (HO.lst (_ ++ [V.int ((x : Int) + (z : Int))])) = some (HO.lst (_ ++ [natV (x + z)]))
              unfold natV
              rw [Int.natCast_add]
    · rintro σ H1 ⟨v3, v4, v5, v6, v7, v8, rfl, s1, hL⟩
      rw [show N - 1 + 2 = N + 1 by omega] at hL
      exact ⟨_, rfl, q H1 Ls s1 nL hL⟩

/-! ### is_number, of what may stand in a tuple here -/
def isN : V → Bool
  | .int i => decide (0 ≤ i)
  | _ => false
def Odd4 (H : Hp) (x : V) : Prop := (∃ i, x = .int i) ∨ (∃ b, x = .bl b) ∨ (∃ z, x = .str z) ∨ ∃ a ys, x = .ref a ∧ H a = some (.tup ys)
theorem Odd4.keep {H H' : Hp} {x : V} (s : Same H H') : Odd4 H x → Odd4 H' x
  | .inl h => .inl h
  | .inr (.inl h) => .inr (.inl h)
  | .inr (.inr (.inl h)) => .inr (.inr (.inl h))
  | .inr (.inr (.inr ⟨a, ys, h1, h2⟩)) => .inr (.inr (.inr ⟨a, ys, h1, s _ _ h2⟩))
def spNum : Sp := fun vs H Q _ => ∃ x : V, vs = [x] ∧ Odd4 H x ∧ Q (.bl (isN x)) H
def isW : V → Bool
  | .int i => true
  | _ => false
def spWh : Sp := fun vs H Q _ => ∃ x : V, vs = [x] ∧ Odd4 H x ∧ Q (.bl (isW x)) H
structure Zw (P : Program) (w : World) (K : PySem.W.Frag) (mg : Str → Option Value) (base : Heap) : Type where
  is_whole : Cal P w K mg base 1 "is_whole" ["value"] spWh
theorem ok_is_whole {f : Addr} {fd : FuncData} {k : Nat} (F : Fun K "is_whole" "is_whole" s_is_whole f fd) (T : Zs K mg) : FnG P w K mg base (k + 1) f fd ["value"] spWh := by
  refine okG F sc_is_whole (fun {vs H Q E} h => ?_) (fun cdv A outer s H vs Q E st hr h => ?_)
  · obtain ⟨x, rfl, _⟩ := h
    rfl
  · have hu := hu_of hr
    have sc := sc_is_whole
    obtain ⟨x, rfl, ho, q⟩ := h
    refine ⟨_, (pss_one (ps_ret (pe_and (pe_callB (isiK (K := K) rfl) (by rfl) T.z_isinstance (by decide +kernel) (pa_cons (pv 0) (pa_cons (pe_bltn (v := .ty "int") (by rfl) T.z_int (by decide +kernel) rfl) pa_nil))) (pe_one (pe_not (pe_callB (isiK (K := K) rfl) (by rfl) T.z_isinstance (by decide +kernel) (pa_cons (pv 0) (pa_cons (pe_bltn (v := .ty "bool") (by rfl) T.z_bool (by decide +kernel) rfl) pa_nil)))))))), ?_⟩
    obtain ⟨i, rfl⟩ | ⟨b, rfl⟩ | ⟨z, rfl⟩ | ⟨a, ys, rfl, ha⟩ := ho
    · refine ⟨_, rfl, _, _, _, _, true, rfl, .ty _, .base (.int i), kitII K, true, rfl, iteT ?_⟩
      exact ⟨_, rfl, _, _, _, _, false, rfl, .ty _, .base (.int i), kitIB K, false, rfl, q⟩
    · refine ⟨_, rfl, _, _, _, _, true, rfl, .ty _, .base (.bl b), kitBI K, true, rfl, iteT ?_⟩
      exact ⟨_, rfl, _, _, _, _, true, rfl, .ty _, .base (.bl b), kitBB K, true, rfl, q⟩
    · exact ⟨_, rfl, _, _, _, _, false, rfl, .ty _, .base (.str z), kitSI K, false, rfl, iteF q⟩
    · exact ⟨_, rfl, _, _, _, _, false, rfl, .ty _, .base (.tup ha), kitTI K, false, rfl, iteF q⟩

theorem ok_is_number {f : Addr} {fd : FuncData} {k : Nat} (F : Fun K "is_number" "is_number" s_is_number f fd) (T : Zw P w K mg base) : FnG P w K mg base (k + 1 + 1) f fd ["value"] spNum := by
  refine okG F sc_is_number (fun {vs H Q E} h => ?_) (fun cdv A outer s H vs Q E st hr h => ?_)
  · obtain ⟨x, rfl, _⟩ := h
    rfl
  · have hu := hu_of hr
    have sc := sc_is_number
    obtain ⟨x, rfl, ho, q⟩ := h
    refine ⟨_, (pss_one (ps_ret (pe_and (pe_cal T.is_whole st (hr.mono (by omega)) (pa_cons (pv 0) pa_nil)) (pe_one (pe_cmpR op_ge (pv 0) pe_int (nomark _)))))), ?_⟩
    refine ⟨_, rfl, x, rfl, ho, _, rfl, ?_⟩
    obtain ⟨i, rfl⟩ | ⟨b, rfl⟩ | ⟨z, rfl⟩ | ⟨a, ys, rfl, ha⟩ := ho
    · exact iteT ⟨_, rfl, _, _, rfl, rfl, q⟩
    · exact iteF q
    · exact iteF q
    · exact iteF q

end
end Lw
namespace Lw
open PySem PySem.Spec PyProof.Rows L2 Gd Ld Pt
section
variable {P : Program} {w : World} {K : PySem.W.Frag} {mg : Str → Option Value} {base : Heap}
/-! ### best_parting -/
def spBP : Sp := fun vs H Q _ => ∃ x m : Nat, vs = [.int (x : Int), .int (m : Int)] ∧ 2 ≤ m ∧ m ≤ 64 ∧ 2 ≤ x ∧ x < 2 ^ 16 ∧ ∀ H' a, Same H H' → H a = none → H' a = some (.tup ((bpS x m).map natV)) → Q (.ref a) H'
theorem ok_best_parting {f : Addr} {fd : FuncData} {k : Nat} (F : Fun K "best_parting" "best_parting" s_best_parting f fd) (T : Zs K mg) : FnG P w K mg base (k + 1) f fd ["x", "m"] spBP := by
  refine okG F sc_best_parting (fun {vs H Q E} h => ?_) (fun cdv A outer s H vs Q E st hr h => ?_)
  · obtain ⟨x, m, rfl, _⟩ := h
    rfl
  · have hu := hu_of hr
    have sc := sc_best_parting
    obtain ⟨x, m, rfl, hm, hm2, hx, hx2, q⟩ := h
    refine ⟨_, (pss_cons (ps_if (pt_cmpR op_le (pv 0) (pv 1) (nomark _)) (pss_one (ps_ret (pe_op (repTK (K := K) rfl) (pe_tup (pa_cons pe_int pa_nil)) (pv 0)))) pss_nil)
      (pss_cons (ps_set (i := 2) sc.nd rfl (.inl rfl) pe_int)
      (pss_cons (ps_while PassesOwn.never (pt_cmpR op_le (pe_op op_mul (pe_op op_mul (pv 2) (pv 1)) (pv 1)) (pv 0) (nomark _)) (pss_one (ps_set (i := 2) sc.nd rfl (.inl rfl) (pe_op op_mul (pv 2) (pv 1)))))
      (pss_cons (ps_set (i := 3) sc.nd rfl (.inl rfl) (pe_op op_sub (pv 0) (pe_op op_mul (pv 2) (pv 1))))
      (pss_cons (ps_set (i := 4) sc.nd rfl (.inl rfl) (pe_lst pa_nil))
      (pss_cons (ps_for PassesOwn.never rfl (pi_range1 (by rfl) T.z_range (pa_cons (pv 1) pa_nil)) (pg_name (i := 5) sc.nd rfl (.inl rfl)) (pss_cons (ps_set (i := 6) sc.nd rfl (.inl rfl) (pe_callB (call_min2 rfl) (by rfl) T.z_min (by decide +kernel) (pa_cons (pv 3) (pa_cons (pe_op op_mul (pv 2) (pe_op op_sub (pv 1) pe_int)) pa_nil))))
      (pss_cons (ps_expr (pe_bm PySem.F.plainAttrs_list PySem.F.slot_list_append PySem.F.type_list_append mt_append (pv 4) (pa_cons (pe_op op_add (pv 2) (pv 6)) pa_nil)))
      (pss_one (ps_aug (i := 3) sc.nd rfl (.inl rfl) (pv 6) ip_sub)))))
      (pss_one (ps_ret (pe_callTy (tupK (K := K) rfl) (by rfl) T.z_tuple (by decide +kernel) (pa_cons (pv 4) pa_nil)))))))))), ?_⟩
    refine ⟨_, rfl, _, rfl, _, _, rfl, rfl, _, rfl, ite2 (fun h => ?_) (fun h => ?_)⟩
    · have hle : x ≤ m := by have := of_decide_eq_true h; omega
      refine ⟨by show 1 ≤ sizeLine; decide, fun t nt => ?_⟩
      refine ⟨_, rfl, t, _, _, rfl, rfl, st_at upd_same, by simp, by omega, by omega, by show 1 ≤ 1000; decide, fun p nP => ?_⟩
      refine q _ p ((same_new nt).trans (same_new nP)) (free_back (same_new nt) nP) ?_
      rw [upd_same]
      unfold bpS
      rw [if_pos hle, List.map_replicate, show ((x : Int)).toNat = x from rfl, List.flatten_replicate_singleton]
      rfl
    have hgt : m < x := by
      refine Nat.lt_of_not_le fun z => h (decide_eq_true (by omega))
    refine ⟨fun mm σ H1 => ∃ pt : Nat, σ = [some (.int (x : Int)), some (.int (m : Int)), some (.int (pt : Int)), none, none, none, none] ∧ bpp x m mm pt = bpp x m x 1 ∧ 1 ≤ pt ∧ pt * m ≤ x ∧ x ≤ mm + pt ∧ H1 = H,
      ⟨x, 1, rfl, rfl, by omega, by omega, by omega, rfl⟩, ?_⟩
    rintro n σ H1 ⟨pt, rfl, hb, hp, hpx, hn, eH⟩
    subst eH
    have hmul : ((pt : Int) * (m : Int) * (m : Int)) = ((pt * m * m : Nat) : Int) := by rw [Int.natCast_mul, Int.natCast_mul]
    refine ⟨_, rfl, _, rfl, _, _, rfl, rfl, .inr ⟨by omega, by omega⟩, _, rfl, _, _, rfl, rfl, .inr ⟨by omega, by omega⟩, _, rfl, _, _, rfl, rfl, _, rfl, ite2 (fun h => ?_) (fun h => ?_)⟩
    · have hle : pt * m * m ≤ x := by
        have := of_decide_eq_true h
        rw [hmul] at this
        omega
      have h2 : pt * 2 ≤ pt * m := Nat.mul_le_mul_left pt hm
      have h3 : pt * m * 1 ≤ pt * m * m := Nat.mul_le_mul_left _ (by omega)
      obtain ⟨n', rfl⟩ : ∃ n', n = n' + 1 := ⟨n - 1, by omega⟩
      refine ⟨fun σ H2 => ∃ pt : Nat, σ = [some (.int (x : Int)), some (.int (m : Int)), some (.int (pt : Int)), none, none, none, none] ∧ bpp x m n' pt = bpp x m x 1 ∧ 1 ≤ pt ∧ pt * m ≤ x ∧ x ≤ n' + pt ∧ H2 = H1,
        fun σ' H' ⟨l, a1, a2, a3, a4, a5, a7⟩ => ⟨n', by omega, l, a1, a2, a3, a4, a5, a7⟩, ?_⟩
      refine ⟨_, rfl, _, rfl, _, _, rfl, rfl, .inr ⟨by omega, by omega⟩, pt * m, ?_, ?_, by omega, hle, by omega, rfl⟩
      · rw [Int.natCast_mul]
        rfl
      · rw [← hb]
        show _ = bpp x m (n' + 1) pt
        rw [show bpp x m (n' + 1) pt = if pt * m * m ≤ x then bpp x m n' (pt * m) else pt from rfl, if_pos hle]
    · have hgt2 : ¬ pt * m * m ≤ x := fun z => h (decide_eq_true (by rw [hmul]; omega))
      have hend : bpp x m x 1 = pt := by
        rw [← hb]
        cases n with
        | zero => rfl
        | succ n => rw [show bpp x m (n + 1) pt = if pt * m * m ≤ x then bpp x m n (pt * m) else pt from rfl, if_neg hgt2]
      refine ⟨_, rfl, _, rfl, _, rfl, _, _, rfl, rfl, .inr ⟨by omega, by omega⟩, _, _, rfl, rfl, ?_⟩
      refine ⟨Nat.zero_le _, fun L nL => ?_⟩
      obtain ⟨lf0, hlf0⟩ : ∃ lf, x - pt * m = lf := ⟨_, rfl⟩
      refine ⟨_, rfl, (m : Int), rfl, by omega, by omega, for_range (lo := 0) (n := m) (fun i σ H2 => ∃ (v5 v6 : Option V) (lf : Nat) (done : List Nat), σ = [some (.int (x : Int)), some (.int (m : Int)), some (.int (pt : Int)), some (.int (lf : Int)), some (.ref L), v5, v6] ∧ Same H1 H2 ∧ H2 L = some (.lst (done.map natV)) ∧
          done ++ bpl m pt (m - i) lf = bpl m pt m lf0 ∧ done.length = i) ⟨none, none, lf0, [], ?_, same_new nL, upd_same, rfl, rfl⟩ ?_ ?_⟩
      · rw [← hlf0, Int.ofNat_sub hpx, Int.natCast_mul]
        rfl
      · rintro i σ H2 hi ⟨v5, v6, lf, done, rfl, s2, hL, hd, hdl⟩
        obtain ⟨b, hb1⟩ : ∃ b : Nat, pt * (m - 1) = b := ⟨_, rfl⟩
        have hb2 : (pt : Int) * ((m : Int) - 1) = (b : Int) := by
          rw [← hb1, Int.natCast_mul, Int.ofNat_sub (by omega)]
          rfl
        obtain ⟨mo, hmo⟩ : ∃ mo, min lf b = mo := ⟨_, rfl⟩
        have hmin : (if (pt : Int) * ((m : Int) - 1) < (lf : Int) then (pt : Int) * ((m : Int) - 1) else (lf : Int)) = (mo : Int) := by
          rw [hb2]
          split <;> omega
        refine ⟨_, rfl, _, rfl, _, rfl, _, _, rfl, rfl, _, _, rfl, rfl, .inr ⟨by omega, by omega⟩, _, _, rfl, ?_⟩
        show gName 6 (V.int (if (pt : Int) * ((m : Int) - 1) < (lf : Int) then (pt : Int) * ((m : Int) - 1) else (lf : Int))) _ _ _
        rw [hmin]
        refine ⟨_, rfl, .inl ⟨rfl, _, sq_at hL⟩, _, rfl, _, rfl, _, _, rfl, rfl, L, _, _, rfl, rfl, hL, ?_, ?_⟩
        · rw [List.length_map]
          exact small1000 (by omega)
        refine ⟨_, rfl, _, rfl, _, _, rfl, rfl, some (.int (0 + (i : Int))), some (.int (mo : Int)), lf - mo, done ++ [pt + mo], ?_, same_mut s2 nL, ?_, ?_, ?_⟩
        · rw [Int.ofNat_sub (by omega)]
          rfl
        · rw [upd_same, List.map_append]
          show some (HO.lst (_ ++ [V.int ((pt : Int) + (mo : Int))])) = some (HO.lst (_ ++ [natV (pt + mo)]))
          unfold natV
          rw [Int.natCast_add]
        · rw [← hd, show m - i = (m - (i + 1)) + 1 by omega]
          show _ = done ++ ((pt + min lf (pt * (m - 1))) :: bpl m pt (m - (i + 1)) (lf - min lf (pt * (m - 1))))
          rw [hb1, hmo, List.append_assoc]
          rfl
        · rw [List.length_append, hdl]
          rfl
      · rintro σ H2 ⟨v5, v6, lf, done, rfl, s2, hL, hd, hdl⟩
        refine ⟨_, rfl, L, _, rfl, .inl ⟨sq_at hL, fun t nt => q _ t (s2.trans (same_new nt)) (free_back s2 nt) ?_⟩⟩
        rw [upd_same]
        unfold bpS
        rw [if_neg (by omega), hend, hlf0, ← hd, Nat.sub_self]
        show _ = some (HO.tup (List.map natV (done ++ [])))
        rw [List.append_nil]

end
end Lw
namespace Lw
open PySem PySem.Spec PyProof.Rows L2 Gd Ld Pt
section
variable {P : Program} {w : World} {K : PySem.W.Frag} {mg : Str → Option Value} {base : Heap}
/-! ### is_best_parting -/
structure Z3 (P : Program) (w : World) (K : PySem.W.Frag) (mg : Str → Option Value) (base : Heap) where
  z_len : mg "len" = none
  z_sum : mg "sum" = none
  z_tuple : mg "tuple" = none
  z_isinstance : mg "isinstance" = none
  is_number : Cal P w K mg base 2 "is_number" ["value"] spNum
  least_depths : Cal P w K mg base 1 "least_depths" ["x", "m"] spLD
def okE : V → Bool
  | .int i => decide (0 < i)
  | _ => false
/-- no tuple -/
def NoTup (H : Hp) (v : V) : Prop := v = .non ∨ (∃ i, v = .int i) ∨ ∃ a ys, v = .ref a ∧ H a = some (.lst ys)
def spIB : Sp := fun vs H Q _ => ∃ (m : Nat) (v : V), vs = [.int (m : Int), v] ∧ 2 ≤ m ∧ m ≤ 64 ∧
  ((NoTup H v ∧ ∀ H', Same H H' → Q (.bl false) H') ∨
   (∃ a ys, v = .ref a ∧ H a = some (.tup ys) ∧ ys.length ≤ 1000 ∧ (∀ y ∈ ys, Odd4 H y) ∧ (¬ (2 ≤ ys.length ∧ ys.length ≤ m) ∨ ∃ y ∈ ys, okE y = false) ∧ ∀ H', Same H H' → Q (.bl false) H') ∨
   (∃ a ns, v = .ref a ∧ H a = some (.tup (ns.map natV)) ∧ 2 ≤ ns.length ∧ ns.length ≤ m ∧ (∀ n ∈ ns, 1 ≤ n ∧ n < 2 ^ 12) ∧ ∀ H', Same H H' → Q (.bl (isB m ns)) H'))
theorem range_map {α β : Type} (d : β) (f : α → β) (l : List α) : (List.range l.length).map (fun i => (l[i]?.map f).getD d) = l.map f := by
  refine List.ext_getElem? fun i => ?_
  rw [List.getElem?_map, List.getElem?_map]
  by_cases h : i < l.length
  · rw [List.getElem?_range h, List.getElem?_eq_getElem h]
    show some ((l[i]?.map f).getD d) = some (f l[i])
    rw [List.getElem?_eq_getElem h]
    rfl
  · rw [List.getElem?_eq_none (by rw [List.length_range]; omega), List.getElem?_eq_none (by omega)]
    rfl
theorem ok_is_best_parting {f : Addr} {fd : FuncData} {k : Nat} (F : Fun K "is_best_parting" "is_best_parting" s_is_best_parting f fd) (T : Z3 P w K mg base) : FnG P w K mg base (k + 1 + 1 + 1) f fd ["m", "value"] spIB := by
  refine okG F sc_is_best_parting (fun {vs H Q E} h => ?_) (fun cdv A outer s H vs Q E st hr h => ?_)
  · obtain ⟨m, v, rfl, _⟩ := h
    rfl
  · have hu := hu_of hr
    have sc := sc_is_best_parting
    obtain ⟨m, v, rfl, hm, hm2, q⟩ := h
    refine ⟨_, (pss_cons (ps_if (PW.pt (pw_or (pt_not (pt_val (pe_callB (isiK (K := K) rfl) (by rfl) T.z_isinstance (by decide +kernel) (pa_cons (pv 1) (pa_cons (pe_bltn (v := .ty "tuple") (by rfl) T.z_tuple (by decide +kernel) rfl) pa_nil))))) (pw_or1 (pt_not (pt_chain op_le op_le pe_int (pe_callB (lenK (K := K) rfl) (by rfl) T.z_len (by decide +kernel) (pa_cons (pv 1) pa_nil)) (pv 0)))))) (pss_one (ps_ret pe_bl)) pss_nil)
      (pss_cons (ps_for PassesOwn.never rfl (pi_tupK (K := K) rfl (pv 1)) (pg_name (i := 2) sc.nd rfl (.inl rfl)) (pss_one (ps_if (PW.pt (pw_or (pt_not (pt_val (pe_cal T.is_number st (hr.mono (by omega)) (pa_cons (pv 2) pa_nil)))) (pw_or1 (pt_cmpR op_eq (pv 2) pe_int (nomark _))))) (pss_one (ps_ret pe_bl)) pss_nil)))
      (pss_cons (ps_set (i := 3) sc.nd rfl (.inl rfl) (pe_callB (sum2K (K := K) rfl rfl) (by rfl) T.z_sum (by decide +kernel) (pa_cons (pv 1) pa_nil)))
      (pss_one (ps_ret (pe_cmpR op_eq (pe_cal T.least_depths st (hr.mono (by omega)) (pa_cons (pv 3) (pa_cons (pv 0) pa_nil))) (pe_op op_add (pe_callB (sum2K (K := K) rfl rfl) (by rfl) T.z_sum (by decide +kernel) (pa_cons (pe_lc (own := [("entry", 2)]) (g := gName 2) (tt := tYes) rfl sc.nd (pi_tupK (K := K) rfl (pv 1)) (blk_in (N := n_is_best_parting) (by decide +kernel) (by repeat (first | exact trivial | exact Or.inl rfl | exact Or.inr rfl | refine And.intro ?_ ?_))) (fun _ _ _ _ _ => (pg_name (i := 2) sc.nd rfl (.inl rfl))) (fun _ _ _ _ _ => pts_nil) (fun _ _ _ _ _ => (pe_cal T.least_depths st (hr.mono (by omega)) (pa_cons (pv 2) (pa_cons (pv 0) pa_nil))))) pa_nil)) (pv 3)) (nomark _))))))), ?_⟩
    rcases q with ⟨hn, q⟩ | ⟨a, ys, rfl, ha, hl, ho, hw, q⟩ | ⟨a, ns, rfl, ha, h1, h2, hb, q⟩
    · obtain ⟨t, ht1, ht2⟩ : ∃ t, TyX K H v t ∧ PySem.W.kitOne K t (.type "tuple") = some false := by
        obtain rfl | ⟨i, rfl⟩ | ⟨a, ys, rfl, ha⟩ := hn
        · exact ⟨_, .base .non, kitNT K⟩
        · exact ⟨_, .base (.int i), kitIT K⟩
        · exact ⟨_, .base (.lst ha), kitLT K⟩
      exact ⟨_, rfl, _, _, _, _, false, rfl, .ty _, ht1, ht2, false, rfl, iteT (iteT (q H (Same.refl _)))⟩
    · refine ⟨_, rfl, _, _, _, _, true, rfl, .ty _, .base (.tup ha), kitTT K, true, rfl, iteF ?_⟩
      by_cases h2 : 2 ≤ ys.length
      · by_cases hm3 : ys.length ≤ m
        · refine ⟨_, rfl, a, _, rfl, .inr (st_at ha), _, _, rfl, rfl, true, congrArg V.bl (decide_eq_true (by omega)), iteT ⟨_, rfl, _, _, rfl, rfl, true, congrArg V.bl (decide_eq_true (by omega)), iteF ?_⟩⟩
          -- some entry is none
          have hw : ∃ y ∈ ys, okE y = false := by
            rcases hw with h | h
            · exact absurd ⟨h2, hm3⟩ h
            · exact h
          refine ⟨_, rfl, a, rfl, ⟨_, st_at ha⟩, for_tup (K := K) (a := a) (xs := ys) (fun i σ H1 => ∃ v2, σ = [some (.int (m : Int)), some (.ref a), v2, none] ∧ H1 = H ∧ ∀ y ∈ ys.take i, okE y = true)
            ⟨none, rfl, rfl, fun y hy => by simp at hy⟩ (fun i σ H1 _ ⟨_, _, e, _⟩ => e ▸ st_at ha) ?_ ?_⟩
          · rintro i y σ H1 hi ⟨v2, rfl, eH, hy⟩
            subst eH
            have hmem := List.mem_of_getElem? hi
            refine ⟨_, rfl, y, rfl, ho y hmem, _, rfl, ?_⟩
            by_cases hk : isN y = true
            · rw [hk]
              refine iteF ?_
              obtain ⟨z, rfl, hz⟩ : ∃ z : Int, y = .int z ∧ 0 ≤ z := by
                cases y with
                | int z => exact ⟨z, rfl, of_decide_eq_true hk⟩
                | _ => cases hk
              refine ⟨_, rfl, rfl, _, rfl, ite2 (fun h => q H1 (Same.refl _)) (fun h => ?_)⟩
              refine ⟨_, rfl, rfl, fun y hy2 => ?_⟩
              rw [takeN hi] at hy2
              rcases List.mem_append.mp hy2 with h3 | h3
              · exact hy y h3
              · rw [List.mem_singleton.mp h3]
                have h0 : z ≠ 0 := fun e => h (by rw [e]; exact decide_eq_true rfl)
                exact decide_eq_true (by omega)
            · rw [Bool.not_eq_true] at hk
              rw [hk]
              exact iteT (iteT (q H1 (Same.refl _)))
          · rintro σ H1 ⟨v2, rfl, eH, hy⟩
            obtain ⟨y, hy1, hy2⟩ := hw
            have := hy y (by rw [List.take_length]; exact hy1)
            rw [hy2] at this
            cases this
        · exact ⟨_, rfl, a, _, rfl, .inr (st_at ha), _, _, rfl, rfl, true, congrArg V.bl (decide_eq_true (by omega)), iteT ⟨_, rfl, _, _, rfl, rfl, false, congrArg V.bl (decide_eq_false (by omega)), iteT (q H (Same.refl _))⟩⟩
      · exact ⟨_, rfl, a, _, rfl, .inr (st_at ha), _, _, rfl, rfl, false, congrArg V.bl (decide_eq_false (by omega)), iteF ⟨false, rfl, iteT (q H (Same.refl _))⟩⟩
    · refine ⟨_, rfl, _, _, _, _, true, rfl, .ty _, .base (.tup ha), kitTT K, true, rfl, iteF ?_⟩
      refine ⟨_, rfl, a, _, rfl, .inr (st_at ha), _, _, rfl, rfl, true, congrArg V.bl (decide_eq_true (by rw [List.length_map]; omega)), iteT ⟨_, rfl, _, _, rfl, rfl, true, congrArg V.bl (decide_eq_true (by rw [List.length_map]; omega)), iteF ?_⟩⟩
      refine ⟨_, rfl, a, rfl, ⟨_, st_at ha⟩, for_tup (K := K) (a := a) (xs := ns.map natV) (fun i σ H1 => ∃ v2, σ = [some (.int (m : Int)), some (.ref a), v2, none] ∧ H1 = H)
        ⟨none, rfl, rfl⟩ (fun i σ H1 _ ⟨_, _, e⟩ => e ▸ st_at ha) ?_ ?_⟩
      · rintro i y σ H1 hi ⟨v2, rfl, eH⟩
        subst eH
        obtain ⟨z, hz, rfl⟩ := nat_at hi
        have hzb := hb z (List.mem_of_getElem? hz)
        refine ⟨_, rfl, _, rfl, .inl ⟨_, rfl⟩, _, rfl, ?_⟩
        rw [show isN (natV z) = true from (show decide (0 ≤ (z : Int)) = true from decide_eq_true (by omega))]
        refine iteF ⟨_, rfl, rfl, _, rfl, if_no (fun e => ?_) ⟨_, rfl, rfl⟩⟩
        have := V.int.inj e
        omega
      · rintro σ H1 ⟨v2, rfl, eH⟩
        subst eH
        have tT : SqT K H1 a ((ns.map fun n : Nat => (n : Int)).map V.int) := by
          rw [nat_ints]
          exact st_at ha
        have hs : ns.sum < 2 ^ 12 * ns.length + 1 := by
          clear ha h1 h2 q tT
          induction ns with
          | nil => simp
          | cons x xs ih =>
            have h3 := ih fun y hy => hb y (List.mem_cons_of_mem _ hy)
            have h4 := hb x (by simp)
            rw [List.sum_cons, List.length_cons]
            omega
        refine ⟨_, rfl, a, _, rfl, .inr tT, ?_⟩
        rw [sum_ints]
        refine ⟨_, rfl, _, rfl, ns.sum, m, rfl, hm, hm2, by omega, ?_⟩
        refine ⟨_, rfl, a, rfl, ⟨_, st_at ha⟩, fun J nJ => ?_⟩
        refine lc_vals (n := (ns.map natV).length) (j := 2) (Yx := fun i y => (ns.map natV)[i]? = some y) (walk_tup (K := K) (a := a) (xs := ns.map natV)) nJ (fun i => (ns[i]?.map fun x => V.int ((LD x m : Nat) : Int)).getD .non) (by rw [List.length_map]; omega) (fun _ _ _ _ y => ⟨y.1, y.2⟩) (fun H s => st_at (s _ _ ha)) ?_ ?_
        · intro i y H13 hi s13 hy Q' hQ
          obtain ⟨z, hz, rfl⟩ := nat_at hy
          have hzb := hb z (List.mem_of_getElem? hz)
          refine ⟨_, rfl, _, rfl, z, m, rfl, hm, hm2, by omega, ?_⟩
          have h := hQ H13 (Same.refl _)
          rw [hz] at h
          exact h
        intro H13 s13 hJ
        rw [List.length_map, range_map] at hJ
        refine ⟨J, ns.map fun x => ((LD x m : Nat) : Int), rfl, .inl (sq_at (by rw [hJ, List.map_map]; rfl)), _, rfl, _, _, rfl, rfl, rfl, ?_⟩
        have e2 : (ns.map fun x => ((LD x m : Nat) : Int)).sum = ((sumD m ns : Nat) : Int) := by
          unfold sumD
          rw [← sum_ints, List.map_map]
          rfl
        have e3 : V.bl (decide (V.int ((LD ns.sum m : Nat) : Int) = V.int ((ns.map fun x => ((LD x m : Nat) : Int)).sum + ((ns.sum : Nat) : Int)))) = V.bl (isB m ns) := by
          rw [e2]
          refine congrArg V.bl ?_
          unfold isB
          by_cases e : LD ns.sum m = ns.sum + sumD m ns
          · rw [decide_eq_true (congrArg V.int (by omega)), e, beq_self_eq_true]
          · rw [decide_eq_false (fun z => e (by have := V.int.inj z; omega)), beq_false_of_ne e]
        show Q (V.bl (decide (V.int ((LD ns.sum m : Nat) : Int) = V.int ((ns.map fun x => ((LD x m : Nat) : Int)).sum + ((ns.sum : Nat) : Int))))) H13
        rw [e3]
        exact q _ s13

end
end Lw
namespace Lw
open PySem PySem.Spec PyProof.Rows L2 Gd Ld Pt
section
variable {P : Program} {w : World} {K : PySem.W.Frag} {mg : Str → Option Value} {base : Heap}
/-! ### drawn one by one -/
theorem perm_erase {α : Type} : ∀ {ls : List α} {k : Nat} {y : α}, ls[k]? = some y → (y :: ls.eraseIdx k).Perm ls
  | [], k, y, h => by simp at h
  | x :: ls, 0, y, h => by
    obtain rfl : x = y := by simpa using h
    exact .refl _
  | x :: ls, k + 1, y, h => by
    have h' : ls[k]? = some y := by simpa using h
    have := perm_erase h'
    show (y :: x :: ls.eraseIdx k).Perm (x :: ls)
    exact (List.Perm.swap x y _).trans (this.cons x)
theorem erase_len {α : Type} : ∀ {ls : List α} {k : Nat} {y : α}, ls[k]? = some y → (ls.eraseIdx k).length + 1 = ls.length := fun h => by
  have := (perm_erase h).length_eq
  simpa using this
def Dat (K : PySem.W.Frag) (H : Hp) (x : V) : Prop := ∃ d : PyData, Dp K H x d ∧ d.canLay0 = true ∧ d.depth ≤ 3
theorem dat_all {K : PySem.W.Frag} {H : Hp} : ∀ {xs : List V}, (∀ x ∈ xs, Dat K H x) → ∃ ds : List PyData, DpAll K H xs ds ∧ ds.length = xs.length ∧ PyData.canLayAll0 ds = true ∧ PyData.depthAll ds ≤ 3
  | [], _ => ⟨[], .nil, rfl, rfl, by simp [PyData.depthAll]⟩
  | x :: xs, h => by
    obtain ⟨d, h1, h2, h3⟩ := h x (by simp)
    obtain ⟨ds, g1, g2, g3, g4⟩ := dat_all fun y hy => h y (List.mem_cons_of_mem _ hy)
    refine ⟨d :: ds, .cons h1 g1, by rw [List.length_cons, g2, List.length_cons], ?_, ?_⟩
    · simp only [PyData.canLayAll0, h2, g3, Bool.and_self]
    · simp only [PyData.depthAll]
      omega
theorem shaped_of {ds : List PyData} (h1 : PyData.canLayAll0 ds = true) (h2 : PyData.depthAll ds ≤ 3) : SeqAt.shaped (.list ds) = true := by
  unfold SeqAt.shaped
  simp only [PyData.canLay0, PyData.depth, h1, Bool.true_and]
  exact decide_eq_true (by omega)
theorem eqv_nil2 (ds : List PyData) : PyData.eqv (.list ds) (.list []) = ds.isEmpty := by
  cases ds with
  | nil => rfl
  | cons c cs => rfl
def spMixed (K : PySem.W.Frag) : Sp := fun vs H Q _ => ∃ (p q l : Addr) (cs : List Int) (b : Int) (xs : List V), vs = [.ref p, .ref l] ∧ Deal H p q cs b ∧ SqL K H l xs ∧ xs.length ≤ 1000 ∧ (∀ H', But p q H H' → ∀ x ∈ xs, Dat K H' x) ∧
  ∀ H' r ys cs' b', Deal H' p q cs' b' → But p q H H' → H r = none → r ≠ p → r ≠ q → H' r = some (.lst ys) → ys.Perm xs → Q (.ref r) H'
structure Z4 (P : Program) (w : World) (K : PySem.W.Frag) (mg : Str → Option Value) (base : Heap) where
  z_len : mg "len" = none
  z_list : mg "list" = none
  law_any : Cal P w K mg base 1 "_law_any" ["deal", "bound"] spAny
theorem ok_law_mixed {f : Addr} {fd : FuncData} {k : Nat} (F : Fun K "_law_mixed" "_law_mixed" s_law_mixed f fd) (T : Z4 P w K mg base) : FnG P w K mg base (k + 1 + 1) f fd ["deal", "some"] (spMixed K) := by
  refine okG F sc_law_mixed (fun {vs H Q E} h => ?_) (fun cdv A outer s H vs Q E st hr h => ?_)
  · obtain ⟨p, q, l, cs, b, xs, rfl, _⟩ := h
    rfl
  · have hu := hu_of hr
    have sc := sc_law_mixed
    obtain ⟨p, q, l, cs, b, xs, rfl, D, hl, hlen, hdat, kk⟩ := h
    refine ⟨_, (pss_cons (ps_par rfl sc.nd (i := 2) (j := 3) rfl rfl (by decide) rfl rfl (pa_cons (pe_callTy (lstK (K := K) rfl) (by rfl) T.z_list (by decide +kernel) (pa_cons (pv 1) pa_nil)) (pa_cons (pe_lst pa_nil) pa_nil)) (by rfl))
      (pss_cons (ps_while PassesOwn.never (pt_cmpR (neK (K := K) rfl hr.units) (pv 2) (pe_lst pa_nil) (nomark _)) (pss_one (ps_expr (pe_bm PySem.F.plainAttrs_list PySem.F.slot_list_append PySem.F.type_list_append mt_append (pv 3) (pa_cons (pe_bm PySem.F.plainAttrs_list PySem.F.slot_list_pop PySem.F.type_list_pop mt_popAt (pv 2) (pa_cons (pe_cal T.law_any st (hr.mono (by omega)) (pa_cons (pv 0) (pa_cons (pe_callB (lenK (K := K) rfl) (by rfl) T.z_len (by decide +kernel) (pa_cons (pv 2) pa_nil)) pa_nil))) pa_nil)) pa_nil)))))
      (pss_one (ps_ret (pv 3))))), ?_⟩
    refine ⟨_, rfl, l, xs, rfl, .inl hl, fun L nL => ⟨Nat.zero_le _, fun F nF => ⟨_, _, rfl, ?_⟩⟩⟩
    have LF : L ≠ F := ne_of_none upd_same nF
    have nF0 : H F = none := free_back (same_new nL) nF
    have nL0 : H L = none := nL
    have Lp : L ≠ p := (ne_of_none D.top nL).symm
    have Lq : L ≠ q := (ne_of_none D.low nL).symm
    have Fp : F ≠ p := (ne_of_none D.top nF0).symm
    have Fq : F ≠ q := (ne_of_none D.low nF0).symm
    have s0 := (same_new (o := .lst xs) nL).trans (same_new (o := .lst []) nF)
    let Iv : Nat → L2.St → Hp → Prop := fun n σ H1 => ∃ ls fs cs b, σ = [some (.ref p), some (.ref l), some (.ref L), some (.ref F)] ∧ Deal H1 p q cs b ∧ But p q H H1 ∧ H1 L = some (.lst ls) ∧ H1 F = some (.lst fs) ∧ (fs ++ ls).Perm xs ∧ ls.length = n
    refine ⟨Iv, ⟨xs.length, xs, [], cs, b, rfl, D.keep s0, But.of s0, by rw [upd_ne LF]; exact upd_same, upd_same, .refl _, rfl⟩, ?_⟩
    rintro n σ H1 ⟨ls, fs, cs, b, rfl, D1, f1, hL, hF, hp, hn⟩
    have hls : ∀ x ∈ ls, x ∈ xs := fun x hx => hp.mem_iff.mp (List.mem_append.mpr (.inr hx))
    have ltot : fs.length + ls.length = xs.length := by rw [← List.length_append]; exact hp.length_eq
    refine ⟨_, rfl, Nat.zero_le _, fun G nG => ?_⟩
    have sG := same_new (o := .lst []) nG
    obtain ⟨ds, g1, g2, g3, g4⟩ := dat_all fun x hx => hdat _ (f1.trans (But.of sG)) x (hls x hx)
    refine ⟨.list ds, .list [], .lst (sq_at (sG _ _ hL)) g1, .lst (sq_at upd_same) .nil, shaped_of g3 g4, by decide, _, rfl, ?_⟩
    rw [eqv_nil2]
    cases ls with
    | nil =>
      cases ds with
      | cons d ds => simp at g2
      | nil =>
        refine iteF ⟨_, rfl, kk _ F fs cs b (D1.keep sG) (f1.trans (But.of sG)) nF0 Fp Fq (sG _ _ hF) ?_⟩
        rw [List.append_nil] at hp
        exact hp
    | cons x0 lr =>
      cases ds with
      | nil => simp at g2
      | cons d ds =>
        clear g1 g2 g3 g4
        refine iteT ⟨fun σ' H' => ∃ n', n' < n ∧ Iv n' σ' H', fun σ' H' ⟨n', h1, h2⟩ => ⟨n', h1, h2⟩, ?_⟩
        have hL := sG _ _ hL
        have hF := sG _ _ hF
        have D1 := D1.keep sG
        have f1 := f1.trans (But.of sG)
        generalize hls2 : x0 :: lr = ls at hL hp hn hls ltot
        have hpos : 0 < ls.length := by rw [← hls2]; simp
        generalize upd H1 G (.lst []) = H2 at hL hF D1 f1
        clear sG nG hls2
        refine ⟨_, rfl, .inl ⟨rfl, _, sq_at hF⟩, _, rfl, .inl ⟨rfl, _, sq_at hL⟩, _, rfl, _, rfl, L, _, rfl, .inl (sq_at hL), p, q, cs, b, (ls.length : Int), rfl, D1, by omega, by omega, fun H3 r cs b D3 f3 r0 r1 => ?_⟩
        obtain ⟨k, rfl⟩ : ∃ k : Nat, r = (k : Int) := ⟨r.toNat, by omega⟩
        have hk : k < ls.length := by omega
        have hL3 := f3 _ _ Lp Lq hL
        have hF3 := f3 _ _ Fp Fq hF
        have hy : ls[k]? = some ls[k] := List.getElem?_eq_getElem hk
        generalize ls[k] = y at hy
        refine ⟨L, ls, (k : Int), k, y, rfl, rfl, hL3, by omega, by omega, seqIndex_of (by omega) (by omega), hy, ?_⟩
        have he := erase_len hy
        refine ⟨F, fs, y, rfl, rfl, by rw [upd_ne LF.symm]; exact hF3, small1000 (by omega), (ls.eraseIdx k).length, by omega, ls.eraseIdx k, fs ++ [y], cs, b, rfl, (D3.keepBut Lp Lq).keepBut Fp Fq, ?_, by rw [upd_ne LF]; exact upd_same, upd_same, ?_, rfl⟩
        · intro z o h1 h2 h
          have h3 := f3 z o h1 h2 (f1 z o h1 h2 h)
          rw [upd_ne (ne_of_none h nF0), upd_ne (ne_of_none h nL0)]
          exact h3
        · refine List.Perm.trans ?_ hp
          rw [List.append_assoc]
          exact List.Perm.append_left fs (perm_erase hy)

end
end Lw
namespace Lw
open PySem PySem.Spec PyProof.Rows L2 Gd Ld Pt
section
variable {P : Program} {w : World} {K : PySem.W.Frag} {mg : Str → Option Value} {base : Heap}
/-! ### lists of rows -/
inductive RowsAt (H : Hp) : List Addr → List (List Nat) → Prop
  | nil : RowsAt H [] []
  | cons {a : Addr} {as : List Addr} {xs : List Nat} {rows : List (List Nat)} : H a = some (.lst (xs.map natV)) → RowsAt H as rows → RowsAt H (a :: as) (xs :: rows)
theorem RowsAt.len {H : Hp} : ∀ {as : List Addr} {rows : List (List Nat)}, RowsAt H as rows → as.length = rows.length
  | _, _, .nil => rfl
  | _, _, .cons _ r => by rw [List.length_cons, List.length_cons, r.len]
theorem RowsAt.moved {H H' : Hp} : ∀ {as : List Addr} {rows : List (List Nat)}, (∀ a ∈ as, ∀ o, H a = some o → H' a = some o) → RowsAt H as rows → RowsAt H' as rows
  | _, _, _, .nil => .nil
  | _, _, k, .cons h r => .cons (k _ (by simp) _ h) (r.moved fun a ha => k a (List.mem_cons_of_mem _ ha))
theorem RowsAt.keep {H H' : Hp} {as : List Addr} {rows : List (List Nat)} (s : Same H H') (r : RowsAt H as rows) : RowsAt H' as rows := r.moved fun a _ o h => s a o h
theorem RowsAt.but {H H' : Hp} {p q : Addr} {as : List Addr} {rows : List (List Nat)} (n : ∀ a ∈ as, a ≠ p ∧ a ≠ q) (s : But p q H H') (r : RowsAt H as rows) : RowsAt H' as rows := r.moved fun a ha o h => s a o (n a ha).1 (n a ha).2 h
theorem RowsAt.app {H : Hp} : ∀ {as bs : List Addr} {r1 r2 : List (List Nat)}, RowsAt H as r1 → RowsAt H bs r2 → RowsAt H (as ++ bs) (r1 ++ r2)
  | _, _, _, _, .nil, h => h
  | _, _, _, _, .cons h r, h2 => .cons h (r.app h2)
theorem RowsAt.at {H : Hp} : ∀ {as : List Addr} {rows : List (List Nat)} {i : Nat} {a : Addr}, RowsAt H as rows → as[i]? = some a → ∃ xs, rows[i]? = some xs ∧ H a = some (.lst (xs.map natV))
  | _, _, i, a, .nil, h => by simp at h
  | _, _, 0, a, .cons h r, e => by
    obtain rfl := Option.some.inj e
    exact ⟨_, rfl, h⟩
  | _, _, i + 1, a, .cons h r, e => by
    obtain ⟨xs, h1, h2⟩ := r.at (i := i) (a := a) (by simpa using e)
    exact ⟨xs, by simpa using h1, h2⟩
theorem RowsAt.mem {H : Hp} {as : List Addr} {rows : List (List Nat)} {a : Addr} (r : RowsAt H as rows) (h : a ∈ as) : ∃ xs ∈ rows, H a = some (.lst (xs.map natV)) := by
  obtain ⟨i, hi⟩ := List.mem_iff_getElem?.mp h
  obtain ⟨xs, h1, h2⟩ := r.at hi
  exact ⟨xs, List.mem_of_getElem? h1, h2⟩
def rowD (xs : List Nat) : PyData := .list ((xs.map fun n : Nat => (n : Int)).map PyData.int)
theorem RowsAt.dp {K : PySem.W.Frag} {H : Hp} : ∀ {as : List Addr} {rows : List (List Nat)}, RowsAt H as rows → DpAll K H (as.map V.ref) (rows.map rowD)
  | _, _, .nil => .nil
  | _, _, .cons h r => .cons (dp_ints (by rw [nat_ints]; exact h)) r.dp
theorem canRow (xs : List Nat) : (rowD xs).canLay0 = true ∧ (rowD xs).depth ≤ 1 := by
  have h1 : ∀ cs : List Int, PyData.canLayAll0 (cs.map PyData.int) = true := fun cs => by
    induction cs with
    | nil => rfl
    | cons c cs ih => simp [PyData.canLayAll0, PyData.canLay0, ih]
  have h2 : ∀ cs : List Int, PyData.depthAll (cs.map PyData.int) = 0 := fun cs => by
    induction cs with
    | nil => rfl
    | cons c cs ih => simp [PyData.depthAll, PyData.depth, ih]
  unfold rowD
  generalize (xs.map fun n : Nat => (n : Int)) = cs
  simp [PyData.canLay0, PyData.depth, h1, h2]
theorem canRows : ∀ rows : List (List Nat), PyData.canLayAll0 (rows.map rowD) = true ∧ PyData.depthAll (rows.map rowD) ≤ 1
  | [] => ⟨rfl, by simp [PyData.depthAll]⟩
  | xs :: r => by
    obtain ⟨h1, h2⟩ := canRow xs
    obtain ⟨g1, g2⟩ := canRows r
    refine ⟨?_, ?_⟩
    · simp only [List.map_cons, PyData.canLayAll0, h1, g1, Bool.and_self]
    · simp only [List.map_cons, PyData.depthAll]
      omega
theorem fresh_ne {H : Hp} {a p : Addr} {o : HO} (n : H a = none) (h : H p = some o) : a ≠ p := fun e => by rw [e, h] at n; cases n
/-- a comprehension that tells a list of rows, some left out -/
theorem lc_rows {J : It} {n j : Nat} {G : Hp → Prop} {Y : Nat → Hp → V → Hp → Prop} {Yx : Nat → V → Prop} (w : Walk J n G Y) {tt : TT} {te : TE} {σ : L2.St} {H1 : Hp} {D : Addr} {Qd : Hp → Prop} (nD : H1 D = none) (row : Nat → Option (List Nat)) (Pa : Addr → Prop) (hn : n ≤ 100000)
    (hY : ∀ i H x H', Y i H x H' → H' = H ∧ Yx i x) (hG : ∀ H, Same H1 H → G H)
    (hs : ∀ i x H, i < n → Same H1 H → (∀ a, H a = none → a ≠ D ∧ H1 a = none) → Yx i x → ∀ (Qn : Hp → Prop) (Qy : VK), (row i = none → ∀ H4, Same H H4 → Qn H4) → (∀ xs, row i = some xs → ∀ H4 a, Same H H4 → a ≠ D → Pa a → H4 a = some (.lst (xs.map natV)) → Qy (.ref a) H4) →
      tt ((wipe σ [j]).set j (some x)) H fun b H3 => if b = true then te ((wipe σ [j]).set j (some x)) H3 Qy else Qn H3)
    (hd : ∀ H bs, Same H1 H → (∀ b ∈ bs, Pa b ∧ b ≠ D) → H D = some (.lst (bs.map V.ref)) → RowsAt H bs ((List.range n).filterMap row) → Qd H) :
    ∃ W : Nat → Nat → Hp → Prop, (∃ m, W 0 m (upd H1 D (.lst []))) ∧ ∀ i m H, W i m H →
      (J.stop i H ∧ Qd H) ∨ (J.go i H ∧ ∃ Nx : Hp → Prop, (∀ H', Nx H' → ∃ m', m' < m ∧ W (i + 1) m' H') ∧ ∀ x H', J.yld i H x H' → gName j x (wipe σ [j]) H' fun σ2 H2 => wipe σ2 [j] = wipe σ [j] ∧ tt σ2 H2 fun b H3 =>
        if b = true then te σ2 H3 fun y H4 => ∃ acc, H4 D = some (.lst acc) ∧ acc.length < sizeLine ∧ Nx (upd H4 D (.lst (acc ++ [y]))) else Nx H3) := by
  refine lc_it w (Qd := Qd) (fun i H => Same H1 H ∧ ∃ bs, H D = some (.lst (bs.map V.ref)) ∧ RowsAt H bs ((List.range i).filterMap row) ∧ ∀ b ∈ bs, Pa b ∧ b ≠ D) ⟨same_new nD, [], upd_same, .nil, fun b hb => absurd hb List.not_mem_nil⟩ (fun i H _ h => hG H h.1) ?_ fun H ⟨s, bs, hD, r, hb⟩ => hd H bs s hb hD r
  rintro i x H H' hi ⟨s, bs, hD, r, hb⟩ y
  obtain ⟨rfl, yx⟩ := hY _ _ _ _ y
  have step : (List.range (i + 1)).filterMap row = (List.range i).filterMap row ++ (match row i with | none => [] | some z => [z]) := by
    rw [List.range_succ, List.filterMap_append]
    simp only [List.filterMap_cons, List.filterMap_nil]
    cases row i <;> rfl
  refine ⟨wipe_again σ j (some x), hs i x H' hi s (fun a ha => ⟨fresh_ne ha hD, free_back s ha⟩) yx _ _ (fun e H4 s4 => ?_) (fun xs e H4 a s4 aD pa ha => ?_)⟩
  · rw [step, e]
    refine ⟨s.trans s4, bs, s4 _ _ hD, ?_, hb⟩
    simpa using r.keep s4
  · have hl := r.len
    refine ⟨_, s4 _ _ hD, ?_, same_mut (s.trans s4) nD, bs ++ [a], ?_, ?_, ?_⟩
    · rw [List.length_map]
      refine small_lt (Nat.le_trans ?_ (Nat.le_trans (Nat.le_of_lt hi) hn))
      rw [hl]
      refine Nat.le_trans (List.length_filterMap_le _ _) ?_
      rw [List.length_range]
      exact Nat.le_refl _
    · rw [upd_same, List.map_append]
      rfl
    · rw [step, e]
      refine RowsAt.app ((r.keep s4).moved fun b hb2 o h => ?_) (.cons ?_ .nil)
      · rw [upd_ne (hb b hb2).2]
        exact h
      · rw [upd_ne aD]
        exact ha
    · intro b hb2
      rcases List.mem_append.mp hb2 with h | h
      · exact hb b h
      · rw [List.mem_singleton.mp h]
        exact ⟨pa, aD⟩

/-! ### the law's own partings -/
theorem mx_is {xs : List Nat} {m : Int} (h1 : m ∈ (1 :: xs).map fun n : Nat => (n : Int)) (h2 : ∀ y ∈ (1 :: xs).map (fun n : Nat => (n : Int)), y ≤ m) : m = ((mx xs : Nat) : Int) := by
  have fold : ∀ (r : List Nat) (a : Nat), (r.foldl max a ∈ a :: r) ∧ ∀ y ∈ a :: r, y ≤ r.foldl max a := by
    intro r
    induction r with
    | nil => intro a; simp
    | cons b r ih =>
      intro a
      obtain ⟨i1, i2⟩ := ih (max a b)
      show r.foldl max (max a b) ∈ a :: b :: r ∧ ∀ y ∈ a :: b :: r, y ≤ r.foldl max (max a b)
      constructor
      · rcases List.mem_cons.mp i1 with e | e
        · rw [e]
          rcases Nat.le_total a b with h | h
          · rw [Nat.max_eq_right h]
            simp
          · rw [Nat.max_eq_left h]
            simp
        · exact List.mem_cons_of_mem _ (List.mem_cons_of_mem _ e)
      · intro y hy
        have hm := i2 (max a b) (by simp)
        rcases List.mem_cons.mp hy with e | hy
        · have := Nat.le_max_left a b
          omega
        · rcases List.mem_cons.mp hy with e | hy
          · have := Nat.le_max_right a b
            omega
          · exact i2 y (List.mem_cons_of_mem _ hy)
  obtain ⟨f1, f2⟩ := fold xs 1
  obtain ⟨m0, hm0, rfl⟩ := List.mem_map.mp h1
  have g1 := f2 m0 hm0
  have g2 := h2 _ (List.mem_map.mpr ⟨_, f1, rfl⟩)
  show (m0 : Int) = ((xs.foldl max 1 : Nat) : Int)
  omega
theorem mx_mem (xs : List Nat) : mx xs ∈ 1 :: xs := by
  have fold : ∀ (r : List Nat) (a : Nat), r.foldl max a ∈ a :: r := by
    intro r
    induction r with
    | nil => intro a; simp
    | cons b r ih =>
      intro a
      show r.foldl max (max a b) ∈ a :: b :: r
      rcases List.mem_cons.mp (ih (max a b)) with e | e
      · rw [e]
        rcases Nat.le_total a b with h | h
        · rw [Nat.max_eq_right h]
          simp
        · rw [Nat.max_eq_left h]
          simp
      · exact List.mem_cons_of_mem _ (List.mem_cons_of_mem _ e)
  exact fold xs 1
theorem filter_some {α β : Type} (f : α → β) (l : List α) : l.filterMap (fun i => some (f i)) = l.map f := by
  induction l with
  | nil => rfl
  | cons a l ih => simp [List.filterMap_cons, ih]
theorem range_filter {α β : Type} (f : α → Option β) (l : List α) : (List.range l.length).filterMap (fun i => (l[i]?).bind f) = l.filterMap f := by
  have key : ∀ (l p : List α), (List.range l.length).filterMap (fun i => ((p ++ l)[p.length + i]?).bind f) = l.filterMap f := fun l => by
    induction l with
    | nil => intro p; rfl
    | cons a l ih =>
      intro p
      rw [List.length_cons, List.range_succ_eq_map, List.filterMap_cons, List.filterMap_map]
      have h0 : (p ++ a :: l)[p.length + 0]? = some a := by simp
      have h1 : ((fun i => ((p ++ a :: l)[p.length + i]?).bind f) ∘ Nat.succ) = fun i => (((p ++ [a]) ++ l)[(p ++ [a]).length + i]?).bind f := by
        funext i
        show ((p ++ a :: l)[p.length + (i + 1)]?).bind f = _
        rw [List.append_assoc, List.length_append]
        show _ = ((p ++ a :: l)[p.length + 1 + i]?).bind f
        rw [show p.length + (i + 1) = p.length + 1 + i by omega]
      rw [h1, ih (p ++ [a]), h0]
      rfl
  have := key l []
  simpa using this
theorem rd_max {σ : L2.St} {H : Hp} {a : Addr} {xs : List Nat} {j : Nat} {Q : VK} (hj : σ[j]? = some (some (.ref a))) (ha : H a = some (.lst (xs.map natV))) (hl : xs.length ≤ 100) (k : ∀ H', Same H H' → Q (.int ((mx xs : Nat) : Int)) H') :
    tCB (rMax K) (tCons (tOp rCat (tLst (tCons (tC (.int 1)) tNil)) (tVar j)) tNil) σ H Q := by
  refine ⟨by show 1 ≤ sizeLine; decide, fun G nG => ⟨_, hj, G, a, _, _, rfl, rfl, upd_same, (same_new nG) _ _ ha, ?_, fun O nO => ?_⟩⟩
  · rw [List.length_map]
    exact Nat.le_of_lt (small1000 (by show 1 + xs.length ≤ 1000; omega))
  · refine ⟨O, (1 :: xs).map fun n : Nat => (n : Int), rfl, sq_at (by rw [upd_same, nat_ints]; rfl), by simp, fun m h1 h2 => ?_⟩
    rw [mx_is h1 h2]
    exact k _ ((same_new nG).trans (same_new nO))
def spSplit : Sp := fun vs H Q _ => ∃ total many : Nat, vs = [.int (total : Int), .int (many : Int)] ∧ total ≤ 16 ∧ 2 ≤ many ∧ many ≤ 5 ∧ ∀ H' l as, Same H H' → H l = none → (∀ a ∈ as, H a = none) → H' l = some (.lst (as.map V.ref)) → RowsAt H' as (splitS total many) → Q (.ref l) H'
theorem ok_rows {total many t : Nat} (h1 : total ≤ 16) (h2 : 2 ≤ many) (h3 : many ≤ 5) (ht : t < many) : (rowsS total many t).length ≤ 200 ∧ ∀ xs ∈ rowsS total many t, xs.length = t ∧ xs.sum ≤ total ∧ ∀ e ∈ xs, 1 ≤ e ∧ e ≤ total := by
  have h := chkS total (List.mem_range.mpr (by omega)) (many - 2) (List.mem_range.mpr (by omega))
  rw [show many - 2 + 2 = many by omega] at h
  have h := List.all_eq_true.mp h t (List.mem_range.mpr ht)
  rw [Bool.and_eq_true] at h
  refine ⟨of_decide_eq_true h.1, fun xs hx => ?_⟩
  have g := List.all_eq_true.mp h.2 xs hx
  unfold okRow at g
  rw [Bool.and_eq_true, Bool.and_eq_true] at g
  obtain ⟨⟨g1, g2⟩, g3⟩ := g
  refine ⟨eq_of_beq g1, of_decide_eq_true g2, fun e he => ?_⟩
  have g4 := List.all_eq_true.mp g3 e he
  rw [Bool.and_eq_true] at g4
  exact ⟨of_decide_eq_true g4.1, of_decide_eq_true g4.2⟩
theorem ok_law_split {f : Addr} {fd : FuncData} {k : Nat} (F : Fun K "_law_split" "_law_split" s_law_split f fd) (T : Zs K mg) : FnG P w K mg base (k + 1) f fd ["total", "many"] spSplit := by
  refine okG F sc_law_split (fun {vs H Q E} h => ?_) (fun cdv A outer s H vs Q E st hr h => ?_)
  · obtain ⟨total, many, rfl, _⟩ := h
    rfl
  · have hu := hu_of hr
    have sc := sc_law_split
    obtain ⟨total, many, rfl, ht, hm1, hm2, kk⟩ := h
    refine ⟨_, (pss_cons (ps_set (i := 2) sc.nd rfl (.inl rfl) (pe_lst (pa_cons (pe_lst pa_nil) pa_nil)))
      (pss_cons (ps_for PassesOwn.never rfl (pi_range1 (by rfl) T.z_range (pa_cons (pe_op op_sub (pv 1) pe_int) pa_nil)) (pg_name (i := 3) sc.nd rfl (.inl rfl)) (pss_cons (ps_set (i := 4) sc.nd rfl (.inl rfl) (pe_lst pa_nil))
      (pss_cons (ps_for PassesOwn.never rfl (pi_listK (K := K) rfl (pv 2)) (pg_name (i := 5) sc.nd rfl (.inr rfl)) (pss_cons (ps_par rfl sc.nd (i := 6) (j := 7) rfl rfl (by decide) rfl rfl (pa_cons (pe_callB (maxK (K := K) rfl rfl) (by rfl) T.z_max (by decide +kernel) (pa_cons (pe_op op_cat (pe_lst (pa_cons pe_int pa_nil)) (pv 5)) pa_nil)) (pa_cons (pe_op op_sub (pv 0) (pe_callB (sum2K (K := K) rfl rfl) (by rfl) T.z_sum (by decide +kernel) (pa_cons (pv 5) pa_nil))) pa_nil)) (by rfl))
      (pss_one (ps_set (i := 4) sc.nd rfl (.inl rfl) (pe_op op_cat (pv 4) (pe_lc (own := [("one", 8)]) (g := gName 8) (tt := tYes) rfl sc.nd (pi_range2 (by rfl) T.z_range (pa_cons (pv 6) (pa_cons (pe_op op_add (pe_op op_fdiv (pv 7) (pe_op op_sub (pv 1) (pe_callB (lenK (K := K) rfl) (by rfl) T.z_len (by decide +kernel) (pa_cons (pv 5) pa_nil)))) pe_int) pa_nil))) (blk_in (N := n_law_split) (by decide +kernel) (by repeat (first | exact trivial | exact Or.inl rfl | exact Or.inr rfl | refine And.intro ?_ ?_))) (fun _ _ _ _ _ => (pg_name (i := 8) sc.nd rfl (.inl rfl))) (fun _ _ _ _ _ => pts_nil) (fun _ _ _ _ _ => (pe_op op_cat (pv 5) (pe_lst (pa_cons (pv 8) pa_nil))))))))))
      (pss_one (ps_set (i := 2) sc.nd rfl (.inl rfl) (pv 4))))))
      (pss_one (ps_ret (pe_lc (own := [("some", 5)]) (g := gName 5) rfl sc.nd (pi_listK (K := K) rfl (pv 2)) (blk_in (N := n_law_split) (by decide +kernel) (by repeat (first | exact trivial | exact Or.inl rfl | exact Or.inr rfl | refine And.intro ?_ ?_))) (fun _ _ _ _ _ => (pg_name (i := 5) sc.nd rfl (.inl rfl))) (fun _ _ _ _ _ => (pts_one (pt_cmpR op_ge (pe_op op_sub (pv 0) (pe_callB (sum2K (K := K) rfl rfl) (by rfl) T.z_sum (by decide +kernel) (pa_cons (pv 5) pa_nil))) (pe_callB (maxK (K := K) rfl rfl) (by rfl) T.z_max (by decide +kernel) (pa_cons (pe_op op_cat (pe_lst (pa_cons pe_int pa_nil)) (pv 5)) pa_nil)) (nomark _)))) (fun _ _ _ _ _ => (pe_op op_cat (pv 5) (pe_lst (pa_cons (pe_op op_sub (pv 0) (pe_callB (sum2K (K := K) rfl rfl) (by rfl) T.z_sum (by decide +kernel) (pa_cons (pv 5) pa_nil))) pa_nil))))))))), ?_⟩
    -- found = [[]]
    refine ⟨Nat.zero_le _, fun A nA => ⟨by show 1 ≤ sizeLine; decide, fun F nF => ?_⟩⟩
    have AF : A ≠ F := ne_of_none upd_same nF
    have nF0 : H F = none := free_back (same_new nA) nF
    have nA0 : H A = none := nA
    refine ⟨_, rfl, _, _, rfl, rfl, (many : Int) - 1, rfl, by omega, by omega, ?_⟩
    rw [show ((many : Int) - 1).toNat = many - 1 by omega]
    refine for_range (lo := 0) (n := many - 1) (fun t σ H1 => ∃ F as v3 v4 v5 v6 v7, σ = [some (.int (total : Int)), some (.int (many : Int)), some (.ref F), v3, v4, v5, v6, v7, none] ∧ Same H H1 ∧ H F = none ∧ (∀ a ∈ as, H a = none) ∧ H1 F = some (.lst (as.map V.ref)) ∧ RowsAt H1 as (rowsS total many t))
      ⟨F, [A], none, none, none, none, none, rfl, (same_new nA).trans (same_new nF), nF0, fun a ha => by rw [List.mem_singleton.mp ha]; exact nA0, upd_same, .cons (by rw [upd_ne AF]; exact upd_same) .nil⟩ ?_ ?_
    · rintro t σ H1 hi ⟨F, as, v3, v4, v5, v6, v7, rfl, s1, nF, na, hF, hr⟩
      obtain ⟨hR1, hR2⟩ := ok_rows ht hm1 hm2 (t := t) (by omega)
      have hRn := (ok_rows ht hm1 hm2 (t := t + 1) (by omega)).1
      have hlen := hr.len
      refine ⟨Nat.zero_le _, fun Lt nL => ?_⟩
      have nL0 : H Lt = none := free_back s1 nL
      have sL := same_new (o := .lst []) nL
      refine ⟨_, rfl, F, rfl, ⟨_, sq_at (sL _ _ hF)⟩, for_list (K := K) (a := F) (xs := as.map V.ref) (fun i σ H2 => ∃ Lt bs v5 v6 v7, σ = [some (.int (total : Int)), some (.int (many : Int)), some (.ref F), some (.int (0 + (t : Int))), some (.ref Lt), v5, v6, v7, none] ∧ Same H1 H2 ∧ H1 Lt = none ∧ (∀ b ∈ bs, H1 b = none) ∧ H2 Lt = some (.lst (bs.map V.ref)) ∧ RowsAt H2 bs (((rowsS total many t).take i).flatMap (stepS total many)))
        ⟨Lt, [], v5, v6, v7, rfl, sL, nL, fun b hb => absurd hb List.not_mem_nil, upd_same, .nil⟩ (fun i σ H2 _ ⟨_, _, _, _, _, _, s2, _⟩ => sq_at (s2 _ _ hF)) ?_ ?_⟩
      · rintro i y σ H2 hi2 ⟨Lt, bs, v5, v6, v7, rfl, s2, nLt, nb, hLt, hB⟩
        obtain ⟨a, ha, rfl⟩ := ref_at hi2
        obtain ⟨xs, hx, hA⟩ := (hr.keep s2).at ha
        obtain ⟨x1, x2, x3⟩ := hR2 xs (List.mem_of_getElem? hx)
        have hpre : (((rowsS total many t).take i).flatMap (stepS total many)).length + (stepS total many xs).length ≤ 200 := by
          have e : rowsS total many t = ((rowsS total many t).take i ++ [xs]) ++ (rowsS total many t).drop (i + 1) := by
            rw [← takeN hx]
            exact (List.take_append_drop ..).symm
          have e2 := congrArg (fun l => (l.flatMap (stepS total many)).length) e
          rw [List.flatMap_append, List.flatMap_append, List.length_append, List.length_append, show ([xs] : List (List Nat)).flatMap (stepS total many) = stepS total many xs by simp] at e2
          have e3 : ((rowsS total many t).flatMap (stepS total many)).length ≤ 200 := hRn
          omega
        have hbl := hB.len
        have hsl : (stepS total many xs).length = (total - xs.sum) / (many - xs.length) + 1 - mx xs := by
          unfold stepS
          rw [List.length_map, List.length_range]
        -- low, left = (max([1] + some), total - sum(some))
        refine rd_max (j := 5) rfl hA (by omega) fun H3 s3 => ?_
        have hA3 := s3 _ _ hA
        have sqA : ∀ {H' : Hp}, H' a = some (.lst (xs.map natV)) → SqL K H' a ((xs.map fun n : Nat => (n : Int)).map V.int) := fun h => by rw [nat_ints]; exact sq_at h
        refine ⟨_, rfl, _, rfl, a, _, rfl, .inl (sqA hA3), _, _, rfl, rfl, _, _, rfl, ?_⟩
        rw [sum_ints]
        rw [show (fun i j => V.int (i - j)) (total : Int) ((xs.sum : Nat) : Int) = V.int ((total - xs.sum : Nat) : Int) from congrArg V.int (by omega)]
        -- later = later + [some + [one] for one in range(low, left // (many - len(some)) + 1)]
        refine ⟨_, rfl, _, rfl, _, rfl, _, rfl, _, rfl, a, _, rfl, .inl (sq_at hA3), _, _, rfl, rfl, _, _, rfl, rfl, ⟨by rw [List.length_map]; omega, by rw [List.length_map]; omega⟩, _, _, rfl, rfl, _, _, rfl, ?_⟩
        obtain ⟨qd, hqd⟩ : ∃ qd, (total - xs.sum) / (many - xs.length) = qd := ⟨_, rfl⟩
        have hq : ((total - xs.sum : Nat) : Int) / ((many : Int) - (((xs.map natV).length : Nat) : Int)) + 1 = ((qd + 1 : Nat) : Int) := by
          rw [List.length_map, show (many : Int) - (xs.length : Int) = ((many - xs.length : Nat) : Int) by omega, ← Int.natCast_ediv, hqd]
          rfl
        have hqb : qd ≤ 16 := by
          rw [← hqd]
          exact Nat.le_trans (Nat.div_le_self _ _) (by omega)
        have hmb : mx xs ≤ 16 := by
          rcases List.mem_cons.mp (mx_mem xs) with e | e
          · omega
          · have := (x3 _ e).2
            omega
        rw [hq]
        refine ⟨⟨by omega, by omega, by omega, by omega⟩, fun D nD => ?_⟩
        rw [show (((qd + 1 : Nat) : Int) - ((mx xs : Nat) : Int)).toNat = qd + 1 - mx xs by omega]
        refine lc_rows (n := qd + 1 - mx xs) (j := 8) (Yx := fun i y => y = .int (((mx xs : Nat) : Int) + (i : Int))) walk_range nD (fun i => some (xs ++ [mx xs + i])) (fun a => H3 a = none) (by omega) (fun _ _ _ _ y => y) (fun _ _ => trivial) ?_ ?_
        · rintro i y H4 hi s4 fr rfl Qn Qy _ hy
          refine tt_yes ?_
          refine ⟨_, rfl, _, rfl, by show 1 ≤ sizeLine; decide, fun G nG => ⟨a, G, _, _, rfl, rfl, (same_new nG) _ _ (s4 _ _ hA3), upd_same, ?_, fun O nO => ?_⟩⟩
          · rw [List.length_map]
            exact Nat.le_of_lt (small1000 (by show xs.length + 1 ≤ 1000; omega))
          · have nO4 := free_back (same_new nG) nO
            refine hy _ rfl _ O ((same_new nG).trans (same_new nO)) (fr O nO4).1 (fr O nO4).2 ?_
            rw [upd_same, List.map_append]
            show some (HO.lst (_ ++ [V.int (((mx xs : Nat) : Int) + (i : Int))])) = some (HO.lst (_ ++ [natV (mx xs + i)]))
            unfold natV
            rw [Int.natCast_add]
        · intro H4 bs2 s4 hb2 hD hB2
          rw [filter_some] at hB2
          have hst : (List.range (qd + 1 - mx xs)).map (fun i => xs ++ [mx xs + i]) = stepS total many xs := by
            unfold stepS
            rw [hqd]
          rw [hst] at hB2
          have hb2l := hB2.len
          refine ⟨Lt, D, _, _, rfl, rfl, (s3.trans s4) _ _ hLt, hD, ?_, fun O nO => ?_⟩
          · rw [List.length_map, List.length_map]
            exact Nat.le_of_lt (small1000 (by omega))
          · have s5 := same_new (o := .lst (bs.map V.ref ++ bs2.map V.ref)) nO
            have s14 := s2.trans (s3.trans s4)
            refine ⟨O, bs ++ bs2, some (.ref a), some (.int ((mx xs : Nat) : Int)), some (.int ((total - xs.sum : Nat) : Int)), rfl, s14.trans s5, free_back s14 nO, fun b hb => ?_, by rw [upd_same, List.map_append], ?_⟩
            · rcases List.mem_append.mp hb with h | h
              · exact nb b h
              · exact free_back s2 (free_back s3 (hb2 b h).1) 
            · rw [takeN hx, List.flatMap_append, show ([xs] : List (List Nat)).flatMap (stepS total many) = stepS total many xs by simp]
              exact ((hB.keep (s3.trans s4)).app hB2).keep s5
      · rintro σ H2 ⟨Lt, bs, v5, v6, v7, rfl, s2, nLt, nb, hLt, hB⟩
        refine ⟨_, rfl, Lt, bs, some (.int (0 + (t : Int))), some (.ref Lt), v5, v6, v7, rfl, s1.trans s2, free_back s1 nLt, fun b hb => free_back s1 (nb b hb), hLt, ?_⟩
        rw [List.length_map, hlen, List.take_length] at hB
        exact hB
    · rintro σ H1 ⟨F, as, v3, v4, v5, v6, v7, rfl, s1, nF, na, hF, hr⟩
      obtain ⟨hR1, hR2⟩ := ok_rows ht hm1 hm2 (t := many - 1) (by omega)
      have hlen := hr.len
      refine ⟨_, rfl, F, rfl, ⟨_, sq_at hF⟩, fun D nD => ?_⟩
      refine lc_rows (n := (as.map V.ref).length) (j := 5) (Yx := fun i y => (as.map V.ref)[i]? = some y) (walk_list (K := K) (a := F) (xs := as.map V.ref)) nD (fun i => ((rowsS total many (many - 1))[i]?).bind (endS total)) (fun a => H1 a = none) (by rw [List.length_map]; omega) (fun _ _ _ _ y => ⟨y.1, y.2⟩) (fun H s => sq_at (s _ _ hF)) ?_ ?_
      · rintro i y H4 hi s4 fr hy Qn Qy hno hyes
        obtain ⟨a, ha, rfl⟩ := ref_at hy
        obtain ⟨xs, hx, hA⟩ := (hr.keep s4).at ha
        obtain ⟨x1, x2, x3⟩ := hR2 xs (List.mem_of_getElem? hx)
        have sqA : ∀ {H' : Hp}, H' a = some (.lst (xs.map natV)) → SqL K H' a ((xs.map fun n : Nat => (n : Int)).map V.int) := fun h => by rw [nat_ints]; exact sq_at h
        rw [hx] at hno hyes
        have hend : (some xs).bind (endS total) = if mx xs ≤ total - xs.sum then some (xs ++ [total - xs.sum]) else none := rfl
        refine ⟨_, rfl, _, rfl, a, _, rfl, .inl (sqA hA), _, _, rfl, rfl, ?_⟩
        rw [sum_ints]
        refine rd_max (j := 5) rfl hA (by omega) fun H5 s5 => ?_
        refine ⟨_, _, rfl, rfl, _, rfl, ?_⟩
        by_cases hc : mx xs ≤ total - xs.sum
        · rw [decide_eq_true (show ((mx xs : Nat) : Int) ≤ (total : Int) - ((xs.sum : Nat) : Int) by omega)]
          refine iteT ?_
          have hA5 := s5 _ _ hA
          refine ⟨_, rfl, _, rfl, _, rfl, a, _, rfl, .inl (sqA hA5), _, _, rfl, rfl, by show 1 ≤ sizeLine; decide, fun G nG => ⟨a, G, _, _, rfl, rfl, (same_new nG) _ _ hA5, upd_same, ?_, fun O nO => ?_⟩⟩
          · rw [List.length_map]
            exact Nat.le_of_lt (small1000 (by show xs.length + 1 ≤ 1000; omega))
          · have s6 := s5.trans (same_new (o := .lst [V.int ((total : Int) - (xs.map fun n : Nat => (n : Int)).sum)]) nG)
            have nO4 := free_back s6 nO
            refine hyes (xs ++ [total - xs.sum]) (by rw [hend, if_pos hc]) _ O (s6.trans (same_new nO)) (fr O nO4).1 (fr O nO4).2 ?_
            rw [upd_same, List.map_append]
            show some (HO.lst (_ ++ [V.int ((total : Int) - (xs.map fun n : Nat => (n : Int)).sum)])) = some (HO.lst (_ ++ [natV (total - xs.sum)]))
            unfold natV
            rw [sum_ints, Int.ofNat_sub x2]
        · rw [decide_eq_false (show ¬ ((mx xs : Nat) : Int) ≤ (total : Int) - ((xs.sum : Nat) : Int) by omega)]
          refine iteF ?_
          exact hno (by rw [hend, if_neg hc]) _ s5
      · intro H4 bs s4 hb hD hB
        refine kk H4 D bs (s1.trans s4) (free_back s1 nD) (fun b h => free_back s1 (hb b h).1) hD ?_
        have e : (List.range (as.map V.ref).length).filterMap (fun i => ((rowsS total many (many - 1))[i]?).bind (endS total)) = splitS total many := by
          rw [List.length_map, hlen]
          unfold splitS
          exact range_filter _ _
        rw [e] at hB
        exact hB

end
end Lw
namespace Lw
open PySem PySem.Spec PyProof.Rows L2 Gd Ld Pt
section
variable {P : Program} {w : World} {K : PySem.W.Frag} {mg : Str → Option Value} {base : Heap}
def spBest : Sp := fun vs H Q _ => ∃ (l a : Addr) (N m : Nat) (xs : List Nat), vs = [.ref l, .ref a] ∧ H l = some (.lst ((told m (N + 1)).map natV)) ∧ H a = some (.lst (xs.map natV)) ∧ xs.sum ≤ N ∧ (∀ x ∈ xs, x ≤ N) ∧ xs.length ≤ 100 ∧ ∀ H', Same H H' → Q (.bl (isB m xs)) H'
theorem sumD_ints (m : Nat) (ns : List Nat) : (ns.map fun x => ((LD x m : Nat) : Int)).sum = ((sumD m ns : Nat) : Int) := by
  unfold sumD
  rw [← sum_ints, List.map_map]
  rfl
theorem ok_law_best {f : Addr} {fd : FuncData} {k : Nat} (F : Fun K "_law_best" "_law_best" s_law_best f fd) (T : Zs K mg) : FnG P w K mg base (k + 1) f fd ["least", "some"] spBest := by
  refine okG F sc_law_best (fun {vs H Q E} h => ?_) (fun cdv A outer s H vs Q E st hr h => ?_)
  · obtain ⟨l, a, N, m, xs, rfl, _⟩ := h
    rfl
  · have hu := hu_of hr
    have sc := sc_law_best
    obtain ⟨l, a, N, m, xs, rfl, hl, ha, hs, hx, hlen, kk⟩ := h
    refine ⟨_, (pss_one (ps_ret (pe_cmpR op_eq (pe_ix (ixLK (K := K) rfl) (pv 0) (pe_callB (sum2K (K := K) rfl rfl) (by rfl) T.z_sum (by decide +kernel) (pa_cons (pv 1) pa_nil)) (fun _ _ => rfl)) (pe_op op_add (pe_callB (sum2K (K := K) rfl rfl) (by rfl) T.z_sum (by decide +kernel) (pa_cons (pv 1) pa_nil)) (pe_callB (sum2K (K := K) rfl rfl) (by rfl) T.z_sum (by decide +kernel) (pa_cons (pe_lc (own := [("one", 2)]) (g := gName 2) (tt := tYes) rfl sc.nd (pi_listK (K := K) rfl (pv 1)) (blk_in (N := n_law_best) (by decide +kernel) (by repeat (first | exact trivial | exact Or.inl rfl | exact Or.inr rfl | refine And.intro ?_ ?_))) (fun _ _ _ _ _ => (pg_name (i := 2) sc.nd rfl (.inl rfl))) (fun _ _ _ _ _ => pts_nil) (fun _ _ _ _ _ => (pe_ix (ixLK (K := K) rfl) (pv 0) (pv 2) (fun _ _ => rfl)))) pa_nil))) (nomark _)))), ?_⟩
    have sqA : ∀ {H' : Hp}, H' a = some (.lst (xs.map natV)) → SqL K H' a ((xs.map fun n : Nat => (n : Int)).map V.int) := fun h => by rw [nat_ints]; exact sq_at h
    refine ⟨_, rfl, _, rfl, a, _, rfl, .inl (sqA ha), ?_⟩
    rw [sum_ints]
    refine ⟨l, _, _, natV (LD xs.sum m), rfl, rfl, sq_at hl, atI_nat (by rw [List.getElem?_map, told_at (show xs.sum < N + 1 by omega)]; rfl), _, rfl, a, _, rfl, .inl (sqA ha), ?_⟩
    rw [sum_ints]
    refine ⟨_, rfl, a, rfl, ⟨_, sq_at ha⟩, fun J nJ => ?_⟩
    refine lc_vals (n := (xs.map natV).length) (j := 2) (Yx := fun i y => (xs.map natV)[i]? = some y) (walk_list (K := K) (a := a) (xs := xs.map natV)) nJ (fun i => (xs[i]?.map fun x => V.int ((LD x m : Nat) : Int)).getD .non) (by rw [List.length_map]; omega) (fun _ _ _ _ y => ⟨y.1, y.2⟩) (fun H s => sq_at (s _ _ ha)) ?_ ?_
    · intro i y H13 hi s13 hy Q' hQ
      obtain ⟨z, hz, rfl⟩ := nat_at hy
      have hzb := hx z (List.mem_of_getElem? hz)
      refine ⟨_, rfl, _, rfl, l, _, (z : Int), natV (LD z m), rfl, rfl, sq_at (s13 _ _ hl), atI_nat (by rw [List.getElem?_map, told_at (show z < N + 1 by omega)]; rfl), ?_⟩
      have h := hQ H13 (Same.refl _)
      rw [hz] at h
      exact h
    intro H13 s13 hJ
    rw [List.length_map, range_map] at hJ
    refine ⟨J, xs.map fun x => ((LD x m : Nat) : Int), rfl, .inl (sq_at (by rw [hJ, List.map_map]; rfl)), _, _, rfl, rfl, rfl, ?_⟩
    have e3 : V.bl (decide (V.int ((LD xs.sum m : Nat) : Int) = V.int (((xs.sum : Nat) : Int) + (xs.map fun x => ((LD x m : Nat) : Int)).sum))) = V.bl (isB m xs) := by
      rw [sumD_ints]
      refine congrArg V.bl ?_
      unfold isB
      by_cases e : LD xs.sum m = xs.sum + sumD m xs
      · rw [decide_eq_true (congrArg V.int (by omega)), e, beq_self_eq_true]
      · rw [decide_eq_false (fun z => e (by have := V.int.inj z; omega)), beq_false_of_ne e]
    show Q (V.bl (decide (V.int ((LD xs.sum m : Nat) : Int) = V.int (((xs.sum : Nat) : Int) + (xs.map fun x => ((LD x m : Nat) : Int)).sum)))) H13
    rw [e3]
    exact kk _ s13

theorem any_filter (c : Nat → Bool) : ∀ l : List Nat, (!((l.filter c).map fun n : Nat => (n : Int)).isEmpty) = l.any c
  | [] => rfl
  | a :: l => by
    cases h : c a with
    | true => simp [List.filter_cons, h]
    | false =>
      have ih := any_filter c l
      rw [List.filter_cons, h, List.any_cons, h, Bool.false_or, ← ih]
      rfl
def spTwo : Sp := fun vs H Q _ => ∃ a b : Nat, vs = [.int (a : Int), .int (b : Int)] ∧ ∀ H', Same H H' → Q (.bl (byTwo a b)) H'
theorem ok_law_by_two {f : Addr} {fd : FuncData} {k : Nat} (F : Fun K "_law_by_two" "_law_by_two" s_law_by_two f fd) (T : Zs K mg) : FnG P w K mg base (k + 1) f fd ["one", "other"] spTwo := by
  refine okG F sc_law_by_two (fun {vs H Q E} h => ?_) (fun cdv A outer s H vs Q E st hr h => ?_)
  · obtain ⟨a, b, rfl, _⟩ := h
    rfl
  · have hu := hu_of hr
    have sc := sc_law_by_two
    obtain ⟨a, b, rfl, kk⟩ := h
    refine ⟨_, (pss_one (ps_ret (pe_cmpR (neK (K := K) rfl hr.units) (pe_lc (own := [("k", 2)]) (g := gName 2) rfl sc.nd (pi_listK (K := K) rfl (pe_lst (pa_cons pe_int (pa_cons pe_int (pa_cons pe_int (pa_cons pe_int (pa_cons pe_int pa_nil))))))) (blk_in (N := n_law_by_two) (by decide +kernel) (by repeat (first | exact trivial | exact Or.inl rfl | exact Or.inr rfl | refine And.intro ?_ ?_))) (fun _ _ _ _ _ => (pg_name (i := 2) sc.nd rfl (.inl rfl))) (fun _ _ _ _ _ => (pts_one (PW.pt (pw_and (pt_cmpR op_le (pv 2) (pe_callB (call_min2 rfl) (by rfl) T.z_min (by decide +kernel) (pa_cons (pv 0) (pa_cons (pv 1) pa_nil))) (nomark _)) (pw_and1 (pt_cmpR op_le (pe_callB (call_max2 rfl) (by rfl) T.z_max (by decide +kernel) (pa_cons (pv 0) (pa_cons (pv 1) pa_nil))) (pe_op op_mul pe_int (pv 2)) (nomark _))))))) (fun _ _ _ _ _ => (pv 2))) (pe_lst pa_nil) (nomark _)))), ?_⟩
    let c : Nat → Bool := fun k => decide (k ≤ min a b) && decide (max a b ≤ 2 * k)
    refine ⟨by show 5 ≤ sizeLine; decide, fun l nl => ⟨l, rfl, ⟨_, sq_at upd_same⟩, fun D nD => ?_⟩⟩
    have sl := same_new (o := .lst [.int 1, .int 2, .int 4, .int 8, .int 16]) nl
    refine lc_it (walk_list (K := K) (a := l) (xs := [1, 2, 4, 8, 16].map natV)) (fun i H6 => Same (upd H l (.lst [.int 1, .int 2, .int 4, .int 8, .int 16])) H6 ∧ H6 D = some (.lst ((([1, 2, 4, 8, 16].take i).filter c).map natV))) ⟨same_new nD, upd_same⟩ (fun i H6 _ h6 => sq_at (h6.1 _ _ upd_same)) ?_ ?_
    · rintro i y H6 H7 hi ⟨s6, hD⟩ ⟨rfl, hy⟩
      obtain ⟨k, hk, rfl⟩ := nat_at hy
      have hi5 : i < 5 := hi
      refine ⟨wipe_again _ 2 _, ?_⟩
      have step : ([1, 2, 4, 8, 16].take (i + 1)).filter c = ([1, 2, 4, 8, 16].take i).filter c ++ (if c k = true then [k] else []) := by
        rw [takeN hk, List.filter_append]
        by_cases h : c k = true
        · simp [h]
        · simp [h]
      have hmin : (if (b : Int) < (a : Int) then (b : Int) else (a : Int)) = ((min a b : Nat) : Int) := by split <;> omega
      have hmax : (if (b : Int) > (a : Int) then (b : Int) else (a : Int)) = ((max a b : Nat) : Int) := by split <;> omega
      refine ⟨_, rfl, _, rfl, _, rfl, _, _, rfl, _, _, rfl, rfl, _, rfl, ?_⟩
      rw [hmin]
      have no : c k = false → Same (upd H l (.lst [.int 1, .int 2, .int 4, .int 8, .int 16])) H7 ∧ H7 D = some (.lst ((([1, 2, 4, 8, 16].take (i + 1)).filter c).map natV)) := fun h => by
        refine ⟨s6, ?_⟩
        rw [step, h, if_neg Bool.false_ne_true, List.append_nil]
        exact hD
      by_cases h1 : k ≤ min a b
      · rw [decide_eq_true (show (k : Int) ≤ ((min a b : Nat) : Int) by omega)]
        refine iteT ⟨_, rfl, _, rfl, _, _, rfl, ?_⟩
        rw [hmax]
        refine ⟨_, rfl, _, _, rfl, rfl, .inl ⟨by decide, by decide⟩, _, _, rfl, rfl, _, rfl, ?_⟩
        by_cases h2 : max a b ≤ 2 * k
        · have hc : c k = true := by
            show (decide _ && decide _) = true
            rw [decide_eq_true h1, decide_eq_true h2]
            rfl
          rw [decide_eq_true (show ((max a b : Nat) : Int) ≤ 2 * (k : Int) by omega)]
          refine iteT ⟨_, rfl, _, hD, ?_, same_mut s6 nD, ?_⟩
          · rw [List.length_map]
            refine small1000 (Nat.le_trans (List.length_filter_le _ _) ?_)
            rw [List.length_take]
            omega
          · rw [upd_same, step, hc, if_pos rfl, List.map_append]
            rfl
        · rw [decide_eq_false (show ¬ ((max a b : Nat) : Int) ≤ 2 * (k : Int) by omega)]
          refine iteF (no ?_)
          show (decide _ && decide _) = false
          rw [decide_eq_false h2, Bool.and_false]
      · rw [decide_eq_false (show ¬ (k : Int) ≤ ((min a b : Nat) : Int) by omega)]
        refine iteF (iteF (no ?_))
        show (decide _ && decide _) = false
        rw [decide_eq_false h1, Bool.false_and]
    · rintro H6 ⟨s6, hD⟩
      have e : ([1, 2, 4, 8, 16].take ([1, 2, 4, 8, 16].map natV).length).filter c = [1, 2, 4, 8, 16].filter c := rfl
      rw [e] at hD
      have hby : byTwo a b = [1, 2, 4, 8, 16].any c := rfl
      clear_value c
      rw [← nat_ints] at hD
      refine ⟨Nat.zero_le _, fun G nG => ⟨.list ((([1, 2, 4, 8, 16].filter c).map fun n : Nat => (n : Int)).map PyData.int), .list [], dp_ints ((same_new nG) _ _ hD), .lst (sq_at upd_same) .nil, shaped_ints _, by decide, ?_⟩⟩
      rw [eqv_nil, any_filter, ← hby]
      exact kk _ (sl.trans (s6.trans (same_new nG)))

end
end Lw
namespace Lw
open PySem PySem.Spec PyProof.Rows L2 Gd Ld Pt
section
variable {P : Program} {w : World} {K : PySem.W.Frag} {mg : Str → Option Value} {base : Heap}
/-! ### lists of numbers as data -/
theorem eqvAll_ints : ∀ as bs : List Nat, PyData.eqvAll ((as.map fun n : Nat => (n : Int)).map PyData.int) ((bs.map fun n : Nat => (n : Int)).map PyData.int) = (as == bs)
  | [], [] => rfl
  | [], _ :: _ => rfl
  | _ :: _, [] => rfl
  | a :: as, b :: bs => by
    show (PyData.eqv (.int (a : Int)) (.int (b : Int)) && PyData.eqvAll ((as.map fun n : Nat => (n : Int)).map PyData.int) ((bs.map fun n : Nat => (n : Int)).map PyData.int)) = (a == b && as == bs)
    rw [eqvAll_ints as bs]
    congr 1
    show ((a : Int) == (b : Int)) = (a == b)
    by_cases h : a = b
    · subst h
      simp
    · rw [beq_false_of_ne h, beq_false_of_ne (fun e => h (by omega))]
theorem eqv_row (as bs : List Nat) : PyData.eqv (rowD as) (rowD bs) = (as == bs) := eqvAll_ints as bs
theorem any_rows (rows : List (List Nat)) (xs : List Nat) : (rows.map rowD).any (fun z => PyData.eqv z (rowD xs)) = rows.contains xs := by
  induction rows with
  | nil => rfl
  | cons r rows ih =>
    rw [List.map_cons, List.any_cons, ih, eqv_row, List.contains_cons]
    congr 1
    by_cases h : r = xs
    · subst h
      simp
    · rw [beq_false_of_ne h, beq_false_of_ne (fun e => h e.symm)]
theorem shaped_row (xs : List Nat) : SeqAt.shaped (rowD xs) = true := by
  obtain ⟨h1, h2⟩ := canRow xs
  unfold SeqAt.shaped
  rw [h1, Bool.true_and]
  exact decide_eq_true (by omega)
theorem shaped_rows (rows : List (List Nat)) : SeqAt.shaped (.list (rows.map rowD)) = true := by
  obtain ⟨h1, h2⟩ := canRows rows
  exact shaped_of h1 (by omega)
theorem dp_row {K : PySem.W.Frag} {H : Hp} {a : Addr} {xs : List Nat} (h : H a = some (.lst (xs.map natV))) : Dp K H (.ref a) (rowD xs) := dp_ints (by rw [nat_ints]; exact h)
theorem dp_rows {K : PySem.W.Frag} {H : Hp} {t : Addr} {as : List Addr} {rows : List (List Nat)} (h : H t = some (.lst (as.map V.ref))) (r : RowsAt H as rows) : Dp K H (.ref t) (.list (rows.map rowD)) := .lst (sq_at h) r.dp
theorem eqv_rows_self (rows : List (List Nat)) : PyData.eqv (.list (rows.map rowD)) (.list (rows.map rowD)) = true := SeqAt.eqv_refl _ (by simp only [PyData.canLay0, (canRows rows).1])
theorem perm_sum {as bs : List Nat} (h : as.Perm bs) : as.sum = bs.sum := by
  induction h with
  | nil => rfl
  | cons x _ ih => rw [List.sum_cons, List.sum_cons, ih]
  | swap x y l => rw [List.sum_cons, List.sum_cons, List.sum_cons, List.sum_cons]; omega
  | trans _ _ i1 i2 => exact i1.trans i2
theorem isB_perm {m : Nat} {as bs : List Nat} (h : as.Perm bs) : isB m as = isB m bs := by
  unfold isB sumD
  rw [perm_sum h, perm_sum (h.map (LD · m))]
theorem perm_back {α β : Type} (f : α → β) {l l' : List β} (h : l.Perm l') : ∀ xs : List α, l' = xs.map f → ∃ ns : List α, l = ns.map f ∧ ns.Perm xs := by
  induction h with
  | nil =>
    intro xs e
    cases xs with
    | nil => exact ⟨[], rfl, .refl _⟩
    | cons x xs => cases e
  | cons x _ ih =>
    intro xs e
    cases xs with
    | nil => cases e
    | cons y ys =>
      obtain ⟨e1, e2⟩ := List.cons.inj e
      obtain ⟨ns, h1, h2⟩ := ih ys e2
      exact ⟨y :: ns, by rw [h1, e1]; rfl, h2.cons y⟩
  | swap x y l =>
    intro xs e
    match xs, e with
    | a :: b :: r, e =>
      obtain ⟨e1, e2⟩ := List.cons.inj e
      obtain ⟨e3, e4⟩ := List.cons.inj e2
      exact ⟨b :: a :: r, by rw [e1, e3, e4]; rfl, .swap a b r⟩
  | trans _ _ i1 i2 =>
    intro xs e
    obtain ⟨ns, h1, h2⟩ := i2 xs e
    obtain ⟨ms, h3, h4⟩ := i1 ns h1
    exact ⟨ms, h3, h4.trans h2⟩
theorem cut_mem {xs : List V} {lo hi : Option Int} {y : V} (h : y ∈ cutV xs lo hi) : y ∈ xs := List.mem_of_mem_drop (List.mem_of_mem_take h)
theorem filter_if {α : Type} (c : α → Bool) (l : List α) : l.filterMap (fun x => if c x = true then some x else none) = l.filter c := by
  induction l with
  | nil => rfl
  | cons a l ih =>
    rw [List.filterMap_cons, List.filter_cons, ih]
    cases c a <;> rfl
/-! ### what was evaluated -/
structure Facts (m x : Nat) : Prop where
  few : (partsS m x).length ≤ 300
  row : ∀ xs ∈ partsS m x, 2 ≤ xs.length ∧ xs.length ≤ m ∧ xs.sum = x ∧ ∀ e ∈ xs, 1 ≤ e
  inb : (bpS x m).reverse ∈ bestS m x
  srt : sortedN (bpS x m).reverse = true
  b2 : 2 ≤ (bpS x m).length
  bs : (bpS x m).sum = x
  bl : (bpS x m).length ≤ m
  b1 : ∀ e ∈ bpS x m, 1 ≤ e
  pw : [m, m * m, m * m * m, m * m * m * m].contains x = true → bestS m x = [List.replicate m (x / m)]
  tw : m = 2 → ∀ xs ∈ partsS m x, isB m xs = byTwo (xs.getD 0 0) (xs.getD 1 0)
theorem facts {m x : Nat} (h1 : 2 ≤ m) (h2 : m ≤ 5) (h3 : 2 ≤ x) (h4 : x ≤ 16) : Facts m x := by
  have h := chkA (m - 2) (List.mem_range.mpr (by omega)) (x - 2) (List.mem_range.mpr (by omega))
  rw [show m - 2 + 2 = m by omega, show x - 2 + 2 = x by omega] at h
  unfold okAll at h
  simp only [Bool.and_eq_true] at h
  obtain ⟨⟨⟨⟨⟨⟨⟨⟨⟨a1, a2⟩, a3⟩, a4⟩, a5⟩, a6⟩, a7⟩, a8⟩, a9⟩, a10⟩ := h
  refine ⟨of_decide_eq_true a1, fun xs hx => ?_, List.contains_iff_mem.mp a3, a4, of_decide_eq_true a5, eq_of_beq a6, of_decide_eq_true a7, fun e he => of_decide_eq_true (List.all_eq_true.mp a8 e he), fun hc => ?_, fun hm xs hx => ?_⟩
  · have g := List.all_eq_true.mp a2 xs hx
    unfold okPart at g
    simp only [Bool.and_eq_true] at g
    obtain ⟨⟨⟨g1, g2⟩, g3⟩, g4⟩ := g
    exact ⟨of_decide_eq_true g1, of_decide_eq_true g2, eq_of_beq g3, fun e he => of_decide_eq_true (List.all_eq_true.mp g4 e he)⟩
  · rw [hc] at a9
    exact eq_of_beq a9
  · subst hm
    have g := List.all_eq_true.mp a10 xs hx
    exact eq_of_beq g
theorem sorted_pw : ∀ {xs : List Nat}, sortedN xs = true → (xs.map fun n : Nat => (n : Int)).Pairwise (· ≤ ·) := by
  have key : ∀ (xs : List Nat) (a : Nat), sortedN (a :: xs) = true → ∀ y ∈ xs, a ≤ y := fun xs => by
    induction xs with
    | nil => intro a _ y hy; cases hy
    | cons b r ih =>
      intro a h y hy
      have h' : (decide (a ≤ b) && sortedN (b :: r)) = true := h
      rw [Bool.and_eq_true] at h'
      have hab := of_decide_eq_true h'.1
      rcases List.mem_cons.mp hy with e | e
      · omega
      · have := ih b h'.2 y e
        omega
  intro xs
  induction xs with
  | nil => intro _; exact List.Pairwise.nil
  | cons a r ih =>
    intro h
    refine List.Pairwise.cons (fun y hy => ?_) (ih ?_)
    · obtain ⟨z, hz, rfl⟩ := List.mem_map.mp hy
      have h9 := key r a h z hz
      show (a : Int) ≤ (z : Int)
      omega
    · cases r with
      | nil => rfl
      | cons b r =>
        have h' : (decide (a ≤ b) && sortedN (b :: r)) = true := h
        rw [Bool.and_eq_true] at h'
        exact h'.2
theorem sorted_one {ns' : List Int} {bs : List Nat} (h : sortedN bs.reverse = true) (p : ns'.Perm (bs.map fun n : Nat => (n : Int))) (w : ns'.Pairwise (· ≤ ·)) : ns' = bs.reverse.map fun n : Nat => (n : Int) := by
  refine List.Perm.eq_of_pairwise (le := (· ≤ ·)) (fun a b _ _ h1 h2 => Int.le_antisymm h1 h2) w (sorted_pw h) (p.trans ?_)
  exact ((List.reverse_perm bs).map _).symm
end
end Lw
namespace Lw
open PySem PySem.Spec PyProof.Rows L2 Gd Ld Pt
section
variable {P : Program} {w : World} {K : PySem.W.Frag} {mg : Str → Option Value} {base : Heap}
structure TL (P : Program) (w : World) (K : PySem.W.Frag) (mg : Str → Option Value) (base : Heap) where
  z_len : mg "len" = none
  z_range : mg "range" = none
  z_repr : mg "repr" = none
  z_tuple : mg "tuple" = none
  z_list : mg "list" = none
  z_sorted : mg "sorted" = none
  z_isinstance : mg "isinstance" = none
  dig : PySem.W.nsIn K cStatics "sys.int_max_str_digits" = some none
  law_draw : Cal P w K mg base 1 "_law_draw" ["script", "salt"] (spDraw K)
  law_any : Cal P w K mg base 1 "_law_any" ["deal", "bound"] spAny
  law_mixed : Cal P w K mg base 2 "_law_mixed" ["deal", "some"] (spMixed K)
  law_split : Cal P w K mg base 1 "_law_split" ["total", "many"] spSplit
  law_least_depths : Cal P w K mg base 1 "_law_least_depths" ["most", "m"] spLL
  law_best : Cal P w K mg base 1 "_law_best" ["least", "some"] spBest
  law_by_two : Cal P w K mg base 1 "_law_by_two" ["one", "other"] spTwo
  is_best_parting : Cal P w K mg base 3 "is_best_parting" ["m", "value"] spIB
  best_parting : Cal P w K mg base 1 "best_parting" ["x", "m"] spBP
  kb_is_best_parting : KBinds K is_best_parting.fd ["m", "value"] ["value", "m"] (fun us ws => us ++ ws.reverse) (fun us ws => us ++ ws.reverse)
  kb_best_parting : KBinds K best_parting.fd ["x", "m"] ["m", "x"] (fun us ws => us ++ ws.reverse) (fun us ws => us ++ ws.reverse)
theorem rd_and_no {ta tb : TT} {t u : TS} {D : Ends} {σ : L2.St} {H : Hp} (h : ∀ Q2 : Bool → Hp → Prop, (∀ H', Same H H' → Q2 false H') → tAnd ta tb σ H Q2) (k : ∀ H', Same H H' → u D σ H') : tIfS (tAnd ta tb) t u D σ H :=
  h _ fun H' s => iteF (k H' s)
/-- no parting -/
def BadV (m : Nat) (H : Hp) (v : V) : Prop := NoTup H v ∨ ∃ a ys, v = .ref a ∧ H a = some (.tup ys) ∧ ys.length ≤ 1000 ∧ (∀ y ∈ ys, Odd4 H y) ∧ (¬ (2 ≤ ys.length ∧ ys.length ≤ m) ∨ ∃ y ∈ ys, okE y = false)
theorem BadV.keep {m : Nat} {H H' : Hp} {v : V} (s : Same H H') : BadV m H v → BadV m H' v
  | .inl (.inl h) => .inl (.inl h)
  | .inl (.inr (.inl h)) => .inl (.inr (.inl h))
  | .inl (.inr (.inr ⟨a, ys, h1, h2⟩)) => .inl (.inr (.inr ⟨a, ys, h1, s _ _ h2⟩))
  | .inr ⟨a, ys, h1, h2, h3, h4, h5⟩ => .inr ⟨a, ys, h1, s _ _ h2, h3, fun y hy => (h4 y hy).keep s, h5⟩
theorem bad_more {m : Nat} {H H' : Hp} {vs : List V} {v : V} (A : ∀ w ∈ vs, BadV m H w) (s : Same H H') (b : BadV m H' v) : ∀ w ∈ vs ++ [v], BadV m H' w := fun w hw => by
  rcases List.mem_append.mp hw with h | h
  · exact (A w h).keep s
  · rw [List.mem_singleton.mp h]
    exact b
theorem bad_two {m : Nat} {H : Hp} {t : Addr} {u v : V} (h : H t = some (.tup [u, v])) (h1 : Odd4 H u) (h2 : Odd4 H v) (k : okE u = false ∨ okE v = false) : BadV m H (.ref t) :=
  .inr ⟨t, _, rfl, h, by show 2 ≤ 1000; decide, fun y hy => by
    rcases List.mem_cons.mp hy with e | e
    · rw [e]; exact h1
    · rw [List.mem_singleton.mp e]; exact h2, .inr (by
    rcases k with k | k
    · exact ⟨u, by simp, k⟩
    · exact ⟨v, by simp, k⟩)⟩
/-- what stands throughout -/
structure Bs (H : Hp) (p q l A B : Addr) (as bs : List Addr) (m x : Nat) : Prop where
  dl : ∃ cs b, Deal H p q cs b
  hl : H l = some (.lst ((told m 21).map natV))
  hA : H A = some (.lst (as.map V.ref))
  rA : RowsAt H as (partsS m x)
  hB : H B = some (.lst (bs.map V.ref))
  rB : RowsAt H bs (bestS m x)
  nl : l ≠ p ∧ l ≠ q
  nA : A ≠ p ∧ A ≠ q
  nB : B ≠ p ∧ B ≠ q
  na : ∀ a ∈ as, a ≠ p ∧ a ≠ q
  sub : ∀ b ∈ bs, b ∈ as
theorem Bs.keep {H H' : Hp} {p q l A B : Addr} {as bs : List Addr} {m x : Nat} (S : Bs H p q l A B as bs m x) (s : Same H H') : Bs H' p q l A B as bs m x :=
  ⟨let ⟨cs, b, D⟩ := S.dl; ⟨cs, b, D.keep s⟩, s _ _ S.hl, s _ _ S.hA, S.rA.keep s, s _ _ S.hB, S.rB.keep s, S.nl, S.nA, S.nB, S.na, S.sub⟩
theorem Bs.drawn {H H' : Hp} {p q l A B : Addr} {as bs : List Addr} {m x : Nat} {cs : List Int} {b : Int} (S : Bs H p q l A B as bs m x) (D : Deal H' p q cs b) (f : But p q H H') : Bs H' p q l A B as bs m x :=
  ⟨⟨cs, b, D⟩, f _ _ S.nl.1 S.nl.2 S.hl, f _ _ S.nA.1 S.nA.2 S.hA, S.rA.but S.na f, f _ _ S.nB.1 S.nB.2 S.hB, S.rB.but (fun b h => S.na b (S.sub b h)) f, S.nl, S.nA, S.nB, S.na, S.sub⟩
theorem contains_best {m x : Nat} {xs : List Nat} (h : xs ∈ partsS m x) : (bestS m x).contains xs = isB m xs := by
  unfold bestS
  cases e : isB m xs with
  | true => exact List.contains_iff_mem.mpr (List.mem_filter.mpr ⟨h, e⟩)
  | false =>
    cases c : ((partsS m x).filter (isB m)).contains xs with
    | false => rfl
    | true =>
      have := (List.mem_filter.mp (List.contains_iff_mem.mp c)).2
      rw [e] at this
      cases this
def spLaw (K : PySem.W.Frag) : Sp := fun vs H Q _ => ∃ (a : Addr) (ns : List Int), vs = [.ref a] ∧ SqL K H a (ns.map V.int) ∧ ns.length ≤ 63 ∧ ∀ H', Q (.bl true) H'
theorem ok_law {f : Addr} {fd : FuncData} (F : Fun K "law" "law" s_law f fd) (T : TL P w K mg base) : FnG P w K mg base (3 + 1) f fd ["script"] (spLaw K) := by
  refine okG F sc_law (fun {vs H Q E} h => ?_) (fun cdv A outer s H vs Q E st hr h => ?_)
  · obtain ⟨a, ns, rfl, _⟩ := h
    rfl
  · have hu := hu_of hr
    have sc := sc_law
    obtain ⟨a, ns, rfl, hS, hl, qq⟩ := h
    refine ⟨_, (pss_cons (ps_set (i := 1) sc.nd rfl (.inl rfl) (pe_cal T.law_draw st (hr.mono (by omega)) (pa_cons (pv 0) (pa_cons pe_int pa_nil))))
      (pss_cons (ps_set (i := 2) sc.nd rfl (.inr rfl) (pe_op op_add pe_int (pe_cal T.law_any st (hr.mono (by omega)) (pa_cons (pv 1) (pa_cons pe_int pa_nil)))))
      (pss_cons (ps_asg (pe_tup (pa_cons (pe_cal T.law_least_depths st (hr.mono (by omega)) (pa_cons pe_int (pa_cons (pv 2) pa_nil))) (pa_cons (pe_op op_add pe_int (pe_cal T.law_any st (hr.mono (by omega)) (pa_cons (pv 1) (pa_cons pe_int pa_nil)))) pa_nil))) (pg_tup (by rfl) (pgs_cons (pg_name (i := 3) sc.nd rfl (.inr rfl)) (pgs_cons (pg_name (i := 4) sc.nd rfl (.inr rfl)) pgs_nil))))
      (pss_cons (ps_set (i := 5) sc.nd rfl (.inl rfl) (pe_lst pa_nil))
      (pss_cons (ps_for PassesOwn.never rfl (pi_range2 (by rfl) T.z_range (pa_cons pe_int (pa_cons (pe_op op_add (pv 2) pe_int) pa_nil))) (pg_name (i := 6) sc.nd rfl (.inl rfl)) (pss_one (ps_set (i := 5) sc.nd rfl (.inl rfl) (pe_op op_cat (pv 5) (pe_cal T.law_split st (hr.mono (by omega)) (pa_cons (pv 4) (pa_cons (pv 6) pa_nil)))))))
      (pss_cons (ps_set (i := 7) sc.nd rfl (.inr rfl) (pe_lc (own := [("some", 8)]) (g := gName 8) rfl sc.nd (pi_listK (K := K) rfl (pv 5)) (blk_in (N := n_law) (by decide +kernel) (by repeat (first | exact trivial | exact Or.inl rfl | exact Or.inr rfl | refine And.intro ?_ ?_))) (fun _ _ _ _ _ => (pg_name (i := 8) sc.nd rfl (.inl rfl))) (fun _ _ _ _ _ => (pts_one (pt_val (pe_cal T.law_best st (hr.mono (by omega)) (pa_cons (pv 3) (pa_cons (pv 8) pa_nil)))))) (fun _ _ _ _ _ => (pv 8))))
      (pss_cons (ps_for PassesOwn.never rfl (pi_listK (K := K) rfl (pe_op op_cat (pe_slice (slLK (K := K) rfl) (pe_cal T.law_mixed st (hr.mono (by omega)) (pa_cons (pv 1) (pa_cons (pv 5) pa_nil))) po_none (po_some pe_int)) (pe_slice (slLK (K := K) rfl) (pv 7) po_none (po_some pe_int)))) (pg_name (i := 8) sc.nd rfl (.inl rfl)) (pss_cons (ps_set (i := 11) sc.nd rfl (.inl rfl) (pe_callTy (tupK (K := K) rfl) (by rfl) T.z_tuple (by decide +kernel) (pa_cons (pe_cal T.law_mixed st (hr.mono (by omega)) (pa_cons (pv 1) (pa_cons (pv 8) pa_nil))) pa_nil)))
      (pss_one (ps_if (PW.pt (pw_or (pt_cmpR op_ne (pe_callB (reprS (K := K) rfl st hr.units) (by rfl) T.z_repr (by decide +kernel) (pa_cons (pe_cal T.is_best_parting st (hr.mono (by omega)) (pa_cons (pv 2) (pa_cons (pv 11) pa_nil))) pa_nil)) (pe_callB (reprS (K := K) rfl st hr.units) (by rfl) T.z_repr (by decide +kernel) (pa_cons (pe_cmpR (inDK (K := K) rfl (units65 hr)) (pv 8) (pv 7) (by rfl)) pa_nil)) (nomark _)) (pw_or1 (pt_cmpR op_ne (pe_callB (reprS (K := K) rfl st hr.units) (by rfl) T.z_repr (by decide +kernel) (pa_cons (pe_calK T.is_best_parting T.kb_is_best_parting st (hr.mono (by omega)) (pk_cons (pv 11) (pk_cons (pv 2) pk_nil))) pa_nil)) (pe_callB (reprS (K := K) rfl st hr.units) (by rfl) T.z_repr (by decide +kernel) (pa_cons (pe_cmpR (inDK (K := K) rfl (units65 hr)) (pv 8) (pv 7) (by rfl)) pa_nil)) (nomark _))))) (pss_one (ps_ret pe_bl)) pss_nil))))
      (pss_cons (ps_set (i := 9) sc.nd rfl (.inl rfl) (pe_calK T.best_parting T.kb_best_parting st (hr.mono (by omega)) (pk_cons (pv 2) (pk_cons (pv 4) pk_nil))))
      (pss_cons (ps_if (PW.pt (pw_or (pt_not (pt_val (pe_callB (isiK (K := K) rfl) (by rfl) T.z_isinstance (by decide +kernel) (pa_cons (pv 9) (pa_cons (pe_bltn (v := .ty "tuple") (by rfl) T.z_tuple (by decide +kernel) rfl) pa_nil))))) (pw_or (pt_cmpR (ninDK (K := K) rfl (units65 hr)) (pe_callB (srtK (K := K) rfl) (by rfl) T.z_sorted (by decide +kernel) (pa_cons (pv 9) pa_nil)) (pv 7) (by rfl)) (pw_or1 (pt_cmpR (neK (K := K) rfl hr.units) (pe_cal T.best_parting st (hr.mono (by omega)) (pa_cons (pv 4) (pa_cons (pv 2) pa_nil))) (pv 9) (nomark _)))))) (pss_one (ps_ret pe_bl)) pss_nil)
      (pss_cons (ps_if (PW.pt (pw_and (pt_cmpR (inK (K := K) rfl) (pv 4) (pe_lst (pa_cons (pv 2) (pa_cons (pe_op op_mul (pv 2) (pv 2)) (pa_cons (pe_op op_mul (pe_op op_mul (pv 2) (pv 2)) (pv 2)) (pa_cons (pe_op op_mul (pe_op op_mul (pe_op op_mul (pv 2) (pv 2)) (pv 2)) (pv 2)) pa_nil))))) (by rfl)) (pw_and1 (pt_cmpR (neK (K := K) rfl hr.units) (pv 7) (pe_lst (pa_cons (pe_lc (own := [("part", 13)]) (g := gName 13) (tt := tYes) rfl sc.nd (pi_range1 (by rfl) T.z_range (pa_cons (pv 2) pa_nil)) (blk_in (N := n_law) (by decide +kernel) (by repeat (first | exact trivial | exact Or.inl rfl | exact Or.inr rfl | refine And.intro ?_ ?_))) (fun _ _ _ _ _ => (pg_name (i := 13) sc.nd rfl (.inl rfl))) (fun _ _ _ _ _ => pts_nil) (fun _ _ _ _ _ => (pe_op op_fdiv (pv 4) (pv 2)))) pa_nil)) (nomark _))))) (pss_one (ps_ret pe_bl)) pss_nil)
      (pss_cons (ps_if (PW.pt (pw_and (pt_cmpR op_eq (pv 2) pe_int (nomark _)) (pw_and1 (pt_cmpR (neK (K := K) rfl hr.units) (pe_lc (own := [("some", 8)]) (g := gName 8) rfl sc.nd (pi_listK (K := K) rfl (pv 5)) (blk_in (N := n_law) (by decide +kernel) (by repeat (first | exact trivial | exact Or.inl rfl | exact Or.inr rfl | refine And.intro ?_ ?_))) (fun _ _ _ _ _ => (pg_name (i := 8) sc.nd rfl (.inl rfl))) (fun _ _ _ _ _ => (pts_one (pt_cmpR op_ne (pe_cmpR (inDK (K := K) rfl (units65 hr)) (pv 8) (pv 7) (by rfl)) (pe_cal T.law_by_two st (hr.mono (by omega)) (pa_cons (pe_ix (ixLK (K := K) rfl) (pv 8) pe_int (fun _ _ => rfl)) (pa_cons (pe_ix (ixLK (K := K) rfl) (pv 8) pe_int (fun _ _ => rfl)) pa_nil))) (nomark _)))) (fun _ _ _ _ _ => (pv 8))) (pe_lst pa_nil) (nomark _))))) (pss_one (ps_ret pe_bl)) pss_nil)
      (pss_cons (ps_set (i := 10) sc.nd rfl (.inl rfl) (pe_lst (pa_cons pe_non (pa_cons (pe_tup pa_nil) (pa_cons (pe_tup (pa_cons (pv 4) pa_nil)) (pa_cons (pe_callTy (lstK (K := K) rfl) (by rfl) T.z_list (by decide +kernel) (pa_cons (pv 9) pa_nil)) (pa_cons (pe_op op_catA (pv 9) (pe_tup (pa_cons pe_int pa_nil))) (pa_cons (pe_op (repTK (K := K) rfl) (pe_tup (pa_cons pe_int pa_nil)) (pe_op op_add (pv 2) pe_int)) (pa_cons (pe_tup (pa_cons pe_bl (pa_cons pe_int pa_nil))) (pa_cons (pe_tup (pa_cons pe_int (pa_cons (pe_un un_neg pe_int) pa_nil))) (pa_cons (pe_tup (pa_cons pe_str (pa_cons pe_int pa_nil))) (pa_cons (pe_tup (pa_cons (pv 9) (pa_cons pe_int pa_nil))) (pa_cons (pe_tup (pa_cons pe_int (pa_cons pe_int pa_nil))) (pa_cons pe_int pa_nil))))))))))))))
      (pss_one (ps_ret (pe_cmpR (eqK (K := K) rfl hr.units) (pe_lc (own := [("one", 12)]) (g := gName 12) rfl sc.nd (pi_listK (K := K) rfl (pv 10)) (blk_in (N := n_law) (by decide +kernel) (by repeat (first | exact trivial | exact Or.inl rfl | exact Or.inr rfl | refine And.intro ?_ ?_))) (fun _ _ _ _ _ => (pg_name (i := 12) sc.nd rfl (.inl rfl))) (fun _ _ _ _ _ => (pts_one (pt_cmpR op_notBl (pe_cal T.is_best_parting st (hr.mono (by omega)) (pa_cons (pv 2) (pa_cons (pv 12) pa_nil))) pe_bl (nomark _)))) (fun _ _ _ _ _ => (pv 12))) (pe_lst pa_nil) (nomark _)))))))))))))))), ?_⟩
    refine ⟨_, rfl, a, ns, 17, rfl, hS, by decide, by decide, fun H1 p q cs b s1 fp fq D => ?_⟩
    refine ⟨_, rfl, p, q, cs, b, 4, rfl, D, by decide, by decide, fun H2 r cs b D f2 r0 r1 => ⟨_, _, rfl, rfl, ?_⟩⟩
    obtain ⟨m, hm0⟩ : ∃ m : Nat, 2 + r = (m : Int) := ⟨(2 + r).toNat, by omega⟩
    show gName 2 (V.int (2 + r)) _ _ _
    rw [hm0]
    have hm : 2 ≤ m := by omega
    have hm5 : m ≤ 5 := by omega
    clear f2 r0 r1 hm0 s1 fp fq hS
    -- least, x = (_law_least_depths(20, m), 2 + _law_any(deal, 15))
    refine ⟨_, rfl, 20, m, rfl, by decide, by decide, hm, by omega, fun H3 l s3 nl hL => ⟨_, rfl, p, q, cs, b, 15, rfl, D.keep s3, by decide, by decide, fun H4 r cs b D4 f4 r0 r1 => ⟨_, _, rfl, rfl, by show 2 ≤ sizeLine; decide, fun T nT => ?_⟩⟩⟩
    have lp : l ≠ p := (ne_of_none D.top nl).symm
    have lq : l ≠ q := (ne_of_none D.low nl).symm
    have hL4 := f4 _ _ lp lq hL
    obtain ⟨x, hx0⟩ : ∃ x : Nat, 2 + r = (x : Int) := ⟨(2 + r).toNat, by omega⟩
    have hx : 2 ≤ x := by omega
    have hx16 : x ≤ 16 := by omega
    have F := facts hm hm5 hx hx16
    refine ⟨T, _, rfl, st_at upd_same, rfl, _, _, rfl, _, _, rfl, rfl, ?_⟩
    rw [show ((fun i j => V.int (i + j)) (2 : Int) r) = V.int (x : Int) from congrArg V.int hx0]
    have sT := same_new (o := .tup [V.ref l, V.int (x : Int)]) nT
    have D5 := D4.keep sT
    have hL5 := sT _ _ hL4
    generalize upd H4 T (.tup [V.ref l, V.int (x : Int)]) = H5 at D5 hL5
    clear sT nT hx0 r0 r1 hL4 D4 hL f4 s3 nl
    -- partings = []; for many in range(2, m + 1): partings = partings + _law_split(x, many)
    refine ⟨Nat.zero_le _, fun A0 nA0 => ?_⟩
    refine ⟨_, rfl, _, _, rfl, rfl, 2, (m : Int) + 1, rfl, ⟨by omega, by omega, by omega, by omega⟩, ?_⟩
    rw [show ((m : Int) + 1 - 2).toNat = m - 1 by omega]
    refine for_range (lo := 2) (n := m - 1) (fun i σ H6 => ∃ A as v6, σ = [some (.ref a), some (.ref p), some (.int (m : Int)), some (.ref l), some (.int (x : Int)), some (.ref A), v6, none, none, none, none, none, none, none] ∧ Same H5 H6 ∧ H5 A = none ∧ (∀ a ∈ as, H5 a = none) ∧ H6 A = some (.lst (as.map V.ref)) ∧ RowsAt H6 as ((List.range i).flatMap fun i => splitS x (i + 2)) ∧ as.length ≤ 200 * i)
      ⟨A0, [], none, rfl, same_new nA0, nA0, fun a h => absurd h List.not_mem_nil, upd_same, .nil, Nat.zero_le _⟩ ?_ ?_
    · rintro i σ H6 hi ⟨A, as, v6, rfl, s6, nA, na, hA, hR, hl6⟩
      refine ⟨_, rfl, _, rfl, _, rfl, x, i + 2, ?_, hx16, by omega, by omega, fun H7 l7 bs s7 nl7 nb hl7 hR7 => ?_⟩
      · rw [show (2 : Int) + (i : Int) = ((i + 2 : Nat) : Int) by omega]
        rfl
      · have hbl : bs.length ≤ 200 := by
          rw [hR7.len]
          exact Nat.le_trans (List.length_filterMap_le _ _) (ok_rows hx16 (by omega) (by omega) (t := i + 2 - 1) (by omega)).1
        refine ⟨A, l7, _, _, rfl, rfl, s7 _ _ hA, hl7, ?_, fun O nO => ?_⟩
        · rw [List.length_map, List.length_map]
          exact Nat.le_of_lt (small_lt (by omega))
        · have s8 := same_new (o := .lst (as.map V.ref ++ bs.map V.ref)) nO
          refine ⟨O, as ++ bs, some (.int (2 + (i : Int))), rfl, (s6.trans s7).trans s8, free_back (s6.trans s7) nO, fun a h => ?_, by rw [upd_same, List.map_append], ?_, ?_⟩
          · rcases List.mem_append.mp h with h | h
            · exact na a h
            · exact free_back s6 (nb a h)
          · rw [List.range_succ, List.flatMap_append, show ([i] : List Nat).flatMap (fun i => splitS x (i + 2)) = splitS x (i + 2) by simp]
            exact ((hR.keep s7).app hR7).keep s8
          · rw [List.length_append]
            omega
    rintro σ H6 ⟨A, as, v6, rfl, s6, nA, na, hA, hR, hl6⟩
    have hR : RowsAt H6 as (partsS m x) := hR
    have hrl := hR.len
    have hfew := F.few
    have D6 := D5.keep s6
    have hL6 := s6 _ _ hL5
    have nAp : A ≠ p ∧ A ≠ q := ⟨fresh_ne nA D5.top, fresh_ne nA D5.low⟩
    have nap : ∀ a ∈ as, a ≠ p ∧ a ≠ q := fun a h => ⟨fresh_ne (na a h) D5.top, fresh_ne (na a h) D5.low⟩
    clear s6 nA na hl6 hL5 D5 nA0
    -- best = [some for some in partings if _law_best(least, some)]
    refine ⟨_, rfl, A, rfl, ⟨_, sq_at hA⟩, fun B nB => ?_⟩
    refine lc_rows (n := (as.map V.ref).length) (j := 8) (Yx := fun i y => (as.map V.ref)[i]? = some y) (walk_list (K := K) (a := A) (xs := as.map V.ref)) nB (fun i => ((partsS m x)[i]?).bind fun xs => if isB m xs = true then some xs else none) (fun b => b ∈ as) (by rw [List.length_map]; omega) (fun _ _ _ _ y => ⟨y.1, y.2⟩) (fun H s => sq_at (s _ _ hA)) ?_ ?_
    · rintro i y H7 hi s7 fr hy Qn Qy hno hyes
      obtain ⟨a1, ha, rfl⟩ := ref_at hy
      obtain ⟨xs, hxs, hA1⟩ := (hR.keep s7).at ha
      obtain ⟨g1, g2, g3, g4⟩ := F.row xs (List.mem_of_getElem? hxs)
      have elt : ∀ (l : List Nat) (y : Nat), y ∈ l → y ≤ l.sum := fun l => by
        induction l with
        | nil => intro y hy; cases hy
        | cons b r ih =>
          intro y hy
          rw [List.sum_cons]
          rcases List.mem_cons.mp hy with e | e
          · omega
          · have := ih y e
            omega
      rw [hxs] at hno hyes
      have aB : a1 ≠ B := fun e => by
        have := (hR.at ha)
        obtain ⟨xs2, _, h2⟩ := this
        rw [e, nB] at h2
        cases h2
      refine ⟨_, rfl, _, rfl, l, a1, 20, m, xs, rfl, s7 _ _ hL6, hA1, by omega, fun y hy => by have := elt xs y hy; omega, by omega, fun H8 s8 => ⟨_, rfl, ?_⟩⟩
      cases hb : isB m xs with
      | true =>
        refine iteT ⟨_, rfl, hyes xs ?_ H8 a1 s8 aB (List.mem_of_getElem? ha) (s8 _ _ hA1)⟩
        show (if isB m xs = true then some xs else none) = some xs
        rw [if_pos hb]
      | false =>
        refine iteF (hno ?_ H8 s8)
        show (if isB m xs = true then some xs else none) = none
        rw [hb, if_neg Bool.false_ne_true]
    intro H7 bs s7 hb hB hRB
    have hRB : RowsAt H7 bs (bestS m x) := by
      rw [List.length_map, hrl, range_filter, filter_if] at hRB
      exact hRB
    have nBp : B ≠ p ∧ B ≠ q := ⟨fresh_ne nB D6.top, fresh_ne nB D6.low⟩
    have S : Bs H7 p q l A B as bs m x := ⟨⟨cs, b, D6.keep s7⟩, s7 _ _ hL6, s7 _ _ hA, hR.keep s7, hB, hRB, ⟨lp, lq⟩, nAp, nBp, nap, fun b h => (hb b h).1⟩
    clear s7 hb hB hRB nBp nAp nap hL6 D6 hA hR nB lp lq
    -- for some in _law_mixed(deal, partings)[:30] + best[:6]
    obtain ⟨cs, b, D7⟩ := S.dl
    refine ⟨_, rfl, _, rfl, p, q, A, cs, b, as.map V.ref, rfl, D7, sq_at S.hA, by rw [List.length_map]; omega, fun H8 f8 y hy => ?_, fun H8 R ys cs b D8 f8 nR Rp Rq hR perm => ?_⟩
    · obtain ⟨a1, ha, rfl⟩ := List.mem_map.mp hy
      obtain ⟨xs, _, hx1⟩ := S.rA.mem ha
      exact ⟨rowD xs, dp_row (f8 _ _ (S.na a1 ha).1 (S.na a1 ha).2 hx1), (canRow xs).1, Nat.le_trans (canRow xs).2 (by decide)⟩
    have S8 := S.drawn D8 f8
    refine ⟨30, rfl, R, ys, rfl, sq_at hR, fun c1 n1 => ?_⟩
    have s9 := same_new (o := .lst (cutV ys none (some 30))) n1
    refine ⟨_, rfl, 6, rfl, B, _, rfl, sq_at (s9 _ _ S8.hB), fun c2 n2 => ?_⟩
    have s10 := same_new (o := .lst (cutV (bs.map V.ref) none (some 6))) n2
    have c12 : c1 ≠ c2 := ne_of_none upd_same n2
    refine ⟨c1, c2, _, _, rfl, rfl, by rw [upd_ne c12]; exact upd_same, upd_same, ?_, fun O nO => ?_⟩
    · have k1 := cutV_length ys none (some 30)
      have k2 := cutV_length (bs.map V.ref) none (some 6)
      have k3 := perm.length_eq
      have k4 := S8.rB.len
      have k5 : (bestS m x).length ≤ (partsS m x).length := List.length_filter_le _ _
      rw [List.length_map] at k2 k3
      exact Nat.le_of_lt (small_lt (by omega))
    have hz : ∀ z ∈ cutV ys none (some 30) ++ cutV (bs.map V.ref) none (some 6), ∃ a1 ∈ as, z = V.ref a1 := fun z hz => by
      rcases List.mem_append.mp hz with h | h
      · obtain ⟨a1, h1, h2⟩ := List.mem_map.mp (perm.mem_iff.mp (cut_mem h))
        exact ⟨a1, h1, h2.symm⟩
      · obtain ⟨a1, h1, h2⟩ := List.mem_map.mp (cut_mem h)
        exact ⟨a1, S8.sub a1 h1, h2.symm⟩
    have S11 := S8.keep ((s9.trans s10).trans (same_new nO (o := .lst (cutV ys none (some 30) ++ cutV (bs.map V.ref) none (some 6)))))
    have nO8 : H8 O = none := free_back (s9.trans s10) nO
    have hO : O ≠ p ∧ O ≠ q := ⟨fresh_ne nO8 D8.top, fresh_ne nO8 D8.low⟩
    clear nO n2 n1 s9 s10 c12 hR perm nR Rp Rq nO8 S D7 D8 f8
    generalize cutV ys none (some 30) ++ cutV (bs.map V.ref) none (some 6) = zs at hz S11
    refine ⟨O, rfl, ⟨_, sq_at upd_same⟩, for_list (K := K) (a := O) (xs := zs) (fun i σ H6 => ∃ v6 v8 v11, σ = [some (.ref a), some (.ref p), some (.int (m : Int)), some (.ref l), some (.int (x : Int)), some (.ref A), v6, some (.ref B), v8, none, none, v11, none, none] ∧ Bs H6 p q l A B as bs m x ∧ H6 O = some (.lst zs))
      ⟨v6, none, none, rfl, S11, upd_same⟩ (fun i σ H6 _ ⟨_, _, _, _, _, h⟩ => sq_at h) ?_ ?_⟩
    · rintro i z σ H6 hi ⟨v6, v8, v11, rfl, S, hOz⟩
      obtain ⟨a1, ha, rfl⟩ := hz z (List.mem_of_getElem? hi)
      obtain ⟨xs, hxs, hA1⟩ := S.rA.mem ha
      obtain ⟨g1, g2, g3, g4⟩ := F.row xs hxs
      obtain ⟨cs, b, D⟩ := S.dl
      -- value = tuple(_law_mixed(deal, some))
      refine ⟨_, rfl, _, rfl, p, q, a1, cs, b, xs.map natV, rfl, D, sq_at hA1, by rw [List.length_map]; omega, fun H8 f8 y hy => ?_, fun H7 R ys cs b D7 f7 nR Rp Rq hR perm => ?_⟩
      · obtain ⟨n, _, rfl⟩ := List.mem_map.mp hy
        exact ⟨.int (n : Int), .int _, rfl, by simp [PyData.depth]⟩
      obtain ⟨nv, rfl, pn⟩ := perm_back natV perm xs rfl
      refine ⟨R, _, rfl, .inl ⟨sq_at hR, fun t nt => ?_⟩⟩
      have S8 := (S.drawn D7 f7).keep (same_new (o := .tup (nv.map natV)) nt)
      have hO8 := (same_new (o := .tup (nv.map natV)) nt) _ _ (f7 _ _ hO.1 hO.2 hOz)
      have hA8 := (same_new (o := .tup (nv.map natV)) nt) _ _ (f7 _ _ (S.na a1 ha).1 (S.na a1 ha).2 hA1)
      have hlen := pn.length_eq
      have elt : ∀ (l : List Nat) (y : Nat), y ∈ l → y ≤ l.sum := fun l => by
        induction l with
        | nil => intro y hy; cases hy
        | cons b r ih =>
          intro y hy
          rw [List.sum_cons]
          rcases List.mem_cons.mp hy with e | e
          · omega
          · have := ih y e
            omega
      have hent : ∀ n ∈ nv, 1 ≤ n ∧ n < 2 ^ 12 := fun n h => by
        have h1 := pn.mem_iff.mp h
        have h2 := g4 n h1
        have h3 := elt xs n h1
        omega
      have hbest : ∀ {H' : Hp}, Bs H' p q l A B as bs m x → H' a1 = some (.lst (xs.map natV)) → ∀ Q' : V → Hp → Prop, Q' (.bl (isB m nv)) H' → rInD K (.ref a1) (.ref B) H' Q' := fun S' hA' Q' hq => by
        refine ⟨rowD xs, (bestS m x).map rowD, dp_row hA', dp_rows S'.hB S'.rB, shaped_row xs, shaped_rows _, ?_⟩
        rw [any_rows, contains_best hxs, ← isB_perm pn]
        exact hq
      have ht : upd H7 t (.tup (nv.map natV)) t = some (.tup (nv.map natV)) := upd_same
      generalize upd H7 t (.tup (nv.map natV)) = H8 at S8 hO8 hA8 ht
      refine ⟨_, rfl, _, rfl, m, .ref t, rfl, hm, by omega, .inr (.inr ⟨t, nv, rfl, ht, by omega, by omega, hent, fun H9 s9 => ?_⟩)⟩
      refine ⟨_, _, 0, 0, rfl, .bl _, .bl _, by decide, by decide, _, rfl, _, rfl, hbest (S8.keep s9) (s9 _ _ hA8) _ ?_⟩
      refine ⟨_, _, 0, 0, rfl, .bl _, .bl _, by decide, by decide, rfl, _, rfl, ne_self ?_⟩
      have S9 := S8.keep s9
      refine ⟨_, rfl, _, rfl, m, .ref t, rfl, hm, by omega, .inr (.inr ⟨t, nv, rfl, s9 _ _ ht, by omega, by omega, hent, fun H10 s10 => ?_⟩)⟩
      refine ⟨_, _, 0, 0, rfl, .bl _, .bl _, by decide, by decide, _, rfl, _, rfl, hbest (S9.keep s10) ((s9.trans s10) _ _ hA8) _ ?_⟩
      refine ⟨_, _, 0, 0, rfl, .bl _, .bl _, by decide, by decide, rfl, _, rfl, ne_self ?_⟩
      exact ⟨v6, _, _, rfl, S9.keep s10, (s9.trans s10) _ _ hO8⟩
    rintro σ H6 ⟨v6, v8, v11, rfl, S, _⟩
    clear hz S11 S8 hO
    -- told = best_parting(m=m, x=x)
    refine ⟨_, rfl, _, rfl, x, m, rfl, hm, by omega, hx, by omega, fun H7 t s7 nt ht => ?_⟩
    have S := S.keep s7
    clear s7 nt
    -- if not isinstance(told, tuple) or sorted(told) not in best or best_parting(x, m) != told
    refine ⟨_, rfl, _, _, _, _, true, rfl, .ty _, .base (.tup ht), kitTT K, true, rfl, iteF ?_⟩
    have htI : H7 t = some (.tup (((bpS x m).map fun n : Nat => (n : Int)).map V.int)) := by rw [nat_ints]; exact ht
    refine ⟨_, rfl, t, (bpS x m).map fun n : Nat => (n : Int), rfl, .inr (st_at htI), fun ns' p1 perm pw n1 => ?_⟩
    obtain rfl := sorted_one F.srt perm pw
    have s8 := same_new (o := .lst (((bpS x m).reverse.map fun n : Nat => (n : Int)).map V.int)) n1
    refine ⟨_, rfl, rowD (bpS x m).reverse, (bestS m x).map rowD, dp_ints upd_same, dp_rows (S.keep s8).hB (S.keep s8).rB, shaped_row _, shaped_rows _, ?_⟩
    rw [any_rows, List.contains_iff_mem.mpr F.inb]
    refine ⟨false, rfl, iteF ?_⟩
    have S8 := S.keep s8
    have ht8 := s8 _ _ ht
    clear htI perm pw
    generalize upd H7 p1 (.lst (((bpS x m).reverse.map fun n : Nat => (n : Int)).map V.int)) = H8 at S8 ht8 
    refine ⟨_, rfl, _, rfl, x, m, rfl, hm, by omega, hx, by omega, fun H9 t2 s9 n2 ht2 => ?_⟩
    have dT : ∀ {H' : Hp} {t' : Addr}, H' t' = some (.tup ((bpS x m).map natV)) → Dp K H' (.ref t') (.tuple (((bpS x m).map fun n : Nat => (n : Int)).map PyData.int)) := fun h => by
      rw [← nat_ints] at h
      exact .tup (st_at h) (dp_all _)
    have shT : SeqAt.shaped (.tuple (((bpS x m).map fun n : Nat => (n : Int)).map PyData.int)) = true := by
      have h := shaped_row (bpS x m)
      unfold SeqAt.shaped at h ⊢
      unfold rowD at h
      simp only [PyData.canLay0, PyData.depth] at h ⊢
      exact h
    refine ⟨_, rfl, _, _, dT ht2, dT (s9 _ _ ht8), shT, shT, ?_⟩
    rw [SeqAt.eqv_refl _ (SeqAt.canLay_of_shaped shT)]
    refine ⟨false, rfl, iteF ?_⟩
    have S := S8.keep s9
    have ht := s9 _ _ ht8
    clear S8 ht8 n2 ht2 s9 s8 n1 shT dT
    -- if x in [m, m * m, ..] and best != [[x // m for part in range(m)]]
    unfold tNext
    dsimp only [tSeq]
    refine rd_and_no (fun Q2 q2 => ?_) fun H10 s10 => ?_
    · refine ⟨_, rfl, _, rfl, _, rfl, _, rfl, _, _, rfl, rfl, .inr ⟨by omega, by omega⟩, ?_⟩
      refine ⟨_, rfl, _, rfl, _, _, rfl, rfl, .inr ⟨by omega, by omega⟩, _, rfl, _, _, rfl, rfl, .inr ⟨by omega, by omega⟩, ?_⟩
      refine ⟨_, rfl, _, rfl, _, _, rfl, rfl, .inr ⟨by omega, by omega⟩, _, rfl, _, _, rfl, rfl, .inr ⟨by omega, by omega⟩, _, rfl, _, _, rfl, rfl, .inr ⟨by omega, by omega⟩, ?_⟩
      refine ⟨by show 4 ≤ sizeLine; decide, fun l4 n4 => ⟨l4, _, rfl, .inl (sq_at upd_same), rfl, rfl, ?_⟩⟩
      have sl := same_new (o := .lst [.int (m : Int), .int ((m : Int) * m), .int ((m : Int) * m * m), .int ((m : Int) * m * m * m)]) n4
      have mem : inV (.int (x : Int)) [.int (m : Int), .int ((m : Int) * m), .int ((m : Int) * m * m), .int ((m : Int) * m * m * m)] = [m, m * m, m * m * m, m * m * m * m].contains x := by
        rw [← inV_nat]
        show inV _ _ = inV _ [natV m, natV (m * m), natV (m * m * m), natV (m * m * m * m)]
        unfold natV
        simp only [Int.natCast_mul]
      refine ⟨_, rfl, ?_⟩
      show (if inV (.int (x : Int)) [.int (m : Int), .int ((m : Int) * m), .int ((m : Int) * m * m), .int ((m : Int) * m * m * m)] = true then _ else _)
      rw [mem]
      cases hc : [m, m * m, m * m * m, m * m * m * m].contains x with
      | false => exact iteF (q2 _ sl)
      | true =>
        have hb := F.pw hc
        refine iteT ?_
        have S11 := S.keep sl
        generalize upd H9 l4 (.lst [.int (m : Int), .int ((m : Int) * m), .int ((m : Int) * m * m), .int ((m : Int) * m * m * m)]) = H11 at S11 sl
        refine ⟨_, rfl, _, rfl, (m : Int), rfl, by omega, by omega, fun D nD => ?_⟩
        refine lc_vals (n := m) (j := 13) (Yx := fun i y => y = .int (0 + (i : Int))) walk_range nD (fun _ => natV (x / m)) (by omega) (fun _ _ _ _ y => y) (fun _ _ => trivial) ?_ ?_
        · rintro i y H12 hi s12 rfl Q' hQ
          refine ⟨_, rfl, _, rfl, _, _, rfl, rfl, ⟨by omega, by omega⟩, ?_⟩
          have h := hQ H12 (Same.refl _)
          unfold natV at h
          rw [Int.natCast_ediv] at h
          exact h
        intro H12 s12 hD
        refine ⟨by show 1 ≤ sizeLine; decide, fun G nG => ?_⟩
        have sG := same_new (o := .lst [V.ref D]) nG
        have S12 := (S11.keep s12).keep sG
        have hD2 : H12 D = some (.lst ((List.replicate m (x / m)).map natV)) := by
          rw [hD, List.map_replicate]
          congr 2
          rw [show (fun _ : Nat => natV (x / m)) = Function.const Nat (natV (x / m)) from rfl, List.map_const, List.length_range]
        refine ⟨.list ((bestS m x).map rowD), .list [rowD (List.replicate m (x / m))], dp_rows S12.hB S12.rB, .lst (sq_at upd_same) (.cons (dp_row (sG _ _ hD2)) .nil), shaped_rows _, shaped_rows [List.replicate m (x / m)], _, rfl, ?_⟩
        rw [hb]
        show Q2 (!PyData.eqv (.list ([List.replicate m (x / m)].map rowD)) (.list ([List.replicate m (x / m)].map rowD))) _
        rw [eqv_rows_self]
        exact q2 _ ((sl.trans s12).trans sG)
    have S := S.keep s10
    have ht := s10 _ _ ht
    clear s10
    -- if m == 2 and [some for some in partings if (some in best) != _law_by_two(some[0], some[1])] != []
    dsimp only [tSeq]
    refine rd_and_no (fun Q2 q2 => ?_) fun H11 s11 => ?_
    · refine ⟨_, rfl, rfl, _, rfl, ?_⟩
      by_cases hm2 : m = 2
      · rw [decide_eq_true (show V.int (m : Int) = V.int 2 by rw [hm2]; rfl)]
        refine iteT ⟨_, rfl, A, rfl, ⟨_, sq_at S.hA⟩, fun D nD => ?_⟩
        refine lc_rows (n := (as.map V.ref).length) (j := 8) (Yx := fun i y => (as.map V.ref)[i]? = some y) (walk_list (K := K) (a := A) (xs := as.map V.ref)) nD (fun _ => none) (fun _ => True) (by rw [List.length_map]; omega) (fun _ _ _ _ y => ⟨y.1, y.2⟩) (fun H s => sq_at (s _ _ S.hA)) ?_ ?_
        · rintro i y H12 hi s12 fr hy Qn Qy hno _
          obtain ⟨a1, ha, rfl⟩ := ref_at hy
          obtain ⟨xs, hxs, hA1⟩ := (S.rA.keep s12).at ha
          have hxm := List.mem_of_getElem? hxs
          obtain ⟨g1, g2, g3, g4⟩ := F.row xs hxm
          have S12 := S.keep s12
          refine ⟨_, rfl, _, rfl, rowD xs, (bestS m x).map rowD, dp_row hA1, dp_rows S12.hB S12.rB, shaped_row xs, shaped_rows _, ?_⟩
          rw [any_rows, contains_best hxm]
          obtain ⟨c0, c1, r, rfl⟩ : ∃ c0 c1 r, xs = c0 :: c1 :: r := by
            match xs, g1 with
            | c0 :: c1 :: r, _ => exact ⟨c0, c1, r, rfl⟩
            | [], h => simp at h
            | [c], h => simp at h
          refine ⟨_, rfl, a1, _, 0, natV c0, rfl, rfl, sq_at hA1, atI_nat (j := 0) rfl, _, rfl, a1, _, 1, natV c1, rfl, rfl, sq_at hA1, atI_nat (j := 1) rfl, c0, c1, rfl, fun H13 s13 => ⟨rfl, _, rfl, ?_⟩⟩
          have htw := F.tw hm2 _ hxm
          rw [htw]
          show (if (!decide (V.bl (byTwo c0 c1) = V.bl (byTwo c0 c1))) = true then _ else _)
          exact ne_self (hno rfl H13 s13)
        intro H12 bs2 s12 _ hD hB
        have e : (List.range (as.map V.ref).length).filterMap (fun _ => (none : Option (List Nat))) = [] := by simp
        rw [e] at hB
        cases hB
        refine ⟨Nat.zero_le _, fun G nG => ⟨.list [], .list [], .lst (sq_at ((same_new nG) _ _ hD)) .nil, .lst (sq_at upd_same) .nil, by decide, by decide, _, rfl, ?_⟩⟩
        show Q2 (!PyData.eqv (.list []) (.list [])) _
        exact q2 _ (s12.trans (same_new nG))
      · rw [decide_eq_false (fun e => hm2 (by have := V.int.inj e; omega))]
        exact iteF (q2 _ (Same.refl _))
    have S := S.keep s11
    have ht := s11 _ _ ht
    clear s11
    -- odd = [None, (), (x,), list(told), ..]
    have I4 : ∀ (H' : Hp) (i : Int), Odd4 H' (.int i) := fun _ i => .inl ⟨i, rfl⟩
    have A1 : ∀ w ∈ [V.non], BadV m H11 w := fun w h => by rw [List.mem_singleton.mp h]; exact .inl (.inl rfl)
    refine ⟨Nat.zero_le _, fun e0 n0 => ?_⟩
    have A2 := bad_more A1 (same_new (o := .tup []) n0) (v := .ref e0) (.inr ⟨e0, [], rfl, upd_same, Nat.zero_le _, fun y hy => absurd hy List.not_mem_nil, .inl (by simp)⟩)
    have ht := (same_new (o := .tup []) n0) _ _ ht
    refine ⟨_, rfl, by show 1 ≤ sizeLine; decide, fun e1 n1 => ?_⟩
    have A3 := bad_more A2 (same_new (o := .tup [.int (x : Int)]) n1) (v := .ref e1) (.inr ⟨e1, [.int (x : Int)], rfl, upd_same, by show 1 ≤ 1000; decide, fun y hy => by rw [List.mem_singleton.mp hy]; exact I4 _ _, .inl (by simp)⟩)
    have ht := (same_new (o := .tup [.int (x : Int)]) n1) _ _ ht
    refine ⟨_, rfl, t, _, rfl, .inr (st_at ht), fun e2 n2 => ?_⟩
    have A4 := bad_more A3 (same_new (o := .lst ((bpS x m).map natV)) n2) (v := .ref e2) (.inl (.inr (.inr ⟨e2, _, rfl, upd_same⟩)))
    have ht := (same_new (o := .lst ((bpS x m).map natV)) n2) _ _ ht
    have hb2 := F.b2
    have hbl := F.bl
    have hne : (bpS x m).map natV ≠ [] := fun e => by
      have := congrArg List.length e
      rw [List.length_map] at this
      simp at this
      rw [this] at hb2
      simp at hb2
    refine ⟨_, rfl, by show 1 ≤ sizeLine; decide, fun g1 ng1 => ?_⟩
    have ht := (same_new (o := .tup [.int 0]) ng1) _ _ ht
    refine ⟨t, g1, _, _, rfl, rfl, st_at ht, st_at upd_same, ?_, fun e => absurd e hne, fun _ e => absurd e (by simp), fun _ _ e3 n3 => ?_⟩
    · rw [List.length_map]
      exact Nat.le_of_lt (small1000 (by show (bpS x m).length + 1 ≤ 1000; omega))
    have ht := (same_new (o := .tup ((bpS x m).map natV ++ [.int 0])) n3) _ _ ht
    have A5 := bad_more A4 ((same_new (o := .tup [.int 0]) ng1).trans (same_new (o := .tup ((bpS x m).map natV ++ [.int 0])) n3)) (v := .ref e3) (.inr ⟨e3, _, rfl, upd_same, by rw [List.length_append, List.length_map]; show (bpS x m).length + 1 ≤ 1000; omega, fun y hy => by
        rcases List.mem_append.mp hy with h | h
        · obtain ⟨n, _, rfl⟩ := List.mem_map.mp h
          exact I4 _ _
        · rw [List.mem_singleton.mp h]
          exact I4 _ _, .inr ⟨.int 0, by simp, rfl⟩⟩)
    refine ⟨by show 1 ≤ sizeLine; decide, fun g2 ng2 => ?_⟩
    have ht := (same_new (o := .tup [.int 1]) ng2) _ _ ht
    refine ⟨_, rfl, _, _, rfl, rfl, g2, _, _, rfl, rfl, st_at upd_same, by simp, by omega, by omega, by show 1 ≤ 1000; decide, fun e4 n4 => ?_⟩
    have ht := (same_new (o := .tup (List.replicate ((m : Int) + 1).toNat [V.int 1]).flatten) n4) _ _ ht
    have A6 := bad_more A5 ((same_new (o := .tup [.int 1]) ng2).trans (same_new (o := .tup (List.replicate ((m : Int) + 1).toNat [V.int 1]).flatten) n4)) (v := .ref e4) (.inr ⟨e4, _, rfl, upd_same, by simp; omega, fun y hy => by
        rw [List.flatten_replicate_singleton] at hy
        rw [List.eq_of_mem_replicate hy]
        exact I4 _ _, .inl (by simp)⟩)
    refine ⟨by show 2 ≤ sizeLine; decide, fun e5 n5 => ?_⟩
    have A7 := bad_more A6 (same_new (o := .tup [.bl true, .int 1]) n5) (v := .ref e5) (bad_two upd_same (.inr (.inl ⟨true, rfl⟩)) (I4 _ _) (.inl rfl))
    have ht := (same_new (o := .tup [.bl true, .int 1]) n5) _ _ ht
    refine ⟨_, rfl, by show 2 ≤ sizeLine; decide, fun e6 n6 => ?_⟩
    have A8 := bad_more A7 (same_new (o := .tup [.int 1, .int (-1)]) n6) (v := .ref e6) (bad_two upd_same (I4 _ _) (I4 _ _) (.inr rfl))
    have ht := (same_new (o := .tup [.int 1, .int (-1)]) n6) _ _ ht
    refine ⟨by show 2 ≤ sizeLine; decide, fun e7 n7 => ?_⟩
    have A9 := bad_more A8 (same_new (o := .tup [.str "1", .int 1]) n7) (v := .ref e7) (bad_two upd_same (.inr (.inr (.inl ⟨_, rfl⟩))) (I4 _ _) (.inl rfl))
    have ht := (same_new (o := .tup [.str "1", .int 1]) n7) _ _ ht
    refine ⟨_, rfl, by show 2 ≤ sizeLine; decide, fun e8 n8 => ?_⟩
    have ht := (same_new (o := .tup [.ref t, .int 1]) n8) _ _ ht
    have A10 := bad_more A9 (same_new (o := .tup [.ref t, .int 1]) n8) (v := .ref e8) (bad_two upd_same (.inr (.inr (.inr ⟨t, _, rfl, ht⟩))) (I4 _ _) (.inl rfl))
    refine ⟨by show 2 ≤ sizeLine; decide, fun e9 n9 => ?_⟩
    have A11 := bad_more A10 (same_new (o := .tup [.int 0, .int 2]) n9) (v := .ref e9) (bad_two upd_same (I4 _ _) (I4 _ _) (.inl rfl))
    refine ⟨by show 12 ≤ sizeLine; decide, fun L nL => ?_⟩
    have A12 := bad_more (bad_more A11 (same_new (o := .lst [V.non, .ref e0, .ref e1, .ref e2, .ref e3, .ref e4, .ref e5, .ref e6, .ref e7, .ref e8, .ref e9, .int 2]) nL) (v := .int 2) (.inl (.inr (.inl ⟨2, rfl⟩)))) (Same.refl _) (v := .non) (.inl (.inl rfl))
    clear A1 A2 A3 A4 A5 A6 A7 A8 A9 A10 A11
    have hLL : ∀ w ∈ [V.non, .ref e0, .ref e1, .ref e2, .ref e3, .ref e4, .ref e5, .ref e6, .ref e7, .ref e8, .ref e9, .int 2], BadV m _ w := fun w h => A12 w (List.mem_append_left _ h)
    generalize [V.non, .ref e0, .ref e1, .ref e2, .ref e3, .ref e4, .ref e5, .ref e6, .ref e7, .ref e8, .ref e9, .int 2] = odd at hLL
    -- [one for one in odd if is_best_parting(m, one) is not False] == []
    refine ⟨_, rfl, L, rfl, ⟨_, sq_at upd_same⟩, fun D nD => ?_⟩
    refine lc_it (walk_list (K := K) (a := L) (xs := odd)) (fun i H6 => Same _ H6 ∧ H6 D = some (.lst [])) ⟨same_new nD, upd_same⟩ (fun i H6 _ h6 => sq_at (h6.1 _ _ upd_same)) ?_ ?_
    · rintro i y H6 H7 hi ⟨s6, hD⟩ ⟨rfl, hy⟩
      refine ⟨wipe_again _ 12 _, ?_⟩
      have bv := (hLL y (List.mem_of_getElem? hy)).keep s6
      refine ⟨_, rfl, _, rfl, m, y, rfl, hm, by omega, ?_⟩
      rcases bv with h | ⟨a9, ys, rfl, h1, h2, h3, h4⟩
      · exact .inl ⟨h, fun H' s' => ⟨_, _, rfl, rfl, _, rfl, iteF ⟨s6.trans s', s' _ _ hD⟩⟩⟩
      · exact .inr (.inl ⟨a9, ys, rfl, h1, h2, h3, h4, fun H' s' => ⟨_, _, rfl, rfl, _, rfl, iteF ⟨s6.trans s', s' _ _ hD⟩⟩⟩)
    · rintro H6 ⟨s6, hD⟩
      refine ⟨Nat.zero_le _, fun G nG => ⟨.list [], .list [], .lst (sq_at ((same_new nG) _ _ hD)) .nil, .lst (sq_at upd_same) .nil, by decide, by decide, ?_⟩⟩
      exact qq _

end
theorem all_mk {l : PySem.W.OpenLaw} {w : World} {K : PySem.W.Frag} {h : Heap} {mg : Str → Option Value} {fa f1 f2 f3 f4 f5 f6 f7 f8 f9 f10 f11 f12 f13 : Addr} (X : K.In h) (G : h.Ns mainGlobals mg) (hfa : mg "law" = some (.ref fa))
    {od1 an1 : Option Addr} {sl1 : Array (Option Value)} {oc1 kV1 dc1 pm1 cd1 ct1 : Value} {od2 an2 : Option Addr} {sl2 : Array (Option Value)} {oc2 kV2 dc2 pm2 cd2 ct2 : Value} {od3 an3 : Option Addr} {sl3 : Array (Option Value)} {oc3 kV3 dc3 pm3 cd3 ct3 : Value} {od4 an4 : Option Addr} {sl4 : Array (Option Value)} {oc4 kV4 dc4 pm4 cd4 ct4 : Value} {od5 an5 : Option Addr} {sl5 : Array (Option Value)} {oc5 kV5 dc5 pm5 cd5 ct5 : Value} {od6 an6 : Option Addr} {sl6 : Array (Option Value)} {oc6 kV6 dc6 pm6 cd6 ct6 : Value} {od7 an7 : Option Addr} {sl7 : Array (Option Value)} {oc7 kV7 dc7 pm7 cd7 ct7 : Value} {od8 an8 : Option Addr} {sl8 : Array (Option Value)} {oc8 kV8 dc8 pm8 cd8 ct8 : Value} {od9 an9 : Option Addr} {sl9 : Array (Option Value)} {oc9 kV9 dc9 pm9 cd9 ct9 : Value} {od10 an10 : Option Addr} {sl10 : Array (Option Value)} {oc10 kV10 dc10 pm10 cd10 ct10 : Value} {od11 an11 : Option Addr} {sl11 : Array (Option Value)} {oc11 kV11 dc11 pm11 cd11 ct11 : Value} {od12 an12 : Option Addr} {sl12 : Array (Option Value)} {oc12 kV12 dc12 pm12 cd12 ct12 : Value} {od13 an13 : Option Addr} {sl13 : Array (Option Value)} {oc13 kV13 dc13 pm13 cd13 ct13 : Value}
    (a1 : PySem.W.nsIn K mainGlobals "is_whole" = some (some (.ref f1))) (l1 : K.lookup f1 = some ⟨oc1, od1, .func (PySem.W.fnOf "is_whole" "is_whole" (defArgs s_is_whole) (defBody s_is_whole) (defScope s_is_whole) .none kV1 dc1 pm1 an1 cd1 ct1), sl1⟩) (c1 : PySem.W.codeIn K cd1 "is_whole" = true) (k1 : PySem.W.keepIn K (.ref f1) = true)
    (a2 : PySem.W.nsIn K mainGlobals "is_number" = some (some (.ref f2))) (l2 : K.lookup f2 = some ⟨oc2, od2, .func (PySem.W.fnOf "is_number" "is_number" (defArgs s_is_number) (defBody s_is_number) (defScope s_is_number) .none kV2 dc2 pm2 an2 cd2 ct2), sl2⟩) (c2 : PySem.W.codeIn K cd2 "is_number" = true) (k2 : PySem.W.keepIn K (.ref f2) = true)
    (a3 : PySem.W.nsIn K mainGlobals "least_depths" = some (some (.ref f3))) (l3 : K.lookup f3 = some ⟨oc3, od3, .func (PySem.W.fnOf "least_depths" "least_depths" (defArgs s_least_depths) (defBody s_least_depths) (defScope s_least_depths) .none kV3 dc3 pm3 an3 cd3 ct3), sl3⟩) (c3 : PySem.W.codeIn K cd3 "least_depths" = true) (k3 : PySem.W.keepIn K (.ref f3) = true)
    (a4 : PySem.W.nsIn K mainGlobals "is_best_parting" = some (some (.ref f4))) (l4 : K.lookup f4 = some ⟨oc4, od4, .func (PySem.W.fnOf "is_best_parting" "is_best_parting" (defArgs s_is_best_parting) (defBody s_is_best_parting) (defScope s_is_best_parting) .none kV4 dc4 pm4 an4 cd4 ct4), sl4⟩) (c4 : PySem.W.codeIn K cd4 "is_best_parting" = true) (k4 : PySem.W.keepIn K (.ref f4) = true)
    (a5 : PySem.W.nsIn K mainGlobals "best_parting" = some (some (.ref f5))) (l5 : K.lookup f5 = some ⟨oc5, od5, .func (PySem.W.fnOf "best_parting" "best_parting" (defArgs s_best_parting) (defBody s_best_parting) (defScope s_best_parting) .none kV5 dc5 pm5 an5 cd5 ct5), sl5⟩) (c5 : PySem.W.codeIn K cd5 "best_parting" = true) (k5 : PySem.W.keepIn K (.ref f5) = true)
    (a6 : PySem.W.nsIn K mainGlobals "_law_draw" = some (some (.ref f6))) (l6 : K.lookup f6 = some ⟨oc6, od6, .func (PySem.W.fnOf "_law_draw" "_law_draw" (defArgs sDraw) (defBody sDraw) (defScope sDraw) .none kV6 dc6 pm6 an6 cd6 ct6), sl6⟩) (c6 : PySem.W.codeIn K cd6 "_law_draw" = true) (k6 : PySem.W.keepIn K (.ref f6) = true)
    (a7 : PySem.W.nsIn K mainGlobals "_law_any" = some (some (.ref f7))) (l7 : K.lookup f7 = some ⟨oc7, od7, .func (PySem.W.fnOf "_law_any" "_law_any" (defArgs sAny) (defBody sAny) (defScope sAny) .none kV7 dc7 pm7 an7 cd7 ct7), sl7⟩) (c7 : PySem.W.codeIn K cd7 "_law_any" = true) (k7 : PySem.W.keepIn K (.ref f7) = true)
    (a8 : PySem.W.nsIn K mainGlobals "_law_mixed" = some (some (.ref f8))) (l8 : K.lookup f8 = some ⟨oc8, od8, .func (PySem.W.fnOf "_law_mixed" "_law_mixed" (defArgs s_law_mixed) (defBody s_law_mixed) (defScope s_law_mixed) .none kV8 dc8 pm8 an8 cd8 ct8), sl8⟩) (c8 : PySem.W.codeIn K cd8 "_law_mixed" = true) (k8 : PySem.W.keepIn K (.ref f8) = true)
    (a9 : PySem.W.nsIn K mainGlobals "_law_split" = some (some (.ref f9))) (l9 : K.lookup f9 = some ⟨oc9, od9, .func (PySem.W.fnOf "_law_split" "_law_split" (defArgs s_law_split) (defBody s_law_split) (defScope s_law_split) .none kV9 dc9 pm9 an9 cd9 ct9), sl9⟩) (c9 : PySem.W.codeIn K cd9 "_law_split" = true) (k9 : PySem.W.keepIn K (.ref f9) = true)
    (a10 : PySem.W.nsIn K mainGlobals "_law_least_depths" = some (some (.ref f10))) (l10 : K.lookup f10 = some ⟨oc10, od10, .func (PySem.W.fnOf "_law_least_depths" "_law_least_depths" (defArgs s_law_least_depths) (defBody s_law_least_depths) (defScope s_law_least_depths) .none kV10 dc10 pm10 an10 cd10 ct10), sl10⟩) (c10 : PySem.W.codeIn K cd10 "_law_least_depths" = true) (k10 : PySem.W.keepIn K (.ref f10) = true)
    (a11 : PySem.W.nsIn K mainGlobals "_law_best" = some (some (.ref f11))) (l11 : K.lookup f11 = some ⟨oc11, od11, .func (PySem.W.fnOf "_law_best" "_law_best" (defArgs s_law_best) (defBody s_law_best) (defScope s_law_best) .none kV11 dc11 pm11 an11 cd11 ct11), sl11⟩) (c11 : PySem.W.codeIn K cd11 "_law_best" = true) (k11 : PySem.W.keepIn K (.ref f11) = true)
    (a12 : PySem.W.nsIn K mainGlobals "_law_by_two" = some (some (.ref f12))) (l12 : K.lookup f12 = some ⟨oc12, od12, .func (PySem.W.fnOf "_law_by_two" "_law_by_two" (defArgs s_law_by_two) (defBody s_law_by_two) (defScope s_law_by_two) .none kV12 dc12 pm12 an12 cd12 ct12), sl12⟩) (c12 : PySem.W.codeIn K cd12 "_law_by_two" = true) (k12 : PySem.W.keepIn K (.ref f12) = true)
    (a13 : PySem.W.nsIn K mainGlobals "law" = some (some (.ref f13))) (l13 : K.lookup f13 = some ⟨oc13, od13, .func (PySem.W.fnOf "law" "law" (defArgs s_law) (defBody s_law) (defScope s_law) .none kV13 dc13 pm13 an13 cd13 ct13), sl13⟩) (c13 : PySem.W.codeIn K cd13 "law" = true) (k13 : PySem.W.keepIn K (.ref f13) = true)
    (z1 : PySem.W.nsIn K mainGlobals "abs" = some none)
    (z2 : PySem.W.nsIn K mainGlobals "int" = some none)
    (z3 : PySem.W.nsIn K mainGlobals "len" = some none)
    (z4 : PySem.W.nsIn K mainGlobals "range" = some none)
    (z5 : PySem.W.nsIn K mainGlobals "sum" = some none)
    (z6 : PySem.W.nsIn K mainGlobals "min" = some none)
    (z7 : PySem.W.nsIn K mainGlobals "max" = some none)
    (z8 : PySem.W.nsIn K mainGlobals "repr" = some none)
    (z9 : PySem.W.nsIn K mainGlobals "tuple" = some none)
    (z10 : PySem.W.nsIn K mainGlobals "list" = some none)
    (z11 : PySem.W.nsIn K mainGlobals "sorted" = some none)
    (z12 : PySem.W.nsIn K mainGlobals "isinstance" = some none)
    (z13 : PySem.W.nsIn K mainGlobals "bool" = some none)
    (dig : PySem.W.nsIn K cStatics "sys.int_max_str_digits" = some none)
    : ∃ fd : FuncData, (∀ (s : Shared) (v : Value), BindsTo s fd ⟨[v], []⟩ [("script", v)]) ∧ ∀ base : Heap, K.In base → base.Ns mainGlobals mg → FnG l.prog w K mg base 4 fa fd ["script"] (spLaw K) := by
  have e := hfa.symm.trans (PySem.W.mg_of X G a13)
  cases e
  have F1 := fun_mk (st := s_is_whole) l1 c1 k1
  have g1 := PySem.W.mg_of X G a1
  have b1 := F1.binds (ps := ["value"]) fun _ _ _ _ _ _ us hl => match us, hl with | [_], _ => rfl
  have F2 := fun_mk (st := s_is_number) l2 c2 k2
  have g2 := PySem.W.mg_of X G a2
  have b2 := F2.binds (ps := ["value"]) fun _ _ _ _ _ _ us hl => match us, hl with | [_], _ => rfl
  have F3 := fun_mk (st := s_least_depths) l3 c3 k3
  have g3 := PySem.W.mg_of X G a3
  have b3 := F3.binds (ps := ["x", "m"]) fun _ _ _ _ _ _ us hl => match us, hl with | [_, _], _ => rfl
  have F4 := fun_mk (st := s_is_best_parting) l4 c4 k4
  have g4 := PySem.W.mg_of X G a4
  have b4 := F4.binds (ps := ["m", "value"]) fun _ _ _ _ _ _ us hl => match us, hl with | [_, _], _ => rfl
  have F5 := fun_mk (st := s_best_parting) l5 c5 k5
  have g5 := PySem.W.mg_of X G a5
  have b5 := F5.binds (ps := ["x", "m"]) fun _ _ _ _ _ _ us hl => match us, hl with | [_, _], _ => rfl
  have F6 := fun_mk (st := sDraw) l6 c6 k6
  have g6 := PySem.W.mg_of X G a6
  have b6 := F6.binds (ps := ["script", "salt"]) fun _ _ _ _ _ _ us hl => match us, hl with | [_, _], _ => rfl
  have F7 := fun_mk (st := sAny) l7 c7 k7
  have g7 := PySem.W.mg_of X G a7
  have b7 := F7.binds (ps := ["deal", "bound"]) fun _ _ _ _ _ _ us hl => match us, hl with | [_, _], _ => rfl
  have F8 := fun_mk (st := s_law_mixed) l8 c8 k8
  have g8 := PySem.W.mg_of X G a8
  have b8 := F8.binds (ps := ["deal", "some"]) fun _ _ _ _ _ _ us hl => match us, hl with | [_, _], _ => rfl
  have F9 := fun_mk (st := s_law_split) l9 c9 k9
  have g9 := PySem.W.mg_of X G a9
  have b9 := F9.binds (ps := ["total", "many"]) fun _ _ _ _ _ _ us hl => match us, hl with | [_, _], _ => rfl
  have F10 := fun_mk (st := s_law_least_depths) l10 c10 k10
  have g10 := PySem.W.mg_of X G a10
  have b10 := F10.binds (ps := ["most", "m"]) fun _ _ _ _ _ _ us hl => match us, hl with | [_, _], _ => rfl
  have F11 := fun_mk (st := s_law_best) l11 c11 k11
  have g11 := PySem.W.mg_of X G a11
  have b11 := F11.binds (ps := ["least", "some"]) fun _ _ _ _ _ _ us hl => match us, hl with | [_, _], _ => rfl
  have F12 := fun_mk (st := s_law_by_two) l12 c12 k12
  have g12 := PySem.W.mg_of X G a12
  have b12 := F12.binds (ps := ["one", "other"]) fun _ _ _ _ _ _ us hl => match us, hl with | [_, _], _ => rfl
  have F13 := fun_mk (st := s_law) l13 c13 k13
  have g13 := PySem.W.mg_of X G a13
  have b13 := F13.binds (ps := ["script"]) fun _ _ _ _ _ _ us hl => match us, hl with | [_], _ => rfl
  have y_abs := PySem.W.mg_none_of X G z1
  have y_int := PySem.W.mg_none_of X G z2
  have y_len := PySem.W.mg_none_of X G z3
  have y_range := PySem.W.mg_none_of X G z4
  have y_sum := PySem.W.mg_none_of X G z5
  have y_min := PySem.W.mg_none_of X G z6
  have y_max := PySem.W.mg_none_of X G z7
  have y_repr := PySem.W.mg_none_of X G z8
  have y_tuple := PySem.W.mg_none_of X G z9
  have y_list := PySem.W.mg_none_of X G z10
  have y_sorted := PySem.W.mg_none_of X G z11
  have y_isinstance := PySem.W.mg_none_of X G z12
  have y_bool := PySem.W.mg_none_of X G z13
  refine ⟨PySem.W.fnOf "law" "law" (defArgs s_law) (defBody s_law) (defScope s_law) .none kV13 dc13 pm13 an13 cd13 ct13, fun s v => .of_eq rfl, fun base _ _ => ?_⟩
  have kb3 := kw_two (x := "m") (y := "value") F4 (fun _ _ _ _ _ _ _ _ => rfl) (fun _ _ _ _ _ _ _ _ => rfl) (fun _ _ _ _ _ _ _ _ => rfl)
  have kb4 := kw_two (x := "x") (y := "m") F5 (fun _ _ _ _ _ _ _ _ => rfl) (fun _ _ _ _ _ _ _ _ => rfl) (fun _ _ _ _ _ _ _ _ => rfl)
  have Z : Zs K mg := ⟨y_len, y_range, y_sum, y_min, y_max, y_repr, y_tuple, y_list, y_sorted, y_isinstance, y_int, y_bool, dig⟩
  have CW : Cal l.prog w K mg base 1 "is_whole" ["value"] spWh := ⟨f1, _, ok_is_whole (k := 0) F1 Z, b1, k1, g1⟩
  have AN := ok_any (P := l.prog) (w := w) (base := base) (k := 0) F7 y_int
  have CA : Cal l.prog w K mg base 1 "_law_any" ["deal", "bound"] spAny := ⟨f7, _, .of AN, b7, k7, g7⟩
  have C1 : Cal l.prog w K mg base 2 "is_number" ["value"] spNum := ⟨f2, _, ok_is_number (k := 0) F2 ⟨CW⟩, b2, k2, g2⟩
  have C2 : Cal l.prog w K mg base 1 "least_depths" ["x", "m"] spLD := ⟨f3, _, ok_least_depths (k := 0) F3, b3, k3, g3⟩
  exact ok_law F13 ⟨y_len, y_range, y_repr, y_tuple, y_list, y_sorted, y_isinstance, dig, ⟨f6, _, .of (ok_draw (k := 0) F6 y_abs y_int), b6, k6, g6⟩, CA, ⟨f8, _, ok_law_mixed (k := 0) F8 ⟨y_len, y_list, CA⟩, b8, k8, g8⟩, ⟨f9, _, ok_law_split (k := 0) F9 Z, b9, k9, g9⟩,
    ⟨f10, _, ok_law_least_depths (k := 0) F10 Z, b10, k10, g10⟩, ⟨f11, _, ok_law_best (k := 0) F11 Z, b11, k11, g11⟩, ⟨f12, _, ok_law_by_two (k := 0) F12 Z, b12, k12, g12⟩, ⟨f4, _, ok_is_best_parting (k := 0) F4 ⟨y_len, y_sum, y_tuple, y_isinstance, C1, C2⟩, b4, k4, g4⟩, ⟨f5, _, ok_best_parting (k := 0) F5 Z, b5, k5, g5⟩, kb3, kb4⟩
end Lw
open PySem PySem.W PyProof.Rows
set_option maxHeartbeats 0 in
theorem PySem.Challenge.cw_fewestpours_k17_whole_best_partings_holds : PySem.Challenge.rw_fewestpours_k17_whole_best_partings.Holds := by
  w_on; o_law; k_head; (case hw => w_witness2)
  k_fill
  refine Gd.walk_ofG (l := PySem.Challenge.rw_fewestpours_k17_whole_best_partings) (n := 63) (k := 4) (x := "script") (sp := fun K => Lw.spLaw K) rfl (by decide) rfl ⟨rfl, by decide, by decide⟩ (fun w h Y => PySem.W.kIn_of Y) ?F (fun _ _ a ns hl hS => ⟨a, ns, rfl, hS, hl, fun _ => rfl⟩)
  case F =>
    intro w mg fa h KX G hmg
    refine' Lw.all_mk KX G hmg ?a1 ?l1 ?c1 ?k1 ?a2 ?l2 ?c2 ?k2 ?a3 ?l3 ?c3 ?k3 ?a4 ?l4 ?c4 ?k4 ?a5 ?l5 ?c5 ?k5 ?a6 ?l6 ?c6 ?k6 ?a7 ?l7 ?c7 ?k7 ?a8 ?l8 ?c8 ?k8 ?a9 ?l9 ?c9 ?k9 ?a10 ?l10 ?c10 ?k10 ?a11 ?l11 ?c11 ?k11 ?a12 ?l12 ?c12 ?k12 ?a13 ?l13 ?c13 ?k13 ?z1 ?z2 ?z3 ?z4 ?z5 ?z6 ?z7 ?z8 ?z9 ?z10 ?z11 ?z12 ?z13 ?dig
    (case a1 => k_is)
    (case l1 => k_is)
    (case c1 => k_is)
    (case k1 => k_is)
    (case a2 => k_is)
    (case l2 => k_is)
    (case c2 => k_is)
    (case k2 => k_is)
    (case a3 => k_is)
    (case l3 => k_is)
    (case c3 => k_is)
    (case k3 => k_is)
    (case a4 => k_is)
    (case l4 => k_is)
    (case c4 => k_is)
    (case k4 => k_is)
    (case a5 => k_is)
    (case l5 => k_is)
    (case c5 => k_is)
    (case k5 => k_is)
    (case a6 => k_is)
    (case l6 => k_is)
    (case c6 => k_is)
    (case k6 => k_is)
    (case a7 => k_is)
    (case l7 => k_is)
    (case c7 => k_is)
    (case k7 => k_is)
    (case a8 => k_is)
    (case l8 => k_is)
    (case c8 => k_is)
    (case k8 => k_is)
    (case a9 => k_is)
    (case l9 => k_is)
    (case c9 => k_is)
    (case k9 => k_is)
    (case a10 => k_is)
    (case l10 => k_is)
    (case c10 => k_is)
    (case k10 => k_is)
    (case a11 => k_is)
    (case l11 => k_is)
    (case c11 => k_is)
    (case k11 => k_is)
    (case a12 => k_is)
    (case l12 => k_is)
    (case c12 => k_is)
    (case k12 => k_is)
    (case a13 => k_is)
    (case l13 => k_is)
    (case c13 => k_is)
    (case k13 => k_is)
    (case z1 => k_is)
    (case z2 => k_is)
    (case z3 => k_is)
    (case z4 => k_is)
    (case z5 => k_is)
    (case z6 => k_is)
    (case z7 => k_is)
    (case z8 => k_is)
    (case z9 => k_is)
    (case z10 => k_is)
    (case z11 => k_is)
    (case z12 => k_is)
    (case z13 => k_is)
    (case dig => k_is)
