import PyProof.Rows.All
import Wide.All
import OpenK.AllK
import Wide.FinOn
import HandS.ForMost
import HandS.Style
import HandS.Wide
import HandS.Flow
import HandS.Conv
import HandS.RaiseMore
import HandS.Evl
import HandS.Walk
import PyProof.Rows.RegFStrParts
import PySem.Challenge.RW_fewestpours_k15_whole_least_depths
set_option Elab.async false
set_option linter.all false
set_option maxRecDepth 100000
set_option maxHeartbeats 4000000
/-! promises that hold where nothing is being shown (no repr runs): what a def's text may then ask -/
namespace Gd
open PySem PySem.Spec PyProof.Rows L2
/-- no repr runs around -/
abbrev Still (A : Around) : Prop := A.guards = some []
structure FnG (P : Program) (w : World) (K : PySem.W.Frag) (mg : Str → Option Value) (base : Heap) (k : Nat) (f : Addr) (fd : FuncData) (ps : List Str) (sp : Sp) : Prop where
  len : ∀ {vs H Q E}, sp vs H Q E → vs.length = ps.length
  run : ∀ {A outer s H args us vs Q E}, Still A → Room k A → Env0 P w K mg base A outer s H → BindsTo s fd args (ps.zip us) → Vals vs us → sp vs H Q E →
    codeAny (model P w) A (.call (.ref f) args) (CR CX0 outer P w H s Q E) s
section
variable {P : Program} {w : World} {K : PySem.W.Frag} {mg : Str → Option Value} {base : Heap} {j k : Nat} {f : Addr} {fd : FuncData} {ps : List Str} {sp : Sp}
theorem FnG.of (F : FnOk P w K mg base CX0 k f fd ps sp) : FnG P w K mg base k f fd ps sp := ⟨fun h => F.len _ _ _ _ h, fun _ hr e b r h => F.run _ _ _ _ _ _ _ _ _ hr e b r h⟩
theorem FnG.mono (F : FnG P w K mg base j f fd ps sp) (h : j ≤ k) : FnG P w K mg base k f fd ps sp := ⟨F.len, fun g hr => F.run g (hr.mono h)⟩
/-- a def's promise by its body; the body may use that no repr runs -/
theorem okG {x qual : Str} {st : Stmt} {N : List Str} (F : Fun K x qual st f fd) (S : FnScope N ps (defScope st)) (len : ∀ {vs H Q E}, sp vs H Q E → vs.length = ps.length)
    (body : ∀ (cdv : Value) (A : Around) (outer : List Env) (s : Shared) (H : Hp) (vs : List V) (Q : VK) (E : XK), Still A → Room k (A.deeper (envOfC qual (defScope st) s.heap.objs.size f cdv)) → sp vs H Q E →
      ∃ t, PSs (cxOf CX0 P w K mg base N qual (defScope st) f cdv A outer s H E).nox (defBody st) t ∧ t { nx := fun _ H1 => Q .non H1, rt := Q } (start N vs) H) : FnG P w K mg base (k + 1) f fd ps sp := by
  obtain ⟨_, _, kV, doc, pm, an, cdv, ct, _, rfl, at_, code⟩ := F.ex
  constructor
  · exact len
  intro A outer s H args us vs Q E still room e0 binds rel want
  have inK := e0.mod.kin.keeps fun b o e => (e0.bs b o e).1
  have noL := e0.mod.nolimit.keeps fun b o e => (e0.bs b o e).1
  refine codeAny_call_function room.depth (inK _ _ at_) rfl S.co S.gen rfl (PySem.W.codeRec_of inK code) (binds _ _ _ _ (wpAny_newFunctionEnv_cells S.kind ?_ ?_))
  · rintro ⟨n, v⟩ hy
    exact (S.par n (List.of_mem_zip hy).1).imp id fun q => ⟨q, PySem.W.cellsFrom_some _ _ _ (.inl q)⟩
  rintro env rfl s1 made
  refine ⟨noL.keeps made.toInCall.keep, codeAny_func ?_⟩
  obtain ⟨t, ht, hq⟩ := body cdv A outer s H vs Q E still (room.deeper _) want
  have I0 := inv_start (CX := CX0) (E := E) (N := N) S room.hd e0 (len want) rel made
  refine wpAny_mono (ht.nox.run [] s1 (start N vs) H _ I0 hq) ?_ fun _ _ z => z
  rintro (_ | _ | _ | u) s2 z
  · obtain ⟨_, H2, J, q⟩ := z
    exact ⟨V.non, H2, J.os, J.bare, J.base, J.hok, rfl, q⟩
  · obtain ⟨_, _, _, z⟩ := z
    exact (show False from z).elim
  · obtain ⟨_, _, _, z⟩ := z
    exact (show False from z).elim
  · obtain ⟨v, _, H2, J, rv, q⟩ := z
    exact ⟨v, H2, J.os, J.bare, J.base, J.hok, rv, q⟩
end
section
variable {X : Cx} {k : Nat} {f : Addr} {fd : FuncData} {ps ks : List Str} {sp : Sp} {x : Str} {E : XK} {ds : List Value} {dvs : List V} {e : Expr} {es : List Expr} {t tk : TA} {p pos : Pos}
  {g : List Value → List Value → List Value} {gV : List V → List V → List V} {kws : List Keyword}
/-- what comes back from such a call -/
theorem back_of {pins : List (Addr × Obj)} {σ : L2.St} {H : Hp} {s : Shared} {Q : VK} {args : Args} (I : Inv X pins σ H s) (hx : Passes CX0 X E)
    (c : codeAny (model X.prog X.w) X.A (.call (.ref f) args) (CR CX0 X.stack X.prog X.w H s Q E) s) : wpAny (model X.prog X.w) X.A (PySem.call (.ref f) args.pos args.kw) (EP X pins σ Q) X.xe s := by
  refine wpAny_call (codeAny_mono c ?_)
  rintro (err | _ | _ | _ | u) s2 z
  · exact hx pins σ H s err s2 I z
  · exact (show False from z).elim
  · exact (show False from z).elim
  · exact (show False from z).elim
  · exact I.after z
theorem pe_callG (F : FnG X.prog X.w X.K X.mg X.base k f fd ps sp) (still : Still X.A) (hr : Room k X.A) (hg : Gl X x) (hm : X.mg x = some (.ref f)) (hk : PySem.W.keepIn X.K (.ref f) = true) (hb : Binds X.K fd ps ds) (hd : Vals dvs ds) (hx : Passes CX0 X E)
    (ha : PA X (e :: es) t) (hdb : (x == ("__debug__" : Str)) = false := by decide) (he : starEach (e :: es) X.env = (false, eval e X.env) :: starEach es X.env := by rfl) (hpl : (backTo pos (starEach es X.env)).any (·.1) = false := by rfl) :
    PE X (.Call (.Name x p) (e :: es) [] pos) (tCall sp dvs E t) := by
  constructor
  intro pins s σ H Q I h
  refine wpAny_Call_Name_kw (ld_glob I hg hm (PySem.W.callWith_K (h₀ := X.base) I.ok.mod.kin hk (thn (ha.run pos pins s σ H _ I h) ?_) he hpl) hdb)
  rintro us s1 ⟨vs, H1, I1, rel, want⟩
  have rel2 := rel.append hd
  have n2 : (us ++ ds).length = ps.length := rel2.length.symm.trans (F.len want)
  exact ⟨I1.kIn, back_of I1 hx (F.run still hr I1.env0 (hb s1 us I1.kIn n2) rel2 want)⟩
/-- f(k = v, ..): keywords alone, and behind others -/
theorem pe_kwG (F : FnG X.prog X.w X.K X.mg X.base k f fd ps sp) (still : Still X.A) (hr : Room k X.A) (hg : Gl X x) (hm : X.mg x = some (.ref f)) (hk : PySem.W.keepIn X.K (.ref f) = true) (hb : KBinds X.K fd ps ks g gV) (hx : Passes CX0 X E)
    (hkw : PK X kws tk) (hall : (backToKw pos (keywordEach kws X.env)).all (·.1.isSome) = true := by rfl) (hks : (backToKw pos (keywordEach kws X.env)).filterMap (·.1) = ks := by rfl) (hdb : (x == ("__debug__" : Str)) = false := by decide)
    (hpl : ((backTo pos (starEach [] X.env)).any (·.1) || (backToKw pos (keywordEach kws X.env)).any (·.1.isNone)) = false := by rfl) : PE X (.Call (.Name x p) [] kws pos) (tCallK sp gV E tNil tk) := by
  constructor
  intro pins s σ H Q I h
  refine wpAny_Call_Name_kw (ld_glob I hg hm (PySem.W.callWith_KW0 (h₀ := X.base) I.ok.mod.kin hk hall (thn (hkw.run pos pins s σ H _ I h) ?_) hpl) hdb)
  rintro ws s2 ⟨zs, H2, I2, rz, want⟩
  have rel2 := hb.rel (vs := []) (us := []) .nil rz
  rw [hks]
  exact ⟨I2.kIn, back_of I2 hx (F.run still hr I2.env0 (hb.to s2 [] ws I2.kIn (rel2.length.symm.trans (F.len want))) rel2 want)⟩
theorem pe_kwG1 (F : FnG X.prog X.w X.K X.mg X.base k f fd ps sp) (still : Still X.A) (hr : Room k X.A) (hg : Gl X x) (hm : X.mg x = some (.ref f)) (hk : PySem.W.keepIn X.K (.ref f) = true) (hb : KBinds X.K fd ps ks g gV) (hx : Passes CX0 X E)
    (ha : PA X (e :: es) t) (hkw : PK X kws tk) (hall : (backToKw pos (keywordEach kws X.env)).all (·.1.isSome) = true := by rfl) (hks : (backToKw pos (keywordEach kws X.env)).filterMap (·.1) = ks := by rfl) (hdb : (x == ("__debug__" : Str)) = false := by decide)
    (he : starEach (e :: es) X.env = (false, eval e X.env) :: starEach es X.env := by rfl) (hpl : ((backTo pos (starEach (e :: es) X.env)).any (·.1) || (backToKw pos (keywordEach kws X.env)).any (·.1.isNone)) = false := by rfl) :
    PE X (.Call (.Name x p) (e :: es) kws pos) (tCallK sp gV E t tk) := by
  constructor
  intro pins s σ H Q I h
  refine wpAny_Call_Name_kw (ld_glob I hg hm (PySem.W.callWith_KW (h₀ := X.base) I.ok.mod.kin hk hall (thn (ha.run pos pins s σ H _ I h) ?_) hpl he) hdb)
  rintro us s1 ⟨vs, H1, I1, rel, want⟩
  refine thn (hkw.run pos pins s1 σ H1 _ I1 want) ?_
  rintro ws s2 ⟨zs, H2, I2, rz, want⟩
  have rel2 := hb.rel rel rz
  rw [hks]
  exact ⟨I2.kIn, back_of I2 hx (F.run still hr I2.env0 (hb.to s2 us ws I2.kIn (rel2.length.symm.trans (F.len want))) rel2 want)⟩
/-- repr of data without dicts -/
def rReprD (K : PySem.W.Frag) : List V → Hp → VK → Prop := fun vs H Q => ∃ x d, vs = [x] ∧ Dp K H x d ∧ d.showable = true ∧ d.hasDict = false ∧ d.depth ≤ 20 ∧ d.shown.length ≤ sizeLine ∧ Q (.str d.shown) H
theorem call_reprD (still : Still X.A) (hu : X.A.units + 64 < cLine) : CallR X (.builtin "repr") (rReprD X.K) := by
  rintro pins s σ H vs us Q I rel ⟨x, d, rfl, hd, sh, nd, dp, len, want⟩
  cases rel with
  | cons rx rn =>
    cases rn
    rename_i u
    obtain ⟨as, reads⟩ := Dp.reads I d x u hd rx
    have fin : ∀ (h2 : Heap) (t tk : Nat), (∀ b o, s.heap.get? b = some o → h2.get? b = some o) → EP X pins σ Q (.str d.shown t) { s with heap := h2, toks := tk } := fun h2 t tk keep => ⟨.str _, H, I.kept keep, ⟨_, rfl⟩, want⟩
    cases hd with
    | non =>
      cases rx
      exact PySem.P.repr_of_none (fin s.heap _ _ fun _ _ e => e)
    | bl b =>
      cases rx
      exact PySem.P.repr_of_bool (fin s.heap _ _ fun _ _ e => e)
    | int i =>
      obtain ⟨t, rfl⟩ := rx
      exact PySem.P.repr_of_int (of_decide_eq_true sh) (fin s.heap _ _ fun _ _ e => e)
    | str z =>
      obtain ⟨t, rfl⟩ := rx
      exact PySem.P.repr_of_str (fin s.heap _ _ fun _ _ e => e) len
    | lst hs hall =>
      obtain rfl : u = Value.ref _ := rx
      exact repr_of_reads' reads sh (PyData.noDict_hsm nd) still (by omega) (fun _ _ e => e) (fun h2 t tk keep => fin h2 t tk keep) len
    | tup hs hall =>
      obtain rfl : u = Value.ref _ := rx
      exact repr_of_reads' reads sh (PyData.noDict_hsm nd) still (by omega) (fun _ _ e => e) (fun h2 t tk keep => fin h2 t tk keep) len
end
/-- the end: as the layer's own, from a promise that holds where no repr runs -/
theorem law_callG {P : Program} {w : World} {K : PySem.W.Frag} {mg mb : Str → Option Value} {k : Nat} {fa a : Addr} {fd : FuncData} {x : Str} {sp : Sp} {s : Shared} {vs : List Value} {ns : List Int}
    (inK : K.In s.heap) (names : s.heap.Ns mainGlobals mg) (blt : s.heap.Ns builtinsNs mb) (bltIs : ∀ x : Str, x ≠ "__name__" → mb x = bootBuiltins x) (noLim : s.heap.NoLimit) (noGen : s.gens = #[])
    (script : s.heap.get? a = some { cls := .type "list", data := .seq vs.toArray }) (areI : IntsAre vs ns) (len : ns.length ≤ sizeLine) (room : Room k callerA)
    (F : ∀ base : Heap, K.In base → base.Ns mainGlobals mg → FnG P w K mg base k fa fd [x] sp) (binds : ∀ (s : Shared) (u : Value), BindsTo s fd ⟨[u], []⟩ [(x, u)])
    (want : ∀ H : Hp, SqL K H a (ns.map V.int) → sp [.ref a] H (fun v _ => v = .bl true) fun _ _ _ => False) :
    codeAny (model P w) callerA (.call (.ref fa) ⟨[.ref a], []⟩) (fun r s2 => r = .ok (.ret (.bool true)) ∧ OldK s.heap s2.heap ∧ s2.os = s.os ∧ AllBare s2.gens) s := by
  -- over any abstract heap that tracks at most the script
  suffices main : ∀ H : Hp, (∀ b, H b = none ∨ b = a ∧ K.lookup a = none ∧ ∃ o xs, H b = some (.frz o (.lst xs))) → SqL K H a (ns.map V.int) → HOk P w H s.heap →
      codeAny (model P w) callerA (.call (.ref fa) ⟨[.ref a], []⟩) (fun r s2 => r = .ok (.ret (.bool true)) ∧ OldK s.heap s2.heap ∧ s2.os = s.os ∧ AllBare s2.gens) s by
    rcases own : K.lookup a with _ | o
    · refine main (fun b => if b = a then some (.frz { cls := .type "list", data := .seq vs.toArray } (.lst (ns.map V.int))) else none) (fun b => ?_) (.inl (.inr ⟨_, if_pos rfl⟩)) fun b u z => ?_
      · by_cases e : b = a
        · exact .inr ⟨e, own, _, _, if_pos e⟩
        · exact .inl (if_neg e)
      · by_cases e : b = a
        · subst e
          cases (if_pos rfl).symm.trans z
          exact ⟨script, (List.length_map (f := V.int)) ▸ len, vs, _, vals_ints areI, script⟩
        · cases (if_neg e).symm.trans z
    · have same := (inK a o own).symm.trans script
      cases same
      refine main (fun _ => none) (fun _ => .inl rfl) (.inr ⟨_, vs.toArray, _, own, rfl, rfl, rfl, ?_, by simpa using vals_ints areI⟩) fun b u z => by cases z
      rw [List.size_toArray, areI.length]
      exact len
  intro H few at_ hok
  have shown : ∀ {b : Addr} {o : Obj}, s.heap.get? b = some o → H b = none → (hidT s.heap H).get? b = some o := fun e n => hidT_get e n
  -- what is tracked is no namespace, and none of the module's own
  have dicts : ∀ {b : Addr} {o : Obj} {es : Array DictEntry} {ep : Nat}, s.heap.get? b = some o → o.data = .dict es ep → H b = none := by
    intro b o es ep e d
    rcases few b with z | ⟨rfl, _⟩
    · exact z
    · cases e.symm.trans script
      cases d
  have spaces : ∀ {b : Addr} {m : Str → Option Value}, s.heap.Ns b m → (hidT s.heap H).Ns b m := fun ⟨o, es, ep, e, d, r⟩ => ⟨o, es, ep, shown e (dicts e d), d, r⟩
  have inB : K.In (hidT s.heap H) := fun b o e => by
    refine shown (inK b o e) ?_
    rcases few b with z | ⟨rfl, no, _⟩
    · exact z
    · cases no.symm.trans e
  have modB : Mod K mg (hidT s.heap H) := ⟨inB, spaces names, ⟨mb, spaces blt, bltIs⟩, noLim.elim fun mc z => ⟨mc, spaces z.1, z.2⟩⟩
  have env : Env0 P w K mg (hidT s.heap H) callerA [] s H := ⟨rfl, modB, fun _ _ => of_hidT, Nat.le_of_eq (hidT_size _ _), trivial, fun b z => absurd z List.not_mem_nil, hok, .of_eq noGen⟩
  refine codeAny_mono ((F _ inB (spaces names)).run (us := [.ref a]) (vs := [.ref a]) rfl room env (binds s (.ref a)) (.cons rfl .nil) (want H at_)) ?_
  rintro (err | _ | _ | _ | u) s2 z
  · exact (show False from z).elim
  · exact (show False from z).elim
  · exact (show False from z).elim
  · exact (show False from z).elim
  obtain ⟨v, H2, os, bare, un, hok2, rel, rfl⟩ := z
  cases (show u = Value.bool true from rel)
  refine ⟨rfl, OldK.of_keep fun b o e => ?_, os, bare⟩
  rcases few b with z | ⟨_, _, ob, xs, z⟩
  · exact un.keep b o e z (fun y => absurd (show b ∈ ([] : List Addr) from y) List.not_mem_nil) List.not_mem_nil
  · have e1 := (hok b _ z).1.symm.trans e
    cases e1
    exact (hok2 b _ (un.frzs b _ _ z)).1
theorem walk_ofG {l : PySem.W.OpenLaw} {n k : Nat} {q : Program} {loose : List Str} {XP : (Str → Option Value) → Heap → Prop} {YP : World → Heap → Prop} {d : DefRec} {K : Params → PySem.W.Frag} {sp : PySem.W.Frag → Sp} {x : Str}
    (hn : l.most = some n) (hn2 : n ≤ sizeLine) (hdf : d.params.defaults = []) (room : Room k callerA) (hY : ∀ (w : World) (h : Heap), YP w h → (K w.params).In h)
    (F : ∀ (w : World) (mg : Str → Option Value) (fa : Addr) (h : Heap), (K w.params).In h → h.Ns mainGlobals mg → mg d.name = some (.ref fa) →
      ∃ fd : FuncData, (∀ (s : Shared) (u : Value), BindsTo s fd ⟨[u], []⟩ [(x, u)]) ∧ ∀ base : Heap, (K w.params).In base → base.Ns mainGlobals mg → FnG l.prog w (K w.params) mg base k fa fd [x] (sp (K w.params)))
    (want : ∀ (K : PySem.W.Frag) (H : Hp) (a : Addr) (ns : List Int), ns.length ≤ n → SqL K H a (ns.map V.int) → sp K [.ref a] H (fun v _ => v = .bl true) fun _ _ _ => False) :
    PySem.W.WalkO q loose XP YP l.row.toRowW d [] (fun f vs => PySem.call f vs) := by
  refine Att.attach_call hn hdf ?_
  intro w s₀ s mg mb fa o pm cd doc a vs ns G Y ho hd hcd hmg hobj hints hlen hg
  obtain ⟨fd, hb, hF⟩ := F w mg fa _ (hY w _ Y) G.T.g hmg
  exact law_callG (hY w _ Y) G.T.g G.T.b G.T.builtins G.T.nolimit hg hobj hints (Nat.le_trans hlen hn2) room hF hb fun H at_ => want _ H a ns hlen at_
end Gd
/-! the layer's rules with the written part said: so they stand within comprehensions, too -/
namespace Gd
open PySem PySem.Spec PyProof.Rows L2
section
variable {X : Cx} {K : PySem.W.Frag} {tg l e : Expr} {tl te : TE} {pos : Pos}
theorem ixLK (h : X.K = K) : IxR X (rIxL K) := h ▸ ix_list
theorem ixTK (h : X.K = K) : IxR X (rIxT K) := h ▸ ix_tup
theorem slLK (h : X.K = K) : SlR X (rSlL K) := h ▸ sl_list
def rLenK (K : PySem.W.Frag) : List V → Hp → VK → Prop := fun vs H Q => ∃ p ys, vs = [.ref p] ∧ (SqL K H p ys ∨ SqT K H p ys) ∧ Q (.int ys.length) H
theorem lenK (h : X.K = K) : CallR X (.builtin "len") (rLenK K) := by
  subst h
  exact call_len_seq
def rTupK (K : PySem.W.Frag) : List V → Hp → VK → Prop := fun vs H Q => ∃ p ys, vs = [.ref p] ∧ ((SqL K H p ys ∧ ∀ l, H l = none → Q (.ref l) (upd H l (.tup ys))) ∨ (SqT K H p ys ∧ Q (.ref p) H))
theorem tupK (h : X.K = K) : CallR X (.type "tuple") (rTupK K) := by
  subst h
  exact call_tuple_of
def rLstK (K : PySem.W.Frag) : List V → Hp → VK → Prop := fun vs H Q => ∃ p ys, vs = [.ref p] ∧ (SqL K H p ys ∨ SqT K H p ys) ∧ ∀ l, H l = none → Q (.ref l) (upd H l (.lst ys))
theorem lstK (h : X.K = K) : CallR X (.type "list") (rLstK K) := by
  subst h
  exact call_list_of
theorem sumK (h : X.K = K) (hc : X.calm = true) : CallR X (.builtin "sum") (rSum K) := h ▸ cr_sum hc
theorem minK (h : X.K = K) (hc : X.calm = true) : CallR X (.builtin "min") (rMin K) := h ▸ cr_min hc
theorem maxK (h : X.K = K) (hc : X.calm = true) : CallR X (.builtin "max") (rMax K) := h ▸ cr_max hc
theorem sortK (h : X.K = K) : CallR X (.builtin "sorted") (rSorted K) := h ▸ cr_sorted
theorem reprK (h : X.K = K) (still : Still X.A) (hu : X.A.units + 64 < cLine) : CallR X (.builtin "repr") (rReprD K) := h ▸ call_reprD still hu
theorem eqK (h : X.K = K) (hu : X.A.units + 64 < cLine) : OpR X (compareOp .Eq) (rEqD K) := h ▸ op_eqD hu
theorem neK (h : X.K = K) (hu : X.A.units + 64 < cLine) : OpR X (compareOp .NotEq) (rNeD K) := h ▸ op_neD hu
theorem inK (h : X.K = K) : OpR X (compareOp .In) (rIn K false) := h ▸ op_in_seq
theorem ninK (h : X.K = K) : OpR X (compareOp .NotIn) (rIn K true) := h ▸ op_notIn_seq
theorem pi_listK (h : X.K = K) (hl : PE X l tl) : PI X tg l (iList K tl) := h ▸ pi_list hl
theorem pi_tupK (h : X.K = K) (hl : PE X l tl) : PI X tg l (iTup K tl) := h ▸ pi_tup hl
theorem revLK {k : Nat} {p1 p2 p3 : Pos} (h : X.K = K) (he : PE X e te) : PE X (.Subscript e (.Slice none none (some (.UnaryOp .USub (.Constant (.int 1) k p1) p2)) p3) pos) (tRevL K te) := h ▸ pe_revL he
end
/-- what is free in a block is known around it -/
def FreeIn (sc : Scope) : List (Str × NameKind) → Prop
  | [] => True
  | (x, .free) :: r => (sc.names.lookup x = some .cell ∨ sc.names.lookup x = some .free) ∧ FreeIn sc r
  | (_, .local) :: r => FreeIn sc r
  | (_, .cell) :: r => FreeIn sc r
  | (_, .globalImplicit) :: r => FreeIn sc r
  | (_, .globalExplicit) :: r => FreeIn sc r
theorem FreeIn.at {sc : Scope} {ns : List (Str × NameKind)} : ∀ {y : Str × NameKind}, FreeIn sc ns → y ∈ ns → y.2 = .free → sc.names.lookup y.1 = some .cell ∨ sc.names.lookup y.1 = some .free := by
  induction ns with
  | nil => exact fun _ hy _ => absurd hy List.not_mem_nil
  | cons z r ih =>
    intro y h hy hk
    obtain ⟨x, k⟩ := z
    rcases List.mem_cons.mp hy with e | hm
    · subst e
      obtain rfl : k = .free := hk
      exact h.1
    · clear hy
      cases k with
      | free => exact ih h.2 hm hk
      | «local» => exact ih h hm hk
      | cell => exact ih h hm hk
      | globalExplicit => exact ih h hm hk
      | globalImplicit => exact ih h hm hk
theorem blk_in {N : List Str} {sc scope : Scope} {own : List (Str × Nat)} (h : blkC N scope scope own = true) (f : FreeIn sc scope.names) : BlkOk N sc scope own :=
  let b := blkOk_by h
  ⟨b.kind, b.uniq, b.ix, fun _ hy e => f.at hy e, b.own⟩
/-- a def that may be called: where it stands, and its promise -/
structure Cal (P : Program) (w : World) (K : PySem.W.Frag) (mg : Str → Option Value) (base : Heap) (k : Nat) (x : Str) (ps : List Str) (sp : Sp) where
  f : Addr
  fd : FuncData
  ok : FnG P w K mg base k f fd ps sp
  b : Binds K fd ps []
  kp : PySem.W.keepIn K (.ref f) = true
  g : mg x = some (.ref f)
section
variable {X : Cx} {k j : Nat} {ps ks : List Str} {sp : Sp} {x : Str} {e : Expr} {es : List Expr} {t tk : TA} {p pos : Pos} {g : List Value → List Value → List Value} {gV : List V → List V → List V} {kws : List Keyword}
theorem pe_cal (C : Cal X.prog X.w X.K X.mg X.base k x ps sp) (still : Still X.A) (hr : Room k X.A) (ha : PA X (e :: es) t) (hg : Gl X x := by rfl) (hdb : (x == ("__debug__" : Str)) = false := by decide)
    (he : starEach (e :: es) X.env = (false, eval e X.env) :: starEach es X.env := by rfl) (hpl : (backTo pos (starEach es X.env)).any (·.1) = false := by rfl) : PE X (.Call (.Name x p) (e :: es) [] pos) (tCall sp [] E0 t) :=
  pe_callG C.ok still hr hg C.g C.kp C.b .nil pass0 ha hdb he hpl
theorem pe_calK (C : Cal X.prog X.w X.K X.mg X.base k x ps sp) (hb : KBinds X.K C.fd ps ks g gV) (still : Still X.A) (hr : Room k X.A) (hkw : PK X kws tk) (hg : Gl X x := by rfl) (hall : (backToKw pos (keywordEach kws X.env)).all (·.1.isSome) = true := by rfl)
    (hks : (backToKw pos (keywordEach kws X.env)).filterMap (·.1) = ks := by rfl) (hdb : (x == ("__debug__" : Str)) = false := by decide) (hpl : ((backTo pos (starEach [] X.env)).any (·.1) || (backToKw pos (keywordEach kws X.env)).any (·.1.isNone)) = false := by rfl) :
    PE X (.Call (.Name x p) [] kws pos) (tCallK sp gV E0 tNil tk) := pe_kwG C.ok still hr hg C.g C.kp hb pass0 hkw hall hks hdb hpl
end
end Gd
/-! small data: what repr shows of it -/
namespace Gd
open PySem PySem.Spec PyProof.Rows L2
mutual
/-- data of at most so much depth and weight, its ints of twelve digits -/
inductive Sm : Nat → Nat → PyData → Prop
  | non {d : Nat} : Sm d 0 .none
  | bl {d : Nat} (b : Bool) : Sm d 0 (.bool b)
  | int {d : Nat} {i : Int} (h : -999999999999 ≤ i) (h' : i ≤ 999999999999) : Sm d 40 (.int i)
  | str {d : Nat} {x : Str} (h : x.cps.all (· < 0x110000) = true) : Sm d x.cps.size (.str x)
  | lst {d n : Nat} {xs : List PyData} (h : SmAll d n xs) : Sm (d + 1) n (.list xs)
  | tup {d n : Nat} {xs : List PyData} (h : SmAll d n xs) : Sm (d + 1) n (.tuple xs)
inductive SmAll : Nat → Nat → List PyData → Prop
  | nil {d : Nat} : SmAll d 0 []
  | cons {d n m : Nat} {x : PyData} {xs : List PyData} (h : Sm d n x) (r : SmAll d m xs) : SmAll d (n + 1 + m) (x :: xs)
end
structure SmOk (d n : Nat) (x : PyData) : Prop where
  lay : x.canLay0 = true
  dep : x.depth ≤ d
  wgt : x.weight ≤ n
  few : x.intsShort 13 = true
  shw : x.showable = true
structure SmOkAll (d n : Nat) (x : List PyData) : Prop where
  lay : PyData.canLayAll0 x = true
  dep : PyData.depthAll x ≤ d
  wgt : PyData.weightAll x ≤ n
  few : PyData.intsShortAll 13 x = true
  shw : PyData.showableAll x = true
mutual
theorem Sm.ok {d n : Nat} {x : PyData} : Sm d n x → SmOk d n x
  | .non => ⟨rfl, Nat.zero_le _, Nat.zero_le _, rfl, rfl⟩
  | .bl b => ⟨rfl, Nat.zero_le _, Nat.zero_le _, rfl, rfl⟩
  | .int (i := i) h h' => by
    have l40 : i.natAbs < 2 ^ 40 := by
      have : i.natAbs ≤ 999999999999 := by omega
      exact Nat.lt_of_le_of_lt this (by decide)
    have lg : i ≠ 0 → i.natAbs.log2 < 40 := fun h0 => (Nat.log2_lt (by omega)).mpr l40
    refine ⟨rfl, Nat.zero_le _, ?_, decide_eq_true (PyData.shown_int_le2 h h'), ?_⟩
    · show (if i == 0 then 0 else i.natAbs.log2 + 1) ≤ 40
      by_cases h0 : i = 0
      · subst h0
        decide
      · rw [if_neg (by simpa using h0)]
        exact lg h0
    · show decide (i.natAbs.log2 < 1920) = true
      by_cases h0 : i = 0
      · subst h0
        decide
      · exact decide_eq_true (Nat.lt_trans (lg h0) (by decide))
  | .str h => ⟨h, Nat.zero_le _, Nat.le_refl _, rfl, rfl⟩
  | .lst h => by
    have o := h.ok
    refine ⟨by simpa only [PyData.canLay0] using o.lay, ?_, by simpa only [PyData.weight] using o.wgt, by simpa only [PyData.intsShort] using o.few, by simpa only [PyData.showable] using o.shw⟩
    simp only [PyData.depth]
    have := o.dep
    omega
  | .tup h => by
    have o := h.ok
    refine ⟨by simpa only [PyData.canLay0] using o.lay, ?_, by simpa only [PyData.weight] using o.wgt, by simpa only [PyData.intsShort] using o.few, by simpa only [PyData.showable] using o.shw⟩
    simp only [PyData.depth]
    have := o.dep
    omega
theorem SmAll.ok {d n : Nat} {x : List PyData} : SmAll d n x → SmOkAll d n x
  | .nil => ⟨rfl, Nat.zero_le _, Nat.zero_le _, rfl, rfl⟩
  | .cons h r => by
    have a := h.ok
    have b := r.ok
    have a2 := a.dep
    have b2 := b.dep
    have a3 := a.wgt
    have b3 := b.wgt
    refine ⟨by simp only [PyData.canLayAll0, a.lay, b.lay, Bool.and_self], ?_, ?_, by simp only [PyData.intsShortAll, a.few, b.few, Bool.and_self], by simp only [PyData.showableAll, a.shw, b.shw, Bool.and_self]⟩
    · simp only [PyData.depthAll]
      omega
    · simp only [PyData.weightAll]
      omega
end
def rReprS (K : PySem.W.Frag) : List V → Hp → VK → Prop := fun vs H Q => ∃ (x : V) (d : PyData) (dp n : Nat), vs = [x] ∧ Dp K H x d ∧ Sm dp n d ∧ dp ≤ 20 ∧ n ≤ 2 ^ 20 ∧ Q (.str d.shown) H
theorem reprS {X : Cx} {K : PySem.W.Frag} (h : X.K = K) (still : Still X.A) (hu : X.A.units + 64 < cLine) : CallR X (.builtin "repr") (rReprS K) := by
  subst h
  rintro pins s σ H vs us Q I rel ⟨x, d, dp, n, rfl, hd, sm, h1, h2, q⟩
  have o := sm.ok
  have o2 := o.dep
  have lay : PyData.layable0 d = true := by
    unfold PyData.layable0
    rw [o.lay, decide_eq_true (show d.depth ≤ 64 by omega), decide_eq_true (Nat.le_trans o.wgt h2)]
    rfl
  refine call_reprD still hu pins s σ H [x] us Q I rel ⟨x, d, rfl, hd, o.shw, PyData.hasDict_of_layable lay, by omega, Nat.le_trans (shown_le13 lay o.few) (by decide), q⟩
/-- lists of ints -/
theorem smAll_ints {d : Nat} : ∀ ns : List Int, (∀ i ∈ ns, -999999999999 ≤ i ∧ i ≤ 999999999999) → SmAll d (41 * ns.length) (ns.map PyData.int)
  | [], _ => .nil
  | i :: ns, h => by
    have a := smAll_ints (d := d) ns fun j hj => h j (List.mem_cons_of_mem _ hj)
    obtain ⟨b1, b2⟩ := h i (by simp)
    have := SmAll.cons (d := d) (.int b1 b2) a
    rw [List.length_cons, show 41 * (ns.length + 1) = 40 + 1 + 41 * ns.length by omega]
    exact this
theorem dpAll_ints {K : PySem.W.Frag} {H : Hp} : ∀ ns : List Int, DpAll K H (ns.map V.int) (ns.map PyData.int)
  | [] => .nil
  | i :: ns => .cons (.int i) (dpAll_ints ns)
end Gd
/-! the least depths: plain Lean -/
namespace Ld
def lvl (x m : Nat) : Nat → Nat → Nat → Nat × Nat
  | 0, l, f => (l, f)
  | n + 1, l, f => if f * m ≤ x then lvl x m n (l + 1) (f * m) else (l, f)
def LD (x m : Nat) : Nat :=
  if x = 0 then 0 else (lvl x m x 0 1).1 * x + (x - (lvl x m x 0 1).2) + ((x - (lvl x m x 0 1).2) + m - 2) / (m - 1)
theorem lvl_spec {x m : Nat} (hm : 2 ≤ m) : ∀ (n l f : Nat), 1 ≤ f → f ≤ x → x ≤ n + f → f = m ^ l → (lvl x m n l f).2 = m ^ (lvl x m n l f).1 ∧ (lvl x m n l f).2 ≤ x ∧ x < (lvl x m n l f).2 * m
  | 0, l, f, h1, h2, h3, h4 => ⟨h4, h2, by
    show x < f * m
    have : f * 2 ≤ f * m := Nat.mul_le_mul_left f hm
    omega⟩
  | n + 1, l, f, h1, h2, h3, h4 => by
    unfold lvl
    by_cases h : f * m ≤ x
    · rw [if_pos h]
      have : f * 2 ≤ f * m := Nat.mul_le_mul_left f hm
      exact lvl_spec hm n (l + 1) (f * m) (by omega) h (by omega) (by rw [h4, Nat.pow_succ])
    · rw [if_neg h]
      exact ⟨h4, h2, by show x < f * m; omega⟩
theorem level_one {x m j k : Nat} (hm : 2 ≤ m) (h1 : m ^ j ≤ x) (h2 : x < m ^ j * m) (h3 : m ^ k ≤ x) (h4 : x < m ^ k * m) : j = k := by
  rcases Nat.lt_trichotomy j k with h | h | h
  · have : m ^ (j + 1) ≤ m ^ k := Nat.pow_le_pow_right (by omega) h
    rw [Nat.pow_succ] at this
    omega
  · exact h
  · have : m ^ (k + 1) ≤ m ^ j := Nat.pow_le_pow_right (by omega) h
    rw [Nat.pow_succ] at this
    omega
theorem LD_eq {x m k : Nat} (hm : 2 ≤ m) (h1 : m ^ k ≤ x) (h2 : x < m ^ k * m) : LD x m = k * x + (x - m ^ k) + ((x - m ^ k) + m - 2) / (m - 1) := by
  have hp : 0 < m ^ k := Nat.pow_pos (by omega)
  obtain ⟨s1, s2, s3⟩ := lvl_spec (x := x) hm x 0 1 (Nat.le_refl _) (by omega) (by omega) rfl
  rw [s1] at s2 s3
  have e := level_one hm s2 s3 h1 h2
  unfold LD
  rw [if_neg (by omega), s1, e]
theorem LD_at {x m : Nat} (hm : 2 ≤ m) (hx : 1 ≤ x) : ∃ k, m ^ k ≤ x ∧ x < m ^ k * m ∧ LD x m = k * x + (x - m ^ k) + ((x - m ^ k) + m - 2) / (m - 1) := by
  obtain ⟨s1, s2, s3⟩ := lvl_spec (x := x) hm x 0 1 (Nat.le_refl _) (by omega) (by omega) rfl
  rw [s1] at s2 s3
  exact ⟨_, s2, s3, LD_eq hm s2 s3⟩
/-- y parted by m - 1, rounded up -/
theorem up {m d g : Nat} (hm : 2 ≤ m) (hg : g < m - 1) : (d * (m - 1) + g + m - 2) / (m - 1) = d + (if g = 0 then 0 else 1) := by
  have h0 : 0 < m - 1 := by omega
  by_cases h : g = 0
  · subst h
    rw [if_pos rfl, show d * (m - 1) + 0 + m - 2 = (m - 2) + (m - 1) * d by rw [Nat.mul_comm]; omega, Nat.add_mul_div_left _ _ h0, Nat.div_eq_of_lt (by omega)]
    omega
  · rw [if_neg h, show d * (m - 1) + g + m - 2 = (g - 1) + (m - 1) * (d + 1) by rw [Nat.mul_add, Nat.mul_comm (m - 1) d]; omega, Nat.add_mul_div_left _ _ h0, Nat.div_eq_of_lt (by omega)]
    omega
theorem rule_end {m k d x : Nat} (hm : 2 ≤ m) (hd : d ≤ m ^ k) (hx : x = m ^ k + d * (m - 1)) : LD x m = k * x + d * m := by
  have hp : 0 < m ^ k := Nat.pow_pos (by omega)
  by_cases h : d = m ^ k
  · have e : x = m ^ (k + 1) := by
      rw [hx, h, Nat.pow_succ]
      have : m ^ k * (m - 1) + m ^ k * 1 = m ^ k * m := by rw [← Nat.mul_add, show m - 1 + 1 = m by omega]
      omega
    rw [LD_eq (k := k + 1) hm (by omega) (by rw [e]; have : m ^ (k + 1) * 2 ≤ m ^ (k + 1) * m := Nat.mul_le_mul_left _ hm; have : 0 < m ^ (k + 1) := Nat.pow_pos (by omega); omega)]
    rw [← e, Nat.sub_self, show (0 + m - 2) / (m - 1) = 0 from Nat.div_eq_of_lt (by omega)]
    have h2 : d * m = x := by rw [h, e, Nat.pow_succ]
    rw [h2, Nat.add_mul]
    omega
  · have h1 : d * (m - 1) < m ^ k * (m - 1) := Nat.mul_lt_mul_of_pos_right (by omega) (by omega)
    have h2 : m ^ k * (m - 1) + m ^ k * 1 = m ^ k * m := by rw [← Nat.mul_add, show m - 1 + 1 = m by omega]
    rw [LD_eq (k := k) hm (by omega) (by omega), show x - m ^ k = d * (m - 1) + 0 by omega, up hm (by omega), if_pos rfl]
    have h3 : d * (m - 1) + d * 1 = d * m := by rw [← Nat.mul_add, show m - 1 + 1 = m by omega]
    omega
theorem rule_part {m k d g x : Nat} (hm : 2 ≤ m) (hd : d < m ^ k) (hg : 0 < g) (hg2 : g < m - 1) (hx : x = m ^ k + d * (m - 1) + g) : LD x m = k * x + d * m + g + 1 := by
  have h1 : (d + 1) * (m - 1) ≤ m ^ k * (m - 1) := Nat.mul_le_mul_right _ hd
  have h2 : m ^ k * (m - 1) + m ^ k * 1 = m ^ k * m := by rw [← Nat.mul_add, show m - 1 + 1 = m by omega]
  rw [Nat.add_mul] at h1
  rw [LD_eq (k := k) hm (by omega) (by omega), show x - m ^ k = d * (m - 1) + g by omega, up hm hg2, if_neg (by omega)]
  have h3 : d * (m - 1) + d * 1 = d * m := by rw [← Nat.mul_add, show m - 1 + 1 = m by omega]
  omega
/-! ### sums -/
theorem div_bounds {a b : Nat} (hb : 0 < b) : a ≤ (a + b - 1) / b * b ∧ (a + b - 1) / b * b ≤ a + b - 1 := by
  have h1 := Nat.div_add_mod (a + b - 1) b
  have h2 := Nat.mod_lt (a + b - 1) hb
  rw [Nat.mul_comm] at h1
  constructor <;> omega
/-- m - 1 times the least depths lie close above the lines -/
theorem line_at {x m k : Nat} (hm : 2 ≤ m) (h1 : m ^ k ≤ x) (h2 : x < m ^ k * m) : (k * (m - 1)) * x + (x - m ^ k) * m ≤ (m - 1) * LD x m ∧ (m - 1) * LD x m ≤ (k * (m - 1)) * x + (x - m ^ k) * m + (m - 2) := by
  rw [LD_eq hm h1 h2]
  obtain ⟨b1, b2⟩ := div_bounds (a := x - m ^ k) (b := m - 1) (by omega)
  rw [show x - m ^ k + (m - 1) - 1 = x - m ^ k + m - 2 by omega] at b1 b2
  generalize x - m ^ k = y at *
  generalize (y + m - 2) / (m - 1) = z at *
  obtain ⟨c, rfl⟩ : ∃ c, m = c + 1 := ⟨m - 1, by omega⟩
  rw [show c + 1 - 1 = c by omega] at *
  have e : c * (k * x + y + z) = k * c * x + c * y + z * c := by grind
  have e2 : y * (c + 1) = c * y + y := by grind
  rw [e, e2]
  constructor <;> omega
theorem line_any {x m : Nat} (hm : 2 ≤ m) (hx : 1 ≤ x) (k : Nat) : (k * (m - 1)) * x + x * m ≤ (m - 1) * LD x m + m ^ k * m := by
  obtain ⟨j, h1, h2, _⟩ := LD_at hm hx
  have hl := (line_at hm h1 h2).1
  have top : (j * (m - 1)) * x + x * m ≤ (m - 1) * LD x m + m ^ j * m := by
    have e : (x - m ^ j) * m + m ^ j * m = x * m := by rw [← Nat.add_mul, Nat.sub_add_cancel h1]
    omega
  -- up from j, down from j
  have hi : ∀ n, ((j + n) * (m - 1)) * x + x * m ≤ (m - 1) * LD x m + m ^ (j + n) * m := by
    intro n
    induction n with
    | zero => exact top
    | succ n ih =>
      have g : x ≤ m ^ (j + n) * m := by
        have : m ^ j ≤ m ^ (j + n) := Nat.pow_le_pow_right (by omega) (by omega)
        have := Nat.mul_le_mul_right m this
        omega
      have e1 : ((j + (n + 1)) * (m - 1)) * x = ((j + n) * (m - 1)) * x + (m - 1) * x := by rw [← Nat.add_assoc, Nat.add_mul (j + n) 1, Nat.one_mul, Nat.add_mul]
      have e2 : m ^ (j + (n + 1)) * m = m ^ (j + n) * m + (m - 1) * (m ^ (j + n) * m) := by
        rw [← Nat.add_assoc, Nat.pow_succ]
        generalize m ^ (j + n) * m = q
        obtain ⟨c, rfl⟩ : ∃ c, m = c + 1 := ⟨m - 1, by omega⟩
        rw [show c + 1 - 1 = c by omega]
        grind
      have e3 := Nat.mul_le_mul_left (m - 1) g
      omega
  have lo : ∀ n, n ≤ j → ((j - n) * (m - 1)) * x + x * m ≤ (m - 1) * LD x m + m ^ (j - n) * m := by
    intro n
    induction n with
    | zero => intro _; exact top
    | succ n ih =>
      intro hn
      have ih := ih (by omega)
      obtain ⟨i, hi⟩ : ∃ i, j - n = i + 1 := ⟨j - n - 1, by omega⟩
      have e0 : j - (n + 1) = i := by omega
      rw [hi] at ih
      rw [e0]
      have g : m ^ i * m ≤ x := by
        rw [← Nat.pow_succ]
        exact Nat.le_trans (Nat.pow_le_pow_right (by omega) (by omega)) h1
      have e1 : ((i + 1) * (m - 1)) * x = (i * (m - 1)) * x + (m - 1) * x := by rw [Nat.add_mul i 1, Nat.one_mul, Nat.add_mul]
      have e2 : m ^ (i + 1) * m = m ^ i * m + (m - 1) * (m ^ i * m) := by
        rw [Nat.pow_succ]
        generalize m ^ i * m = q
        obtain ⟨c, rfl⟩ : ∃ c, m = c + 1 := ⟨m - 1, by omega⟩
        rw [show c + 1 - 1 = c by omega]
        grind
      have e3 := Nat.mul_le_mul_left (m - 1) g
      omega
  rcases Nat.le_total j k with h | h
  · have := hi (k - j)
    rwa [show j + (k - j) = k by omega] at this
  · have := lo (j - k) (by omega)
    rwa [show j - (j - k) = k by omega] at this
theorem LD_zero (m : Nat) : LD 0 m = 0 := if_pos rfl
def sumL (m : Nat) : List Nat → Nat
  | [] => 0
  | x :: xs => LD x m + sumL m xs
theorem sum_line {m : Nat} (hm : 2 ≤ m) (k : Nat) : ∀ xs : List Nat, (k * (m - 1)) * xs.sum + xs.sum * m ≤ (m - 1) * sumL m xs + xs.length * (m ^ k * m)
  | [] => by simp
  | x :: xs => by
    have ih := sum_line hm k xs
    have h : (k * (m - 1)) * x + x * m ≤ (m - 1) * LD x m + m ^ k * m := by
      by_cases hx : x = 0
      · subst hx
        omega
      · exact line_any hm (by omega) k
    have e : (m - 1) * sumL m (x :: xs) = (m - 1) * LD x m + (m - 1) * sumL m xs := Nat.mul_add ..
    rw [e, List.sum_cons, List.length_cons, Nat.mul_add, Nat.add_mul x, Nat.add_mul xs.length]
    omega
/-- together no more than theirs and one for each -/
theorem together {m : Nat} (hm : 2 ≤ m) (xs : List Nat) (hl : xs.length ≤ m) : LD xs.sum m ≤ sumL m xs + xs.sum := by
  by_cases h0 : xs.sum = 0
  · rw [h0, LD_zero]
    omega
  obtain ⟨k, h1, h2, h3⟩ := LD_at (x := xs.sum) hm (by omega)
  generalize hs : xs.sum = s at *
  cases k with
  | zero =>
    have a : s - m ^ 0 + m - 2 < 2 * (m - 1) := by
      rw [Nat.pow_zero]
      rw [Nat.pow_zero] at h2
      omega
    have b : (s - m ^ 0 + m - 2) / (m - 1) ≤ 1 := by
      have := Nat.div_lt_of_lt_mul (show s - m ^ 0 + m - 2 < (m - 1) * 2 by omega)
      omega
    rw [h3, Nat.pow_zero] at *
    omega
  | succ k =>
    have hl2 := (line_at hm h1 h2).2
    have hsl := sum_line hm k xs
    rw [hs] at hsl
    have e1 : xs.length * (m ^ k * m) ≤ m * (m ^ k * m) := Nat.mul_le_mul_right _ hl
    have ek : m ^ k * m = m ^ (k + 1) := (Nat.pow_succ ..).symm
    rw [ek] at e1 hsl
    have e2 : (s - m ^ (k + 1)) * m + m ^ (k + 1) * m = s * m := by rw [← Nat.add_mul, Nat.sub_add_cancel h1]
    have e3 : ((k + 1) * (m - 1)) * s = (k * (m - 1)) * s + (m - 1) * s := by rw [Nat.add_mul k 1, Nat.one_mul, Nat.add_mul]
    have e4 : m * m ^ (k + 1) = m ^ (k + 1) * m := Nat.mul_comm ..
    have e5 : (m - 1) * (sumL m xs + s) = (m - 1) * sumL m xs + (m - 1) * s := Nat.mul_add ..
    have big : (m - 1) * LD s m ≤ (m - 1) * (sumL m xs + s) + (m - 2) := by omega
    refine Classical.byContradiction fun hn => ?_
    have : (m - 1) * (sumL m xs + s + 1) ≤ (m - 1) * LD s m := Nat.mul_le_mul_left _ (by omega)
    rw [Nat.mul_add (m - 1) _ 1] at this
    omega
/-- each end more lies as deep as the level, at least -/
theorem LD_step {m x k : Nat} (hm : 2 ≤ m) (h1 : m ^ k ≤ x) (h2 : x < m ^ k * m) : LD x m + (k + 1) ≤ LD (x + 1) m := by
  rw [LD_eq hm h1 h2]
  by_cases h : x + 1 < m ^ k * m
  · rw [LD_eq hm (by omega) h, show x + 1 - m ^ k = (x - m ^ k) + 1 by omega, Nat.mul_add]
    have : (x - m ^ k + m - 2) / (m - 1) ≤ (x - m ^ k + 1 + m - 2) / (m - 1) := Nat.div_le_div_right (by omega)
    omega
  · have e : x + 1 = m ^ k + m ^ k * (m - 1) := by
      have h2 : m ^ k * (m - 1) + m ^ k * 1 = m ^ k * m := by rw [← Nat.mul_add, show m - 1 + 1 = m by omega]
      omega
    rw [rule_end (k := k) (d := m ^ k) hm (Nat.le_refl _) e, Nat.mul_add]
    have hp : 0 < m ^ k := Nat.pow_pos (by omega)
    have h3 : (x - m ^ k + m - 2) / (m - 1) ≤ m ^ k := by
      have h4 : x - m ^ k + m - 2 < (m ^ k + 1) * (m - 1) := by
        rw [Nat.add_mul]
        omega
      have := Nat.div_lt_of_lt_mul (show x - m ^ k + m - 2 < (m - 1) * (m ^ k + 1) by rw [Nat.mul_comm]; exact h4)
      omega
    omega
theorem LD_more {m a k : Nat} (hm : 2 ≤ m) (h1 : m ^ k ≤ a) : ∀ n, LD a m + (k + 1) * n ≤ LD (a + n) m
  | 0 => by simp
  | n + 1 => by
    have ih := LD_more hm h1 n
    have hp : 0 < m ^ k := Nat.pow_pos (by omega)
    obtain ⟨j, g1, g2, _⟩ := LD_at (x := a + n) hm (by omega)
    have st := LD_step hm g1 g2
    have hj : k ≤ j := Classical.byContradiction fun hn => by
      have : m ^ (j + 1) ≤ m ^ k := Nat.pow_le_pow_right (by omega) (by omega)
      rw [Nat.pow_succ] at this
      omega
    rw [← Nat.add_assoc, Nat.mul_add]
    omega
theorem LD_below {m b k : Nat} (hm : 2 ≤ m) (h : b < m ^ k * m) : LD b m ≤ (k + 1) * b := by
  by_cases h0 : b = 0
  · subst h0
    rw [LD_zero]
    omega
  obtain ⟨j, g1, g2, g3⟩ := LD_at (x := b) hm (by omega)
  have hj : j ≤ k := Classical.byContradiction fun hn => by
    have : m ^ (k + 1) ≤ m ^ j := Nat.pow_le_pow_right (by omega) (by omega)
    rw [Nat.pow_succ] at this
    omega
  have h2 : m ^ j * (m - 1) + m ^ j * 1 = m ^ j * m := by rw [← Nat.mul_add, show m - 1 + 1 = m by omega]
  have h3 : (b - m ^ j + m - 2) / (m - 1) ≤ m ^ j := by
    have h4 : b - m ^ j + m - 2 < (m ^ j + 1) * (m - 1) := by
      rw [Nat.add_mul]
      omega
    have := Nat.div_lt_of_lt_mul (show b - m ^ j + m - 2 < (m - 1) * (m ^ j + 1) by rw [Nat.mul_comm]; exact h4)
    omega
  have h5 : (j + 1) * b ≤ (k + 1) * b := Nat.mul_le_mul_right _ (by omega)
  rw [Nat.add_mul j 1 b] at h5
  omega
theorem pair {m a b : Nat} (hm : 2 ≤ m) : LD a m + LD b m ≤ LD (a + b) m := by
  have main : ∀ a b, b ≤ a → LD a m + LD b m ≤ LD (a + b) m := fun a b hle => by
    by_cases h0 : a = 0
    · have : b = 0 := by omega
      subst this
      subst h0
      simp [LD_zero]
    obtain ⟨k, h1, h2, _⟩ := LD_at (x := a) hm (by omega)
    have h3 := LD_more hm h1 b
    have h4 := LD_below (b := b) hm (k := k) (by omega)
    omega
  rcases Nat.le_total b a with h | h
  · exact main a b h
  · have := main b a h
    rw [Nat.add_comm b a] at this
    omega
theorem apart {m : Nat} (hm : 2 ≤ m) : ∀ xs : List Nat, sumL m xs ≤ LD xs.sum m
  | [] => Nat.zero_le _
  | x :: xs => by
    have ih := apart hm xs
    have := pair (a := x) (b := xs.sum) hm
    rw [List.sum_cons]
    show LD x m + sumL m xs ≤ _
    omega
def cellM (prev : List (Option Nat)) (ls : List Nat) (x k : Nat) : List Nat :=
  (List.range (min k (x - 1))).filterMap fun i => (prev.getD (k - (i + 1)) none).map (· + ls.getD (i + 1) 0)
def minO : List Nat → Option Nat
  | [] => none
  | a :: r => some (r.foldl min a)
def rowAt (ls : List Nat) (x : Nat) : Nat → List (Option Nat)
  | 0 => (List.range (x + 1)).map fun k => if k = 0 then some 0 else none
  | t + 1 => (List.range (x + 1)).map fun k => minO (cellM (rowAt ls x t) ls x k)
def lastM (ls : List Nat) (m x : Nat) : List Nat := (List.range (m - 1)).filterMap fun i => (rowAt ls x (i + 2)).getD x none
def told (m n : Nat) : List Nat := (List.range n).map (LD · m)
/-- evaluated with plain recursion: the row behind another -/
def okM (m x : Nat) : Bool := match minO (lastM (told m x) m x) with
  | some z => x + z == LD x m
  | none => false
set_option maxRecDepth 100000 in
theorem chk : ∀ m ∈ List.range 6, ∀ x ∈ List.range 29, okM (m + 2) (x + 2) = true := by decide +kernel
theorem next {m x : Nat} (h1 : 2 ≤ m) (h2 : m ≤ 7) (h3 : 2 ≤ x) (h4 : x ≤ 30) : ∃ z, minO (lastM (told m x) m x) = some z ∧ x + z = LD x m := by
  have h := chk (m - 2) (List.mem_range.mpr (by omega)) (x - 2) (List.mem_range.mpr (by omega))
  rw [show m - 2 + 2 = m by omega, show x - 2 + 2 = x by omega] at h
  unfold okM at h
  cases e : minO (lastM (told m x) m x) with
  | none =>
    rw [e] at h
    cases h
  | some z =>
    rw [e] at h
    exact ⟨z, rfl, by simpa using h⟩
set_option maxRecDepth 100000 in
theorem chkP : ∀ m ∈ List.range 6, ∀ x ∈ List.range 31, decide (x ^ x ≤ (m + 2) ^ LD x (m + 2)) && (decide (x ^ x = (m + 2) ^ LD x (m + 2)) == [0, 1, m + 2, (m + 2) * (m + 2), (m + 2) * (m + 2) * (m + 2), (m + 2) * (m + 2) * (m + 2) * (m + 2)].contains x) = true := by decide +kernel
theorem minO_some : ∀ {xs : List Nat} {z : Nat}, z ∈ xs → (∀ y ∈ xs, z ≤ y) → minO xs = some z
  | a :: r, z, hz, hle => by
    have fold : ∀ (r : List Nat) (a : Nat), (r.foldl min a ∈ a :: r) ∧ ∀ y ∈ a :: r, r.foldl min a ≤ y := by
      intro r
      induction r with
      | nil => intro a; simp
      | cons b r ih =>
        intro a
        obtain ⟨i1, i2⟩ := ih (min a b)
        show r.foldl min (min a b) ∈ a :: b :: r ∧ ∀ y ∈ a :: b :: r, r.foldl min (min a b) ≤ y
        constructor
        · rcases List.mem_cons.mp i1 with e | e
          · rw [e]
            rcases Nat.le_total a b with h | h
            · rw [Nat.min_eq_left h]
              simp
            · rw [Nat.min_eq_right h]
              simp
          · exact List.mem_cons_of_mem _ (List.mem_cons_of_mem _ e)
        · intro y hy
          have hm := i2 (min a b) (by simp)
          rcases List.mem_cons.mp hy with e | hy
          · have := Nat.min_le_left a b
            omega
          · rcases List.mem_cons.mp hy with e | hy
            · have := Nat.min_le_right a b
              omega
            · exact i2 y (List.mem_cons_of_mem _ hy)
    obtain ⟨f1, f2⟩ := fold r a
    show some (r.foldl min a) = some z
    have h1 := f2 z hz
    have h2 := hle _ f1
    rw [Nat.le_antisymm h1 h2]
end Ld
namespace Lw
open PySem PySem.Spec PyProof.Rows L2 Gd
def topS (i : Nat) : Stmt := PySem.Challenge.pw_fewestpours_k15_whole_least_depths.main.body.getD i (.Pass ⟨0, 0, 0, 0⟩)
abbrev sDraw : Stmt := topS 4
abbrev sAny : Stmt := topS 5
theorem scDraw : FnScope ["script", "salt", "cell", "cells", "blend"] ["script", "salt"] (defScope sDraw) := ⟨rfl, rfl, rfl, by decide +kernel, rfl, by decide +kernel, by decide +kernel⟩
/-- what is told of the draws' source: its address, that of its great cells, these, and the blend -/
structure Deal (H : Hp) (p q : Addr) (cs : List Int) (b : Int) : Prop where
  top : H p = some (.lst [.ref q, .int b])
  low : H q = some (.lst (cs.map V.int))
  ne : p ≠ q
  b0 : 0 ≤ b
  c0 : ∀ c ∈ cs, 0 ≤ c
  len : cs.length ≤ 48
def spDraw (K : PySem.W.Frag) : Sp := fun vs H Q _ => ∃ (a : Addr) (ns : List Int) (salt : Int), vs = [.ref a, .int salt] ∧ SqL K H a (ns.map V.int) ∧ 0 ≤ salt ∧ salt ≤ 1000 ∧
  ∀ H' p q cs b, Same H H' → H p = none → H q = none → Deal H' p q cs b → Q (.ref p) H'
theorem same_new {H : Hp} {p : Addr} {o : HO} (h : H p = none) : Same H (upd H p o) := fun b x e => by
  rw [upd_ne (ne_of_none e h)]
  exact e
theorem same_mut {H H' : Hp} {p : Addr} {o : HO} (e : Same H H') (h : H p = none) : Same H (upd H' p o) := fun a u ha => by
  rw [upd_ne (ne_of_none ha h)]
  exact e a u ha
theorem free_back {H H' : Hp} {p : Addr} (e : Same H H') (h : H' p = none) : H p = none := by
  cases h1 : H p with
  | none => rfl
  | some o =>
    rw [e p o h1] at h
    cases h
theorem sq_at {K : PySem.W.Frag} {H : Hp} {a : Addr} {xs : List V} (h : H a = some (.lst xs)) : SqL K H a xs := .inl (.inl h)
theorem st_at {K : PySem.W.Frag} {H : Hp} {a : Addr} {xs : List V} (h : H a = some (.tup xs)) : SqT K H a xs := .inl (.inl h)
theorem cut_to (ns : List Int) : cutV (ns.map V.int) none (some 48) = (ns.take 48).map V.int := by
  unfold cutV
  rw [show HT.sIx (ns.map V.int).length 0 none = 0 from rfl, show HT.sIx (ns.map V.int).length (ns.map V.int).length (some 48) = min 48 (ns.map V.int).length from HT.sIx_nat _ _ 48]
  rw [List.drop_zero, Nat.sub_zero, List.map_take]
  by_cases h : 48 ≤ (ns.map V.int).length
  · rw [Nat.min_eq_left h]
  · rw [Nat.min_eq_right (by omega), List.take_length, List.take_of_length_le (by omega)]
theorem int_at {ns : List Int} {i : Nat} {x : V} (h : (ns.map V.int)[i]? = some x) : ∃ z, ns[i]? = some z ∧ x = .int z := by
  rw [List.getElem?_map] at h
  cases e : ns[i]? with
  | none => rw [e] at h; cases h
  | some z =>
    rw [e] at h
    exact ⟨z, rfl, (Option.some.inj h).symm⟩
theorem take_step {ks : List Int} {i : Nat} {z : Int} (h : ks[i]? = some z) : ks.take (i + 1) = ks.take i ++ [z] := by
  rw [List.take_add_one, h]
  rfl
theorem tt_yes {C A : Hp → Prop} {σ : L2.St} {H : Hp} (h : A H) : tYes σ H fun b H3 => if b = true then A H3 else C H3 := by
  show (if true = true then A H else C H)
  rw [if_pos rfl]
  exact h
theorem abs_is (z : Int) : (if z < 0 then -z else z) = ((z.natAbs : Nat) : Int) := by split <;> omega
section
variable {P : Program} {w : World} {K : PySem.W.Frag} {mg : Str → Option Value} {base : Heap}
theorem ok_draw {f : Addr} {fd : FuncData} {k : Nat} (F : Fun K "_law_draw" "_law_draw" sDraw f fd) (mabs : mg "abs" = none) (mint : mg "int" = none) : FnOk P w K mg base CX0 (k + 1) f fd ["script", "salt"] (spDraw K) := by
  refine F.ok scDraw (fun vs H Q E h => ?_) (fun cdv A outer s H vs Q E hr h => ?_)
  · obtain ⟨a, ns, salt, rfl, _⟩ := h
    rfl
  · obtain ⟨a, ns, salt, rfl, hS, hs0, hs1, q⟩ := h
    refine ⟨_, pss_cons (ps_setLc (i := 3) (own := [("cell", 2)]) (g := gName 2) (tt := tYes) rfl scDraw.nd rfl rfl (sw_true rfl rfl rfl (by decide +kernel))
        (pi_list (pe_slice sl_list (pv 0) po_none (po_some pe_int))) (blkOk_by (N := ["script", "salt", "cell", "cells", "blend"]) (sc := defScope sDraw) (by decide +kernel))
        (fun _ _ _ _ _ => pg_name (i := 2) scDraw.nd rfl (Or.inl rfl)) (fun _ _ _ _ _ => pts_nil)
        (fun _ _ _ _ _ => pe_callB call_abs (by rfl) mabs (by decide +kernel) (pa_cons (pe_callTy call_int1 (by rfl) mint (by decide +kernel) (pa_cons (pv 2) pa_nil)) pa_nil)))
      (pss_cons (ps_set (i := 4) scDraw.nd rfl (.inl rfl) (pe_op op_add pe_int (pe_op op_mul pe_int (pv 1))))
      (pss_cons (ps_for PassesOwn.never rfl (pi_list (pv 3)) (pg_name (i := 2) scDraw.nd rfl (.inl rfl))
        (pss_one (ps_set (i := 4) scDraw.nd rfl (.inl rfl) (pe_op op_mod (pe_callTy call_int1 (by rfl) mint (by decide +kernel) (pa_cons (pe_op op_add (pe_op op_add (pe_op op_mul (pv 4) pe_int) (pe_op op_mod (pv 2) pe_int)) pe_int) pa_nil)) pe_int))))
      (pss_one (ps_ret (pe_lst (pa_cons (pe_revL (pe_lc (own := [("cell", 2)]) (g := gName 2) rfl scDraw.nd (pi_list (pv 3)) (blkOk_by (N := ["script", "salt", "cell", "cells", "blend"]) (sc := defScope sDraw) (by decide +kernel))
        (fun _ _ _ _ _ => pg_name (i := 2) scDraw.nd rfl (Or.inl rfl)) (fun _ _ _ _ _ => pts_one (pt_cmpR op_ge (pv 2) (pe_op op_pow pe_int pe_int) (nomark _))) (fun _ _ _ _ _ => pv 2)))
        (pa_cons (pv 4) pa_nil))))))), ?_⟩
    -- cells = [abs(int(cell)) for cell in script[:48]]
    refine ⟨.ref a, rfl, 48, rfl, a, ns.map V.int, rfl, hS, fun c nc => ?_⟩
    rw [cut_to]
    have s1 : Same H (upd H c (.lst ((ns.take 48).map V.int))) := same_new nc
    generalize hms : ns.take 48 = ms at s1 ⊢
    have lms : ms.length ≤ 48 := by rw [← hms, List.length_take]; omega
    generalize hks : (ms.map fun z => ((z.natAbs : Nat) : Int)) = ks
    have lks : ks.length ≤ 48 := by rw [← hks, List.length_map]; exact lms
    have pks : ∀ z ∈ ks, 0 ≤ z := fun z hz => by
      rw [← hks] at hz
      obtain ⟨y, _, rfl⟩ := List.mem_map.mp hz
      omega
    refine ⟨c, rfl, ⟨_, sq_at upd_same⟩, fun D nD => lc_list (xs := ms.map V.int) (fun i H2 => Same (upd H c (.lst (ms.map V.int))) H2 ∧ H2 D = some (.lst ((ks.take i).map V.int)))
      ⟨same_new nD, upd_same⟩ (fun i H2 _ h2 => h2.1.seq (sq_at upd_same)) ?_ ?_⟩
    · rintro i x H2 hx ⟨s2, hD⟩
      obtain ⟨z, hz, rfl⟩ := int_at hx
      refine ⟨rfl, tt_yes ?_⟩
      refine ⟨_, rfl, .inl ⟨z, rfl, z, rfl, _, hD, ?_, same_mut s2 nD, ?_⟩⟩
      · rw [List.length_map, List.length_take]
        exact small1000 (by omega)
      · rw [upd_same, take_step (z := ((z.natAbs : Nat) : Int)) (by rw [← hks, List.getElem?_map, hz]; rfl), List.map_append, abs_is]
        rfl
    rintro H2 ⟨s2, hD⟩
    rw [show (ms.map V.int).length = ks.length by rw [← hks, List.length_map, List.length_map], List.take_length] at hD
    have fD : H D = none := free_back s1 nD
    -- blend = 7919 + 104729 * salt
    refine ⟨_, rfl, _, _, rfl, rfl, .inl ⟨by decide, by decide⟩, _, _, rfl, rfl, ?_⟩
    -- for cell in cells
    have sD : Same H H2 := s1.trans s2
    refine ⟨_, rfl, D, rfl, ⟨_, sq_at hD⟩, for_list (K := K) (a := D) (xs := ks.map V.int) (fun i σ H3 => ∃ (v : Option V) (b : Int), σ = [some (.ref a), some (.int salt), v, some (.ref D), some (.int b)] ∧ 0 ≤ b ∧ b < 2 ^ 40 ∧ H3 = H2)
      ⟨none, _, rfl, by omega, by omega, rfl⟩ (fun i σ H3 _ ⟨_, _, _, _, _, e⟩ => e ▸ sq_at hD) ?_ ?_⟩
    · rintro i x σ H3 hx ⟨v, b, rfl, b0, b1, rfl⟩
      obtain ⟨z, hz, rfl⟩ := int_at hx
      refine ⟨_, rfl, _, _, rfl, rfl, .inr ⟨by decide, by decide⟩, _, rfl, _, _, rfl, rfl, (by show (0 : Int) < 2147483549; decide), _, _, rfl, rfl, _, _, rfl, rfl, .inl ⟨_, rfl, _, _, rfl, rfl, (by show (0 : Int) < 2147483647; decide), _, _, rfl, ?_, ?_, rfl⟩⟩
      · exact Int.emod_nonneg _ (by decide)
      · exact Int.lt_trans (Int.emod_lt_of_pos _ (by decide)) (by decide)
    rintro σ H3 ⟨v, b, rfl, b0, b1, rfl⟩
    -- [[cell for cell in cells if cell >= 10 ** 18][::-1], blend]
    refine ⟨_, rfl, D, rfl, ⟨_, sq_at hD⟩, fun G nG => lc_list (xs := ks.map V.int) (fun i H4 => Same H3 H4 ∧ ∃ cs : List Int, H4 G = some (.lst (cs.map V.int)) ∧ cs.length ≤ i ∧ ∀ z ∈ cs, 0 ≤ z)
      ⟨same_new nG, [], upd_same, Nat.le_refl _, fun z hz => nomatch hz⟩ (fun i H4 _ h4 => h4.1.seq (sq_at hD)) ?_ ?_⟩
    · rintro i x H4 hx ⟨s4, cs, hG, lc, pc⟩
      have hi := (List.getElem?_eq_some_iff.mp hx).1
      rw [List.length_map] at hi
      obtain ⟨z, hz, rfl⟩ := int_at hx
      refine ⟨rfl, _, rfl, _, _, rfl, rfl, ⟨by decide, by decide, by decide⟩, _, _, rfl, rfl, _, rfl, ?_⟩
      refine ite2 (fun _ => ?_) (fun _ => ?_)
      · refine ⟨_, rfl, _, hG, ?_, same_mut s4 nG, cs ++ [z], ?_, ?_, ?_⟩
        · rw [List.length_map]
          exact small1000 (by omega)
        · rw [upd_same, List.map_append]
          rfl
        · rw [List.length_append]
          show cs.length + 1 ≤ i + 1
          omega
        · intro y hy
          rcases List.mem_append.mp hy with h | h
          · exact pc y h
          · rw [List.mem_singleton.mp h]
            exact pks z (List.mem_of_getElem? hz)
      · exact ⟨s4, cs, hG, by omega, pc⟩
    rintro H4 ⟨s4, cs, hG, lc, pc⟩
    rw [List.length_map] at lc
    have fG : H3 G = none := nG
    refine ⟨G, _, rfl, sq_at hG, fun q1 nq => ?_⟩
    refine ⟨_, rfl, by show 2 ≤ sizeLine; decide, fun p np => ?_⟩
    have nq1 : H4 q1 = none := nq
    have np1 : H4 p = none := free_back (same_new nq1) np
    have npq : p ≠ q1 := fun e => by
      rw [e, upd_same] at np
      cases np
    have s5 : Same H H4 := sD.trans s4
    refine q _ p q1 cs.reverse b ((s5.trans (same_new nq1)).trans (same_new np)) (free_back s5 np1) (free_back s5 nq1) ⟨upd_same, ?_, npq, b0, fun c hc => pc c (List.mem_reverse.mp hc), by rw [List.length_reverse]; omega⟩
    rw [upd_ne npq.symm, upd_same, List.map_reverse]

/-- all but two places stay -/
def But (p q : Addr) (H H' : Hp) : Prop := ∀ x o, x ≠ p → x ≠ q → H x = some o → H' x = some o
theorem But.refl {p q : Addr} {H : Hp} : But p q H H := fun _ _ _ _ h => h
theorem But.trans {p q : Addr} {H H1 H2 : Hp} (a : But p q H H1) (b : But p q H1 H2) : But p q H H2 := fun x o h1 h2 h => b x o h1 h2 (a x o h1 h2 h)
theorem But.of {p q : Addr} {H H' : Hp} (s : Same H H') : But p q H H' := fun x o _ _ h => s x o h
theorem But.top {p q : Addr} {H : Hp} {o : HO} : But p q H (upd H p o) := fun x u h1 _ h => by
  rw [upd_ne h1]
  exact h
theorem But.low {p q : Addr} {H : Hp} {o : HO} : But p q H (upd H q o) := fun x u _ h1 h => by
  rw [upd_ne h1]
  exact h
theorem dp_all {K : PySem.W.Frag} {H : Hp} : ∀ cs : List Int, DpAll K H (cs.map V.int) (cs.map PyData.int)
  | [] => .nil
  | c :: cs => .cons (.int c) (dp_all cs)
def spAny : Sp := fun vs H Q _ => ∃ (p q : Addr) (cs : List Int) (b n : Int), vs = [.ref p, .int n] ∧ Deal H p q cs b ∧ 0 < n ∧ n < 2 ^ 64 ∧
  ∀ H' r cs' b', Deal H' p q cs' b' → But p q H H' → 0 ≤ r → r < n → Q (.int r) H'
theorem scAny : FnScope ["deal", "bound", "rest"] ["deal", "bound"] (defScope sAny) := ⟨rfl, rfl, rfl, by decide +kernel, rfl, by decide +kernel, by decide +kernel⟩
theorem dp_ints {K : PySem.W.Frag} {H : Hp} {q : Addr} {cs : List Int} (h : H q = some (.lst (cs.map V.int))) : Dp K H (.ref q) (.list (cs.map PyData.int)) := .lst (sq_at h) (dp_all cs)
theorem shaped_ints (cs : List Int) : SeqAt.shaped (.list (cs.map PyData.int)) = true := by
  have h1 : ∀ cs : List Int, PyData.canLayAll0 (cs.map PyData.int) = true := fun cs => by
    induction cs with
    | nil => rfl
    | cons c cs ih => simp [PyData.canLayAll0, PyData.canLay0, ih]
  have h2 : ∀ cs : List Int, PyData.depthAll (cs.map PyData.int) = 0 := fun cs => by
    induction cs with
    | nil => rfl
    | cons c cs ih => simp [PyData.depthAll, PyData.depth, ih]
  unfold SeqAt.shaped
  simp [PyData.canLay0, PyData.depth, h1, h2]
theorem eqv_nil (cs : List Int) : PyData.eqv (.list (cs.map PyData.int)) (.list []) = cs.isEmpty := by
  cases cs with
  | nil => rfl
  | cons c cs => rfl
theorem Deal.keep {H H' : Hp} {p q : Addr} {cs : List Int} {b : Int} (D : Deal H p q cs b) (s : Same H H') : Deal H' p q cs b := ⟨s _ _ D.top, s _ _ D.low, D.ne, D.b0, D.c0, D.len⟩
theorem Deal.setLow {H : Hp} {p q : Addr} {cs ds : List Int} {b : Int} (D : Deal H p q cs b) (h : ∀ c ∈ ds, 0 ≤ c) (l : ds.length ≤ 48) : Deal (upd H q (.lst (ds.map V.int))) p q ds b :=
  ⟨by rw [upd_ne D.ne]; exact D.top, upd_same, D.ne, D.b0, h, l⟩
theorem Deal.setTop {H : Hp} {p q : Addr} {cs : List Int} {b b' : Int} (D : Deal H p q cs b) (h : 0 ≤ b') : Deal (upd H p (.lst [.ref q, .int b'])) p q cs b' :=
  ⟨upd_same, by rw [upd_ne D.ne.symm]; exact D.low, D.ne, h, D.c0, D.len⟩
theorem rd_left {K : PySem.W.Frag} {σ : L2.St} {H : Hp} {p q : Addr} {cs : List Int} {b : Int} {Q : VK} (D : Deal H p q cs b) (h0 : σ[0]? = some (some (.ref p))) (h : Q (.ref q) H) : tOp (rIxL K) (tVar 0) (tC (.int 0)) σ H Q :=
  ⟨_, h0, p, _, 0, .ref q, rfl, rfl, sq_at D.top, atI_nat (j := 0) rfl, h⟩
theorem rd_right {K : PySem.W.Frag} {σ : L2.St} {H : Hp} {p q : Addr} {cs : List Int} {b : Int} {Q : VK} (D : Deal H p q cs b) (h0 : σ[0]? = some (some (.ref p))) (h : Q (.int b) H) : tOp (rIxL K) (tVar 0) (tC (.int 1)) σ H Q :=
  ⟨_, h0, p, _, 1, .int b, rfl, rfl, sq_at D.top, atI_nat (j := 1) rfl, h⟩
theorem rd_any {K : PySem.W.Frag} {σ : L2.St} {H : Hp} {p q : Addr} {cs : List Int} {b : Int} {Q : Bool → Hp → Prop} (D : Deal H p q cs b) (h0 : σ[0]? = some (some (.ref p))) (h : ∀ t, H t = none → Q (!cs.isEmpty) (upd H t (.lst []))) :
    tTest (tOp (rNeD K) (tOp (rIxL K) (tVar 0) (tC (.int 0))) (tLst tNil)) σ H Q := by
  refine rd_left D h0 ?_
  refine ⟨Nat.zero_le _, fun t nt => ?_⟩
  refine ⟨.list (cs.map PyData.int), .list [], dp_ints ((same_new nt) _ _ D.low), .lst (sq_at upd_same) .nil, shaped_ints cs, by decide, _, rfl, ?_⟩
  rw [eqv_nil]
  exact h t nt
theorem ok_any {f : Addr} {fd : FuncData} {k : Nat} (F : Fun K "_law_any" "_law_any" sAny f fd) (mint : mg "int" = none) : FnOk P w K mg base CX0 (k + 1) f fd ["deal", "bound"] spAny := by
  refine F.ok scAny (fun vs H Q E h => ?_) (fun cdv A outer s H vs Q E hr h => ?_)
  · obtain ⟨p, q, cs, b, n, rfl, _⟩ := h
    rfl
  · obtain ⟨p, q, cs, b, n, rfl, D, n0, n1, k⟩ := h
    have hu := hr.units
    refine ⟨_, pss_cons (ps_while PassesOwn.never (PW.pt (pw_and (pt_cmpR (op_neD hu) (pe_ix ix_list (pv 0) pe_int (fun _ _ => rfl)) (pe_lst pa_nil) (nomark _))
          (pw_and1 (pt_cmpR op_eq (pe_ix ix_list (pe_ix ix_list (pv 0) pe_int (fun _ _ => rfl)) (pe_un un_neg pe_int) (fun _ _ => rfl)) pe_int (nomark _)))))
        (pss_one (ps_expr (pe_bm0 PySem.F.plainAttrs_list PySem.F.slot_list_pop PySem.F.type_list_pop mt_pop (pe_ix ix_list (pv 0) pe_int (fun _ _ => rfl))))))
      (pss_cons (ps_if (pt_cmpR (op_neD hu) (pe_ix ix_list (pv 0) pe_int (fun _ _ => rfl)) (pe_lst pa_nil) (nomark _))
        (pss_cons (ps_set (i := 2) scAny.nd rfl (.inl rfl) (pe_callTy call_int1 (by rfl) mint (by decide +kernel) (pa_cons (pe_bm0 PySem.F.plainAttrs_list PySem.F.slot_list_pop PySem.F.type_list_pop mt_pop (pe_ix ix_list (pv 0) pe_int (fun _ _ => rfl))) pa_nil)))
          (pss_cons (ps_expr (pe_bm PySem.F.plainAttrs_list PySem.F.slot_list_append PySem.F.type_list_append mt_append (pe_ix ix_list (pv 0) pe_int (fun _ _ => rfl)) (pa_cons (pe_op op_fdivW (pv 2) (pv 1)) pa_nil)))
          (pss_one (ps_ret (pe_op op_mod (pv 2) (pv 1)))))) pss_nil)
      (pss_cons (ps_asg (pe_op op_mod (pe_callTy call_int1 (by rfl) mint (by decide +kernel) (pa_cons (pe_op op_add (pe_op op_mul (pe_ix ix_list (pv 0) pe_int (fun _ _ => rfl)) pe_int) pe_int) pa_nil)) pe_int) (pg_sub (pv 0) pe_int set_list))
      (pss_one (ps_ret (pe_op op_mod (pe_callTy call_int1 (by rfl) mint (by decide +kernel) (pa_cons (pe_op op_fdiv (pe_ix ix_list (pv 0) pe_int (fun _ _ => rfl)) pe_int) pa_nil)) (pv 1)))))), ?_⟩
    refine ⟨fun m σ H1 => ∃ ds, σ = [some (.ref p), some (.int n), none] ∧ Deal H1 p q ds b ∧ But p q H H1 ∧ m = ds.length, ⟨_, cs, rfl, D, .refl, rfl⟩, ?_⟩
    rintro m σ H1 ⟨ds, rfl, D1, f1, rfl⟩
    refine rd_any D1 rfl fun t nt => ?_
    have D2 := D1.keep (same_new (o := .lst []) nt)
    have f2 : But p q H _ := f1.trans (.of (same_new (o := .lst []) nt))
    generalize upd H1 t (.lst []) = H2 at D2 f2
    clear nt D1 f1 H1
    have pops : ∀ (es : List Int) (z : Int), ds = es ++ [z] → (∀ c ∈ es, 0 ≤ c) ∧ 0 ≤ z ∧ es.length + 1 = ds.length ∧ (ds.map V.int)[(ds.map V.int).length - 1]? = some (.int z) ∧ (ds.map V.int).dropLast = es.map V.int := by
      rintro es z rfl
      refine ⟨fun c hc => D2.c0 c (List.mem_append_left _ hc), D2.c0 z (by simp), by simp, ?_, ?_⟩
      · simp
      · simp
    refine ite2 (fun hne => ?_) (fun hem => ?_)
    · -- there are great cells: is the last one 0
      obtain ⟨es, z, e⟩ : ∃ es z, ds = es ++ [z] := by
        refine ⟨ds.dropLast, ds.getLast (by rintro rfl; exact Bool.noConfusion hne), ?_⟩
        rw [List.dropLast_concat_getLast]
      obtain ⟨p1, p2, p3, p4, p5⟩ := pops es z e
      refine rd_left D2 rfl ?_
      refine ⟨1, rfl, q, _, -1, .int z, rfl, rfl, sq_at D2.low, by rw [e, List.map_append]; exact atI_last _ _, rfl, _, rfl, ?_⟩
      refine ite2 (fun hz => ?_) (fun hz => ?_)
      · -- deal[0].pop()
        refine ⟨fun σ H1 => ∃ ds', σ = [some (.ref p), some (.int n), none] ∧ Deal H1 p q ds' b ∧ But p q H H1 ∧ ds'.length < ds.length, fun σ' H' ⟨ds', a1, a2, a3, a4⟩ => ⟨_, a4, ds', a1, a2, a3, rfl⟩, ?_⟩
        refine rd_left D2 rfl ?_
        refine ⟨.inl ⟨rfl, _, sq_at D2.low⟩, q, _, .int z, rfl, rfl, D2.low, p4, ?_⟩
        rw [p5]
        exact ⟨es, rfl, D2.setLow p1 (by have := D2.len; omega), f2.trans .low, by omega⟩
      · refine rd_any D2 rfl fun t nt => ?_
        have D3 := D2.keep (same_new (o := .lst []) nt)
        have f3 : But p q H _ := f2.trans (.of (same_new (o := .lst []) nt))
        generalize upd H2 t (.lst []) = H3 at D3 f3
        refine ite2 (fun _ => ?_) (fun h => absurd hne h)
        -- rest = int(deal[0].pop())
        refine rd_left D3 rfl ?_
        refine ⟨.inl ⟨rfl, _, sq_at D3.low⟩, q, _, .int z, rfl, rfl, D3.low, p4, .inl ⟨z, rfl, ?_⟩⟩
        rw [p5]
        have D4 := D3.setLow p1 (by have := D3.len; omega)
        have f4 : But p q H _ := f3.trans (But.low (o := .lst (es.map V.int)))
        generalize upd H3 q (.lst (es.map V.int)) = H4 at D4 f4
        -- deal[0].append(rest // bound)
        refine rd_left D4 rfl ?_
        refine ⟨.inl ⟨rfl, _, sq_at D4.low⟩, _, rfl, _, rfl, _, _, rfl, rfl, wide_div n0 (b := 64) (by omega) (by decide) (by decide), q, _, _, rfl, rfl, D4.low, ?_, ?_⟩
        · rw [List.length_map]
          exact small1000 (by have := D3.len; omega)
        · refine ⟨_, rfl, _, rfl, _, _, rfl, rfl, n0, ?_⟩
          have ee : es.map V.int ++ [V.int (z / n)] = (es ++ [z / n]).map V.int := by rw [List.map_append]; rfl
          rw [ee]
          refine k _ _ _ _ (D4.setLow (ds := es ++ [z / n]) (fun c hc => ?_) (by rw [List.length_append]; have := D3.len; show es.length + 1 ≤ 48; omega)) (f4.trans .low) (Int.emod_nonneg _ (by omega)) (Int.emod_lt_of_pos _ n0)
          rcases List.mem_append.mp hc with h | h
          · exact p1 c h
          · rw [List.mem_singleton.mp h]
            exact Int.ediv_nonneg p2 (by omega)
    · -- there are none
      refine rd_any D2 rfl fun t nt => ?_
      have D3 := D2.keep (same_new (o := .lst []) nt)
      have f3 : But p q H _ := f2.trans (.of (same_new (o := .lst []) nt))
      generalize upd H2 t (.lst []) = H3 at D3 f3
      refine ite2 (fun h => absurd h hem) (fun _ => ?_)
      -- deal[1] = ..
      refine rd_right D3 rfl ?_
      refine ⟨_, _, rfl, rfl, .inr ⟨by decide, by decide⟩, _, _, rfl, rfl, .inl ⟨_, rfl, _, _, rfl, rfl, (by show (0 : Int) < 2147483647; decide), ?_⟩⟩
      have b1 : 0 ≤ (b * 40693 + 71) % 2147483647 := Int.emod_nonneg _ (by decide)
      refine ⟨_, rfl, p, _, 1, 1, rfl, rfl, D3.top, rfl, ?_⟩
      have D4 := D3.setTop b1
      refine rd_right D4 rfl ?_
      refine ⟨_, _, rfl, rfl, ⟨by decide, by decide⟩, .inl ⟨_, rfl, _, rfl, _, _, rfl, rfl, n0, ?_⟩⟩
      exact k _ _ _ _ D4 (f3.trans .top) (Int.emod_nonneg _ (by omega)) (Int.emod_lt_of_pos _ n0)
end
theorem But.seq {K : PySem.W.Frag} {H H' : Hp} {p q a : Addr} {xs : List V} (e : But p q H H') (hp : a ≠ p) (hq : a ≠ q) (h : SqL K H a xs) : SqL K H' a xs := by
  rcases h with (h | ⟨o, h⟩) | h
  · exact .inl (.inl (e a _ hp hq h))
  · exact .inl (.inr ⟨o, e a _ hp hq h⟩)
  · exact .inr h
abbrev sOf : Stmt := topS 6
section
variable {P : Program} {w : World} {K : PySem.W.Frag} {mg : Str → Option Value} {base : Heap}
/-! ### some[_law_any(deal, len(some))] -/
theorem scOf : FnScope ["deal", "some"] ["deal", "some"] (defScope sOf) := ⟨rfl, rfl, rfl, by decide +kernel, rfl, by decide +kernel, by decide +kernel⟩
def spOf (K : PySem.W.Frag) : Sp := fun vs H Q _ => ∃ (p q l : Addr) (cs : List Int) (b : Int) (xs : List V), vs = [.ref p, .ref l] ∧ Deal H p q cs b ∧ SqL K H l xs ∧ l ≠ p ∧ l ≠ q ∧ xs ≠ [] ∧ xs.length ≤ 1000 ∧
  ∀ (H' : Hp) (v : V) (i : Nat) (cs' : List Int) (b' : Int), Deal H' p q cs' b' → But p q H H' → xs[i]? = some v → Q v H'
theorem ok_of {f fA : Addr} {fd fdA : FuncData} {k : Nat} (F : Fun K "_law_of" "_law_of" sOf f fd) (G : FnOk P w K mg base CX0 (k + 1) fA fdA ["deal", "bound"] spAny) (bA : Binds K fdA ["deal", "bound"] []) (kA : PySem.W.keepIn K (.ref fA) = true) (gA : mg "_law_any" = some (.ref fA)) (mlen : mg "len" = none) : FnOk P w K mg base CX0 (k + 1 + 1) f fd ["deal", "some"] (spOf K) := by
  refine F.ok scOf (fun vs H Q E h => ?_) (fun cdv A outer s H vs Q E hr h => ?_)
  · obtain ⟨p, q, l, cs, b, xs, rfl, _⟩ := h
    rfl
  · obtain ⟨p, q, l, cs, b, xs, rfl, D, hl, np, nq, h0, hlen, k⟩ := h
    refine ⟨_, pss_one (ps_ret (pe_ix ix_list (pv 1) (pe_call G hr (by rfl) gA kA bA .nil pass0 (pa_cons (pv 0) (pa_cons (pe_callB call_len_seq (by rfl) mlen PySem.boot_len (pa_cons (pv 1) pa_nil)) pa_nil))) (fun _ _ => rfl))), ?_⟩
    have hpos : 0 < xs.length := List.length_pos_iff.mpr h0
    refine ⟨_, rfl, _, rfl, _, rfl, l, xs, rfl, .inl hl, p, q, cs, b, _, rfl, D, by omega, by omega, fun H' r cs' b' D' f' r0 r1 => ?_⟩
    obtain ⟨i, rfl⟩ : ∃ i : Nat, r = (i : Int) := ⟨r.toNat, by omega⟩
    have hi : i < xs.length := by omega
    exact ⟨l, xs, _, xs[i], rfl, rfl, f'.seq np nq hl, atI_nat (List.getElem?_eq_getElem hi), k H' _ i cs' b' D' f' (List.getElem?_eq_getElem hi)⟩
end
abbrev sLpow : Stmt := topS 7
section
variable {P : Program} {w : World} {K : PySem.W.Frag} {mg : Str → Option Value} {base : Heap}
def spRaised : Sp := fun vs H Q _ => ∃ (B T : Nat), vs = [.int (B : Int), .int (T : Int)] ∧ B < 2 ^ 16 ∧ T ≤ 4000 ∧ Q (.int ((B ^ T : Nat) : Int)) H
theorem scLpow : FnScope ["x", "many", "found", "turn"] ["x", "many"] (defScope sLpow) := ⟨rfl, rfl, rfl, by decide +kernel, rfl, by decide +kernel, by decide +kernel⟩
theorem ok_lpow {f : Addr} {fd : FuncData} {k : Nat} (F : Fun K "_law_power" "_law_power" sLpow f fd) (mr : mg "range" = none) : FnOk P w K mg base CX0 (k + 1) f fd ["x", "many"] spRaised := by
  refine F.ok scLpow (fun vs H Q E h => ?_) (fun cdv A outer s H vs Q E hr h => ?_)
  · obtain ⟨B, T, rfl, _⟩ := h
    rfl
  · obtain ⟨B, T, rfl, hB, hT, q⟩ := h
    refine ⟨_, pss_cons (ps_set (i := 2) scLpow.nd rfl (.inl rfl) pe_int)
      (pss_cons (ps_for PassesOwn.never rfl (pi_range1 (by rfl) mr (pa_cons (pv 1) pa_nil)) (pg_name (i := 3) scLpow.nd rfl (.inl rfl))
        (pss_one (ps_set (i := 2) scLpow.nd rfl (.inl rfl) (pe_op op_mul (pv 2) (pv 0)))))
      (pss_one (ps_ret (pv 2)))), ?_⟩
    refine ⟨_, rfl, (T : Int), rfl, by omega, by omega, for_range (lo := 0) (n := T) (fun i σ H1 => ∃ v, σ = [some (.int (B : Int)), some (.int (T : Int)), some (.int ((B ^ i : Nat) : Int)), v] ∧ H1 = H) ⟨none, rfl, rfl⟩ ?_ ?_⟩
    · rintro i σ H1 hi ⟨v, rfl, eH⟩
      subst eH
      refine ⟨_, rfl, _, rfl, _, _, rfl, rfl, .inr ⟨by omega, by omega⟩, some (.int (0 + (i : Int))), ?_, rfl⟩
      rw [Nat.pow_succ, Int.natCast_mul]
      rfl
    · rintro σ H1 ⟨v, rfl, eH⟩
      subst eH
      exact ⟨_, rfl, q⟩
end
theorem meets_int_repr (a : Int) (t : Tok) : Meets (Builtin.«int.__repr__» ⟨[.int a t], []⟩) (fun _ R s => s.heap.NoDigits ∧ a.natAbs < 10 ^ 4300 ∧ R (.ok (.ret (.str (toString a) s.toks))) { s with toks := s.toks + 1 }) := by
  rintro prog w A R s ⟨hn, hlt, h⟩
  unfold Builtin.«int.__repr__»
  show wpAny _ _ (do let r ← Builtin.overDigitLimit? a; _) _ _ s
  exact wpAny_bind (overDigitLimit_any hn (fun _ => wpAny_bind (wpAny_mkStr (wpAny_pure h) (int_text_fits10 hlt))) fun hge => absurd hlt (by omega))
section
variable {X : Cx}
def rReprI : List V → Hp → VK → Prop := fun xs H Q => ∃ i, xs = [.int i] ∧ i.natAbs < 10 ^ 4300 ∧ Q (.str (toString i)) H
theorem call_reprI (hu : X.A.units + 1 < cLine) (hz : PySem.W.nsIn X.K cStatics "sys.int_max_str_digits" = some none) : CallR X (.builtin "repr") rReprI := by
  intro pins s σ H xs us Q I r h
  obtain ⟨i, rfl, hlt, q⟩ := h
  obtain ⟨u, rfl, t, rfl⟩ := vals1 r
  have nd : s.heap.NoDigits := by
    obtain ⟨mc, h1, _⟩ := I.nolimit
    exact ⟨mc, h1, PySem.W.ns_none_of I.kIn h1 hz⟩
  exact call_repr_slot hu (typeIs_int s i t) PySem.F.slot_int_repr.toG (call_meets PySem.F.slot_int_repr (typeIs_int s i t) PySem.F.entry_int_repr (PySem.F.args_int_repr_1 _) (meets_int_repr i t) ⟨nd, hlt, _, _, rfl, .str _, H, I.tok _, ⟨_, rfl⟩, q⟩)
end
def natV (n : Nat) : V := .int (n : Int)
def TabT (K : PySem.W.Frag) (H : Hp) (t : Addr) (rows : List (List Nat)) : Prop :=
  ∃ as : List Addr, SqT K H t (as.map V.ref) ∧ as.length = rows.length ∧ ∀ (i : Nat) (a : Addr) (xs : List Nat), as[i]? = some a → rows[i]? = some xs → SqT K H a (xs.map natV)
def TabL (K : PySem.W.Frag) (H : Hp) (t : Addr) (rows : List (List Nat)) : Prop :=
  ∃ as : List Addr, SqL K H t (as.map V.ref) ∧ as.length = rows.length ∧ ∀ (i : Nat) (a : Addr) (xs : List Nat), as[i]? = some a → rows[i]? = some xs → SqL K H a (xs.map natV)
theorem same_tup {K : PySem.W.Frag} {H H' : Hp} {a : Addr} {xs : List V} (e : Same H H') (h : SqT K H a xs) : SqT K H' a xs := by
  rcases h with (h | ⟨o, h⟩) | h
  · exact .inl (.inl (e a _ h))
  · exact .inl (.inr ⟨o, e a _ h⟩)
  · exact .inr h
theorem ref_at {as : List Addr} {i : Nat} {x : V} (h : (as.map V.ref)[i]? = some x) : ∃ a, as[i]? = some a ∧ x = .ref a := by
  rw [List.getElem?_map] at h
  cases e : as[i]? with
  | none => rw [e] at h; cases h
  | some z =>
    rw [e] at h
    exact ⟨z, rfl, (Option.some.inj h).symm⟩
theorem nat_at {ns : List Nat} {i : Nat} {x : V} (h : (ns.map natV)[i]? = some x) : ∃ z, ns[i]? = some z ∧ x = natV z := by
  rw [List.getElem?_map] at h
  cases e : ns[i]? with
  | none => rw [e] at h; cases h
  | some z =>
    rw [e] at h
    exact ⟨z, rfl, (Option.some.inj h).symm⟩
theorem takeN {α : Type} {ks : List α} {i : Nat} {z : α} (h : ks[i]? = some z) : ks.take (i + 1) = ks.take i ++ [z] := by
  rw [List.take_add_one, h]
  rfl
theorem Deal.keepBut {H : Hp} {p q L : Addr} {cs : List Int} {b : Int} {o : HO} (D : Deal H p q cs b) (hp : L ≠ p) (hq : L ≠ q) : Deal (upd H L o) p q cs b :=
  ⟨by rw [upd_ne hp.symm]; exact D.top, by rw [upd_ne hq.symm]; exact D.low, D.ne, D.b0, D.c0, D.len⟩
theorem kw_one {K : PySem.W.Frag} {nm qual x : Str} {st : Stmt} {f : Addr} {fd : FuncData} (F : Fun K nm qual st f fd)
    (h1 : ∀ (kV doc pm : Value) (an : Option Addr) (cdv ct : Value) (u : Value), bindArgs (PySem.W.fnOf nm qual (defArgs st) (defBody st) (defScope st) .none kV doc pm an cdv ct) ⟨[u], []⟩ = pure [(x, u)])
    (h2 : ∀ (kV doc pm : Value) (an : Option Addr) (cdv ct : Value) (u : Value), bindArgs (PySem.W.fnOf nm qual (defArgs st) (defBody st) (defScope st) .none kV doc pm an cdv ct) ⟨[], [(x, u)]⟩ = pure [(x, u)]) :
    KBinds K fd [x] [x] (fun us ws => us ++ ws) (fun us ws => us ++ ws) := by
  obtain ⟨oc, od, kV, doc, pm, an, cdv, ct, osl, rfl, lk, hcd⟩ := F.ex
  refine ⟨fun s us ws _ hl => ?_, fun r r2 => r.append r2⟩
  match us, ws, hl with
  | [u], [], _ => exact .of_eq (h1 kV doc pm an cdv ct u)
  | [], [u], _ => exact .of_eq (h2 kV doc pm an cdv ct u)
theorem ne_self {v : V} {A B : Prop} (h : B) : if (!decide (v = v)) = true then A else B := by
  rw [decide_eq_true rfl]
  exact h
theorem ne_same {v u : V} {A B : Prop} (e : v = u) (h : B) : if (!decide (v = u)) = true then A else B := by
  subst e
  exact ne_self h
theorem if_no {c A B : Prop} [Decidable c] (n : ¬ c) (h : B) : if decide c = true then A else B := by
  rw [decide_eq_false n, if_neg Bool.false_ne_true]
  exact h
theorem dec_yes {c : Prop} [Decidable c] (h : c) : V.bl (decide c) = V.bl true := by rw [decide_eq_true h]
/-! ### comprehensions: elements that are told, elements that are drawn -/
theorem wipe_again (σ : L2.St) (j : Nat) (x : Option V) : wipe ((wipe σ [j]).set j x) [j] = wipe σ [j] := by
  show ((σ.set j none).set j x).set j none = σ.set j none
  rw [List.set_set, List.set_set]
theorem small_lt {n : Nat} (h : n ≤ 100000) : n < sizeLine := Nat.lt_of_le_of_lt h (by decide)
theorem lc_vals {J : It} {n j : Nat} {G : Hp → Prop} {Y : Nat → Hp → V → Hp → Prop} {Yx : Nat → V → Prop} (w : Walk J n G Y) {te : TE} {σ : L2.St} {H1 : Hp} {D : Addr} {Qd : Hp → Prop} (nD : H1 D = none) (val : Nat → V) (hn : n ≤ 100000)
    (hY : ∀ i H x H', Y i H x H' → H' = H ∧ Yx i x) (hG : ∀ H, Same H1 H → G H)
    (hs : ∀ i x H, i < n → Same H1 H → Yx i x → ∀ Q' : VK, (∀ H4, Same H H4 → Q' (val i) H4) → te ((wipe σ [j]).set j (some x)) H Q')
    (hd : ∀ H, Same H1 H → H D = some (.lst ((List.range n).map val)) → Qd H) :
    ∃ W : Nat → Nat → Hp → Prop, (∃ m, W 0 m (upd H1 D (.lst []))) ∧ ∀ i m H, W i m H →
      (J.stop i H ∧ Qd H) ∨ (J.go i H ∧ ∃ Nx : Hp → Prop, (∀ H', Nx H' → ∃ m', m' < m ∧ W (i + 1) m' H') ∧ ∀ x H', J.yld i H x H' → gName j x (wipe σ [j]) H' fun σ2 H2 => wipe σ2 [j] = wipe σ [j] ∧ tYes σ2 H2 fun b H3 =>
        if b = true then te σ2 H3 fun y H4 => ∃ acc, H4 D = some (.lst acc) ∧ acc.length < sizeLine ∧ Nx (upd H4 D (.lst (acc ++ [y]))) else Nx H3) := by
  refine lc_it w (Qd := Qd) (fun i H => Same H1 H ∧ H D = some (.lst ((List.range i).map val))) ⟨same_new nD, upd_same⟩ (fun i H _ h => hG H h.1) ?_ fun H h => hd H h.1 h.2
  rintro i x H H' hi ⟨s, hD⟩ y
  obtain ⟨rfl, yx⟩ := hY _ _ _ _ y
  refine ⟨wipe_again σ j (some x), tt_yes (hs i x H' hi s yx _ fun H4 s4 => ?_)⟩
  refine ⟨_, s4 _ _ hD, ?_, same_mut (s.trans s4) nD, ?_⟩
  · rw [List.length_map, List.length_range]
    exact small_lt (by omega)
  · rw [upd_same, List.range_succ, List.map_append]
    rfl
/-- over a source of draws: each element a number drawn -/
theorem lc_draws {n j : Nat} {p q : Addr} {cs : List Int} {b : Int} (Pd : Nat → Prop) {te : TE} {σ : L2.St} {H1 : Hp} {D : Addr} {Qd : Hp → Prop} (A : Deal H1 p q cs b) (nD : H1 D = none) (hn : n ≤ 100000)
    (hs : ∀ (i : Nat) H cs b, i < n → Deal H p q cs b → ∀ Q' : VK, (∀ H' m cs' b', Deal H' p q cs' b' → But p q H H' → Pd m → Q' (.int (m : Nat)) H') → te ((wipe σ [j]).set j (some (.int (0 + (i : Int))))) H Q')
    (hd : ∀ H (xs : List Nat) cs b, Deal H p q cs b → But p q H1 H → D ≠ p → D ≠ q → H D = some (.lst (xs.map natV)) → xs.length = n → (∀ x ∈ xs, Pd x) → Qd H) :
    ∃ W : Nat → Nat → Hp → Prop, (∃ m, W 0 m (upd H1 D (.lst []))) ∧ ∀ i m H, W i m H →
      ((Itr 0 n).stop i H ∧ Qd H) ∨ ((Itr 0 n).go i H ∧ ∃ Nx : Hp → Prop, (∀ H', Nx H' → ∃ m', m' < m ∧ W (i + 1) m' H') ∧ ∀ x H', (Itr 0 n).yld i H x H' → gName j x (wipe σ [j]) H' fun σ2 H2 => wipe σ2 [j] = wipe σ [j] ∧ tYes σ2 H2 fun b H3 =>
        if b = true then te σ2 H3 fun y H4 => ∃ acc, H4 D = some (.lst acc) ∧ acc.length < sizeLine ∧ Nx (upd H4 D (.lst (acc ++ [y]))) else Nx H3) := by
  have Dp : D ≠ p := (ne_of_none A.top nD).symm
  have Dq : D ≠ q := (ne_of_none A.low nD).symm
  refine lc_it walk_range (Qd := Qd) (fun i H => ∃ (xs : List Nat) (cs : List Int) (b : Int), Deal H p q cs b ∧ (∀ y o, y ≠ p → y ≠ q → y ≠ D → H1 y = some o → H y = some o) ∧ H D = some (.lst (xs.map natV)) ∧ xs.length = i ∧ ∀ x ∈ xs, Pd x)
    ⟨[], cs, b, A.keep (same_new nD), fun y o _ _ h3 h => by rw [upd_ne h3]; exact h, upd_same, rfl, fun x hx => absurd hx List.not_mem_nil⟩ (fun _ _ _ _ => trivial) ?_ ?_
  · rintro i x H H' hi ⟨xs, cs, b, A', fr, hD, hl, hP⟩ ⟨rfl, rfl⟩
    refine ⟨wipe_again σ j _, tt_yes (hs i H' cs b hi A' _ fun H4 m cs' b' A4 f4 hm => ?_)⟩
    refine ⟨_, f4 D _ Dp Dq hD, ?_, xs ++ [m], cs', b', A4.keepBut Dp Dq, fun y o h1 h2 h3 h => ?_, ?_, ?_, fun y hy => ?_⟩
    · rw [List.length_map]
      exact small_lt (by omega)
    · rw [upd_ne h3]
      exact f4 y o h1 h2 (fr y o h1 h2 h3 h)
    · rw [upd_same, List.map_append]
      rfl
    · rw [List.length_append, hl]
      rfl
    · rcases List.mem_append.mp hy with h | h
      · exact hP y h
      · rw [List.mem_singleton.mp h]
        exact hm
  · rintro H ⟨xs, cs, b, A', fr, hD, hl, hP⟩
    exact hd H xs cs b A' (fun y o h1 h2 h => fr y o h1 h2 (ne_of_none h nD) h) Dp Dq hD hl hP
end Lw
namespace Pw
def bmp : List (Nat × Nat) → Nat → List (Nat × Nat)
  | [], x => [(x, 1)]
  | (y, c) :: r, x => if y = x then (y, c + 1) :: r else (y, c) :: bmp r x
def cnm : List (Nat × Nat) → Nat → Nat
  | [], _ => 0
  | (y, c) :: r, x => if y = x then c else cnm r x
theorem bump_len : ∀ (r : List (Nat × Nat)) (x : Nat), (bmp r x).length ≤ r.length + 1
  | [], x => by simp [bmp]
  | (y, c) :: r, x => by
    unfold bmp
    by_cases h : y = x
    · rw [if_pos h]
      simp
    · rw [if_neg h]
      have := bump_len r x
      simp only [List.length_cons]
      omega
theorem bump_key : ∀ (r : List (Nat × Nat)) (x z : Nat), z ∈ (bmp r x).map (·.1) ↔ z = x ∨ z ∈ r.map (·.1)
  | [], x, z => by simp [bmp]
  | (y, c) :: r, x, z => by
    unfold bmp
    by_cases h : y = x
    · subst h
      rw [if_pos rfl]
      simp
    · rw [if_neg h]
      have ih := bump_key r x z
      simp only [List.map_cons, List.mem_cons] at ih ⊢
      rw [ih]
      grind
theorem bump_nd : ∀ (r : List (Nat × Nat)) (x : Nat), (r.map (·.1)).Nodup → ((bmp r x).map (·.1)).Nodup
  | [], x, _ => by simp [bmp]
  | (y, c) :: r, x, h => by
    unfold bmp
    rw [List.map_cons, List.nodup_cons] at h
    by_cases e : y = x
    · rw [if_pos e, List.map_cons, List.nodup_cons]
      exact h
    · rw [if_neg e, List.map_cons, List.nodup_cons]
      refine ⟨fun z => ?_, bump_nd r x h.2⟩
      rcases (bump_key r x y).mp z with q | q
      · exact e q
      · exact h.1 q
end Pw
namespace Lw
open PySem PySem.Spec PyProof.Rows L2 Gd Pw
def enc (r : List (Nat × Nat)) : List (Key × V) := r.map fun p => ((Sum.inl (p.1 : Int) : Key), V.int (p.2 : Int))
theorem enc_get : ∀ (r : List (Nat × Nat)) (x : Nat), (valV (enc r) (Sum.inl (x : Int) : Key)).getD (.int 0) = .int (cnm r x : Int)
  | [], x => rfl
  | (y, c) :: r, x => by
    have ih := enc_get r x
    show (valV (((Sum.inl (y : Int) : Key), V.int (c : Int)) :: enc r) (Sum.inl (x : Int) : Key)).getD (.int 0) = .int ((if y = x then c else cnm r x : Nat) : Int)
    by_cases h : y = x
    · subst h
      rw [valV_pos rfl, if_pos rfl]
      rfl
    · rw [valV_neg (fun e => h (by have := Sum.inl.inj e; omega)), if_neg h]
      exact ih
theorem enc_at : ∀ (r : List (Nat × Nat)) (x c : Nat), (r.map (·.1)).Nodup → (x, c) ∈ r → valV (enc r) (Sum.inl (x : Int) : Key) = some (.int (c : Int))
  | (y, d) :: r, x, c, nd, h => by
    rw [List.map_cons, List.nodup_cons] at nd
    show valV (((Sum.inl (y : Int) : Key), V.int (d : Int)) :: enc r) (Sum.inl (x : Int) : Key) = _
    rcases List.mem_cons.mp h with e | h
    · cases e
      rw [valV_pos rfl]
    · have hne : y ≠ x := fun e => nd.1 (e ▸ List.mem_map.mpr ⟨_, h, rfl⟩)
      rw [valV_neg (fun e => hne (by have := Sum.inl.inj e; omega))]
      exact enc_at r x c nd.2 h
theorem enc_map : ∀ (r : List (Nat × Nat)) (x : Nat) (v : V), x ∉ r.map (·.1) → (enc r).map (fun kv => if kv.1 = (Sum.inl (x : Int) : Key) then (kv.1, v) else kv) = enc r
  | [], _, _, _ => rfl
  | (y, c) :: r, x, v, h => by
    have h1 : y ≠ x := fun e => h (by rw [e]; simp)
    have h2 : x ∉ r.map (·.1) := fun e => h (List.mem_cons_of_mem _ e)
    show (if (Sum.inl (y : Int) : Key) = Sum.inl (x : Int) then _ else _) :: (enc r).map _ = _
    rw [if_neg (fun e => h1 (by have := Sum.inl.inj e; omega)), enc_map r x v h2]
    rfl
theorem enc_put : ∀ (r : List (Nat × Nat)) (x : Nat), (r.map (·.1)).Nodup → putK (enc r) (Sum.inl (x : Int) : Key) (.int ((cnm r x : Int) + 1)) = enc (bmp r x)
  | [], x, _ => rfl
  | (y, c) :: r, x, nd => by
    have nd' := nd
    rw [List.map_cons, List.nodup_cons] at nd
    unfold putK
    by_cases h : y = x
    · subst h
      have e1 : ((enc ((y, c) :: r)).any fun kv => decide (kv.1 = (Sum.inl (y : Int) : Key))) = true := by
        show (decide ((Sum.inl (y : Int) : Key) = Sum.inl (y : Int)) || _) = true
        rw [decide_eq_true rfl, Bool.true_or]
      rw [if_pos e1]
      show (if (Sum.inl (y : Int) : Key) = Sum.inl (y : Int) then _ else _) :: (enc r).map _ = _
      rw [if_pos rfl, enc_map r y _ nd.1]
      unfold bmp cnm
      rw [if_pos rfl, if_pos rfl]
      rfl
    · have hk : ¬ (Sum.inl (y : Int) : Key) = Sum.inl (x : Int) := fun e => h (by have := Sum.inl.inj e; omega)
      have ih := enc_put r x nd.2
      unfold putK at ih
      have e1 : ((enc ((y, c) :: r)).any fun kv => decide (kv.1 = (Sum.inl (x : Int) : Key))) = ((enc r).any fun kv => decide (kv.1 = (Sum.inl (x : Int) : Key))) := by
        show (decide ((Sum.inl (y : Int) : Key) = Sum.inl (x : Int)) || _) = _
        rw [decide_eq_false hk, Bool.false_or]
        rfl
      rw [e1]
      unfold cnm bmp
      rw [if_neg h, if_neg h]
      by_cases ha : ((enc r).any fun kv => decide (kv.1 = (Sum.inl (x : Int) : Key))) = true
      · rw [if_pos ha] at ih ⊢
        show (if (Sum.inl (y : Int) : Key) = Sum.inl (x : Int) then _ else _) :: (enc r).map _ = _
        rw [if_neg hk, ih]
        rfl
      · rw [if_neg ha] at ih ⊢
        show _ :: (enc r ++ _) = _
        rw [ih]
        rfl
end Lw
namespace Lw
open PySem PySem.Spec PyProof.Rows L2 Gd Ld Pw
structure Zs (K : PySem.W.Frag) (mg : Str → Option Value) : Prop where
  z_len : mg "len" = none
  z_range : mg "range" = none
  z_sum : mg "sum" = none
  z_min : mg "min" = none
  z_repr : mg "repr" = none
  z_tuple : mg "tuple" = none
  dig : PySem.W.nsIn K cStatics "sys.int_max_str_digits" = some none
abbrev s_least_depths : Stmt := topS 1
abbrev n_least_depths : List Str := ["x", "m", "level", "full", "more", "inner"]
theorem sc_least_depths : FnScope n_least_depths ["x", "m"] (defScope s_least_depths) := ⟨rfl, rfl, rfl, by decide +kernel, rfl, by decide +kernel, by decide +kernel⟩
abbrev s_depth_potential : Stmt := topS 2
abbrev n_depth_potential : List Str := ["table", "m", "counts", "row", "x"]
theorem sc_depth_potential : FnScope n_depth_potential ["table", "m"] (defScope s_depth_potential) := ⟨rfl, rfl, rfl, by decide +kernel, rfl, by decide +kernel, by decide +kernel⟩
abbrev s_law_least_depths : Stmt := topS 8
abbrev n_law_least_depths : List Str := ["most", "m", "least", "x", "rows", "turn", "row", "k", "some", "one"]
theorem sc_law_least_depths : FnScope n_law_least_depths ["most", "m"] (defScope s_law_least_depths) := ⟨rfl, rfl, rfl, by decide +kernel, rfl, by decide +kernel, by decide +kernel⟩
abbrev s_law_sum : Stmt := topS 9
abbrev n_law_sum : List Str := ["table", "least", "row", "x"]
theorem sc_law_sum : FnScope n_law_sum ["table", "least"] (defScope s_law_sum) := ⟨rfl, rfl, rfl, by decide +kernel, rfl, by decide +kernel, by decide +kernel⟩
abbrev s_law_by_rule : Stmt := topS 10
abbrev n_law_by_rule : List Str := ["x", "m", "depth", "ends", "total", "lack", "wide", "grown"]
theorem sc_law_by_rule : FnScope n_law_by_rule ["x", "m"] (defScope s_law_by_rule) := ⟨rfl, rfl, rfl, by decide +kernel, rfl, by decide +kernel, by decide +kernel⟩
abbrev s_law : Stmt := topS 11
abbrev n_law : List Str := ["script", "deal", "m", "least", "told", "turn", "x", "fan", "some", "theirs", "both", "most", "round_one", "table", "one", "row"]
theorem sc_law : FnScope n_law ["script"] (defScope s_law) := ⟨rfl, rfl, rfl, by decide +kernel, rfl, by decide +kernel, by decide +kernel⟩
section
variable {P : Program} {w : World} {K : PySem.W.Frag} {mg : Str → Option Value} {base : Heap}
def spLD : Sp := fun vs H Q _ => ∃ x m : Nat, vs = [.int (x : Int), .int (m : Int)] ∧ 2 ≤ m ∧ m ≤ 64 ∧ x < 2 ^ 20 ∧ Q (.int (LD x m : Nat)) H
theorem ok_least_depths {f : Addr} {fd : FuncData} {k : Nat} (F : Fun K "least_depths" "least_depths" s_least_depths f fd)  : FnG P w K mg base (k + 1) f fd ["x", "m"] spLD := by
  refine okG F sc_least_depths (fun {vs H Q E} h => ?_) (fun cdv A outer s H vs Q E st hr h => ?_)
  · obtain ⟨x, m, rfl, _⟩ := h
    rfl
  · have hu := hu_of hr
    have sc := sc_least_depths
    obtain ⟨x, m, rfl, hm, hm2, hx, q⟩ := h
    refine ⟨_, (pss_cons (ps_if (pt_cmpR op_eq (pv 0) pe_int (nomark _)) (pss_one (ps_ret pe_int)) pss_nil)
      (pss_cons (ps_set (i := 2) sc.nd rfl (.inl rfl) pe_int)
      (pss_cons (ps_set (i := 3) sc.nd rfl (.inl rfl) pe_int)
      (pss_cons (ps_while PassesOwn.never (pt_cmpR op_le (pe_op op_mul (pv 3) (pv 1)) (pv 0) (nomark _)) (pss_cons (ps_set (i := 3) sc.nd rfl (.inl rfl) (pe_op op_mul (pv 3) (pv 1)))
      (pss_one (ps_aug (i := 2) sc.nd rfl (.inl rfl) pe_int ip_add))))
      (pss_cons (ps_set (i := 4) sc.nd rfl (.inl rfl) (pe_op op_sub (pv 0) (pv 3)))
      (pss_cons (ps_set (i := 5) sc.nd rfl (.inl rfl) (pe_op op_fdiv (pe_op op_sub (pe_op op_add (pv 4) (pv 1)) pe_int) (pe_op op_sub (pv 1) pe_int)))
      (pss_one (ps_ret (pe_op op_add (pe_op op_add (pe_op op_mul (pv 2) (pv 0)) (pv 4)) (pv 5)))))))))), ?_⟩
    refine ⟨_, rfl, rfl, _, rfl, ite2 (fun h => ?_) (fun h => ?_)⟩
    · have e : x = 0 := by have := V.int.inj (of_decide_eq_true h); omega
      subst e
      rw [LD_zero] at q
      exact q
    have hx0 : 1 ≤ x := by
      rcases Nat.eq_zero_or_pos x with e | e
      · subst e
        exact absurd (decide_eq_true rfl) h
      · exact e
    refine ⟨fun mm σ H1 => ∃ l f : Nat, σ = [some (.int (x : Int)), some (.int (m : Int)), some (.int (l : Int)), some (.int (f : Int)), none, none] ∧ lvl x m mm l f = lvl x m x 0 1 ∧ 1 ≤ f ∧ f ≤ x ∧ x ≤ mm + f ∧ H1 = H,
      ⟨x, 0, 1, rfl, rfl, by omega, by omega, by omega, rfl⟩, ?_⟩
    rintro n σ H1 ⟨l, f, rfl, hl, hf, hfx, hn, eH⟩
    subst eH
    have hmul : ((f : Int) * (m : Int)) = ((f * m : Nat) : Int) := (Int.natCast_mul ..).symm
    refine ⟨_, rfl, _, rfl, _, _, rfl, rfl, .inr ⟨by omega, by omega⟩, _, rfl, _, _, rfl, rfl, _, rfl, ite2 (fun h => ?_) (fun h => ?_)⟩
    · have hle : f * m ≤ x := by
        have := of_decide_eq_true h
        rw [hmul] at this
        omega
      have h2 : f * 2 ≤ f * m := Nat.mul_le_mul_left f hm
      obtain ⟨n', rfl⟩ : ∃ n', n = n' + 1 := ⟨n - 1, by omega⟩
      refine ⟨fun σ H2 => ∃ l f : Nat, σ = [some (.int (x : Int)), some (.int (m : Int)), some (.int (l : Int)), some (.int (f : Int)), none, none] ∧ lvl x m n' l f = lvl x m x 0 1 ∧ 1 ≤ f ∧ f ≤ x ∧ x ≤ n' + f ∧ H2 = H1,
        fun σ' H' ⟨l, f, a1, a2, a3, a4, a5, a7⟩ => ⟨n', by omega, l, f, a1, a2, a3, a4, a5, a7⟩, ?_⟩
      refine ⟨_, rfl, _, rfl, _, _, rfl, rfl, .inr ⟨by omega, by omega⟩, _, rfl, _, _, rfl, rfl, l + 1, f * m, ?_, ?_, by omega, hle, by omega, rfl⟩
      · rw [← hmul]
        rfl
      · rw [← hl]
        show _ = lvl x m (n' + 1) l f
        rw [show lvl x m (n' + 1) l f = if f * m ≤ x then lvl x m n' (l + 1) (f * m) else (l, f) from rfl, if_pos hle]
    · have hgt : ¬ f * m ≤ x := fun z => h (decide_eq_true (by rw [hmul]; omega))
      have hend : lvl x m x 0 1 = (l, f) := by
        rw [← hl]
        cases n with
        | zero => rfl
        | succ n => rw [show lvl x m (n + 1) l f = if f * m ≤ x then lvl x m n (l + 1) (f * m) else (l, f) from rfl, if_neg hgt]
      refine ⟨_, rfl, _, rfl, _, _, rfl, rfl, ?_⟩
      refine ⟨_, rfl, _, rfl, _, _, rfl, rfl, _, _, rfl, rfl, _, rfl, _, _, rfl, rfl, _, _, rfl, rfl, ⟨by omega, by omega⟩, ?_⟩
      refine ⟨_, rfl, _, rfl, _, _, rfl, rfl, .inr ⟨by omega, by omega⟩, _, rfl, _, _, rfl, rfl, _, rfl, _, _, rfl, rfl, ?_⟩
      have hv : (LD x m : Int) = (l : Int) * (x : Int) + ((x : Int) - (f : Int)) + ((x : Int) - (f : Int) + (m : Int) - 2) / ((m : Int) - 1) := by
        unfold LD
        rw [if_neg (by omega), hend]
        dsimp only
        rw [show (x : Int) - (f : Int) = ((x - f : Nat) : Int) by omega, show ((x - f : Nat) : Int) + (m : Int) - 2 = ((x - f + m - 2 : Nat) : Int) by omega, show (m : Int) - 1 = ((m - 1 : Nat) : Int) by omega]
        rw [Int.natCast_add, Int.natCast_add, Int.natCast_mul, Int.natCast_ediv]
      rw [hv] at q
      exact q

structure Z2 (P : Program) (w : World) (K : PySem.W.Frag) (mg : Str → Option Value) (base : Heap) where
  z_sum : mg "sum" = none
  least_depths : Cal P w K mg base 1 "least_depths" ["x", "m"] spLD
theorem range_map {α β : Type} (d : β) (f : α → β) (l : List α) : (List.range l.length).map (fun i => (l[i]?.map f).getD d) = l.map f := by
  refine List.ext_getElem? fun i => ?_
  rw [List.getElem?_map, List.getElem?_map]
  by_cases h : i < l.length
  · rw [List.getElem?_range h, List.getElem?_eq_getElem h]
    show some ((l[i]?.map f).getD d) = some (f l[i])
    rw [List.getElem?_eq_getElem h]
    rfl
  · rw [List.getElem?_eq_none (by rw [List.length_range]; omega), List.getElem?_eq_none (by omega)]
    rfl
def dpT (m : Nat) : List (List Nat) → Nat
  | [] => 0
  | xs :: r => sumL m xs + dpT m r
theorem sumL_app (m : Nat) : ∀ xs ys : List Nat, sumL m (xs ++ ys) = sumL m xs + sumL m ys
  | [], ys => by show sumL m ys = 0 + sumL m ys; rw [Nat.zero_add]
  | x :: xs, ys => by
    show LD x m + sumL m (xs ++ ys) = LD x m + sumL m xs + sumL m ys
    rw [sumL_app m xs ys, Nat.add_assoc]
theorem dpT_app (m : Nat) : ∀ xs ys : List (List Nat), dpT m (xs ++ ys) = dpT m xs + dpT m ys
  | [], ys => by show dpT m ys = 0 + dpT m ys; rw [Nat.zero_add]
  | x :: xs, ys => by
    show sumL m x + dpT m (xs ++ ys) = sumL m x + dpT m xs + dpT m ys
    rw [dpT_app m xs ys, Nat.add_assoc]
/-- what the dict holds, each number weighed -/
def sumw (f : Nat → Nat) : List (Nat × Nat) → Nat
  | [] => 0
  | (y, c) :: r => f y * c + sumw f r
theorem sumw_bump (f : Nat → Nat) : ∀ (r : List (Nat × Nat)) (x : Nat), sumw f (bmp r x) = sumw f r + f x
  | [], x => by simp [bmp, sumw]
  | (y, c) :: r, x => by
    unfold bmp
    by_cases h : y = x
    · subst h
      rw [if_pos rfl]
      show f y * (c + 1) + sumw f r = f y * c + sumw f r + f y
      rw [Nat.mul_add]
      omega
    · rw [if_neg h]
      show f y * c + sumw f (bmp r x) = f y * c + sumw f r + f x
      rw [sumw_bump f r x]
      omega
theorem cnt_bump (x : Nat) : ∀ (r : List (Nat × Nat)) (N : Nat), (∀ p ∈ r, p.2 ≤ N) → ∀ p ∈ bmp r x, p.2 ≤ N + 1
  | [], N, _, p, hp => by
    rw [List.mem_singleton.mp hp]
    show 1 ≤ N + 1
    omega
  | (y, c) :: r, N, h, p, hp => by
    unfold bmp at hp
    by_cases e : y = x
    · rw [if_pos e] at hp
      rcases List.mem_cons.mp hp with q | q
      · rw [q]
        have := h (y, c) (by simp)
        show c + 1 ≤ N + 1
        have : c ≤ N := this
        omega
      · have := h p (List.mem_cons_of_mem _ q)
        omega
    · rw [if_neg e] at hp
      rcases List.mem_cons.mp hp with q | q
      · rw [q]
        have := h (y, c) (by simp)
        show c ≤ N + 1
        have : c ≤ N := this
        omega
      · exact cnt_bump x r N (fun p hp => h p (List.mem_cons_of_mem _ hp)) p q
structure Tallw (f : Nat → Nat) (kvs : List (Nat × Nat)) (sm ub : Nat) : Prop where
  su : sumw f kvs = sm
  le : kvs.length ≤ ub
  nd : (kvs.map (·.1)).Nodup
  cn : ∀ p ∈ kvs, p.2 ≤ ub
theorem Tallw.step {f : Nat → Nat} {kvs : List (Nat × Nat)} {su le : Nat} (T : Tallw f kvs su le) (x : Nat) : Tallw f (bmp kvs x) (su + f x) (le + 1) :=
  ⟨by rw [sumw_bump, T.su], Nat.le_trans (bump_len _ _) (Nat.succ_le_succ T.le), bump_nd _ _ T.nd, cnt_bump x kvs le T.cn⟩
theorem sumw_map (f : Nat → Nat) : ∀ kvs : List (Nat × Nat), (kvs.map fun p => ((f p.1 * p.2 : Nat) : Int)).sum = ((sumw f kvs : Nat) : Int)
  | [] => rfl
  | (y, c) :: r => by
    rw [List.map_cons, List.sum_cons, sumw_map f r]
    show _ = ((f y * c + sumw f r : Nat) : Int)
    rw [Int.natCast_add]
def spDP (K : PySem.W.Frag) : Sp := fun vs H Q _ => ∃ (t : Addr) (rows : List (List Nat)) (m : Nat), vs = [.ref t, .int (m : Int)] ∧ TabT K H t rows ∧ 2 ≤ m ∧ m ≤ 64 ∧ (∀ xs ∈ rows, ∀ x ∈ xs, x < 2 ^ 16) ∧ rows.length ≤ 20 ∧ (∀ xs ∈ rows, xs.length ≤ 20) ∧
  ∀ H', Same H H' → Q (.int (dpT m rows : Nat)) H'
theorem ok_depth_potential {f : Addr} {fd : FuncData} {k : Nat} (F : Fun K "depth_potential" "depth_potential" s_depth_potential f fd) (T : Z2 P w K mg base) : FnG P w K mg base (k + 1 + 1) f fd ["table", "m"] (spDP K) := by
  refine okG F sc_depth_potential (fun {vs H Q E} h => ?_) (fun cdv A outer s H vs Q E st hr h => ?_)
  · obtain ⟨t, rows, m, rfl, _⟩ := h
    rfl
  · have hu := hu_of hr
    have sc := sc_depth_potential
    obtain ⟨t, rows, m, rfl, ⟨as, hT, hlen, hrow⟩, hm, hm2, hx, hl1, hl2, q⟩ := h
    refine ⟨_, (pss_cons (ps_set (i := 2) sc.nd rfl (.inr rfl) pe_dnewK)
      (pss_cons (ps_for PassesOwn.never rfl (pi_tupK (K := K) rfl (pv 0)) (pg_name (i := 3) sc.nd rfl (.inl rfl)) (pss_one (ps_for PassesOwn.never rfl (pi_tupK (K := K) rfl (pv 3)) (pg_name (i := 4) sc.nd rfl (.inl rfl)) (pss_one (ps_dput hu (pv 2) (pv 4) (pe_op op_add (pe_dget2 hu (pv 2) (pv 4) pe_int ⟨rfl, rfl, rfl, rfl⟩) pe_int) rfl)))))
      (pss_one (ps_ret (pe_callB (sumK (K := K) rfl rfl) (by rfl) T.z_sum (by decide +kernel) (pa_cons (pe_lock (pe_lc (own := [("x", 4)]) (g := gName 4) (tt := tYes) rfl sc.nd (pi_keys (pv 2)) (blk_in (N := n_depth_potential) (by decide +kernel) (by repeat (first | exact trivial | exact Or.inl rfl | exact Or.inr rfl | refine And.intro ?_ ?_))) (fun _ _ _ _ _ => (pg_name (i := 4) sc.nd rfl (.inl rfl))) (fun _ _ _ _ _ => pts_nil) (fun _ _ _ _ _ => (pe_op op_mul (pe_cal T.least_depths st (hr.mono (by omega)) (pa_cons (pv 4) (pa_cons (pv 1) pa_nil))) (pe_dget hu (pv 2) (pv 4) (fun _ _ => rfl)))))) pa_nil)))))), ?_⟩
    intro d nd
    have s1 : Same H (upd H d (.dK [])) := same_new nd
    refine ⟨_, rfl, t, rfl, ⟨_, same_tup s1 hT⟩, for_tup (K := K) (a := t) (xs := as.map V.ref) (fun i σ H1 => ∃ v3 v4 kvs, σ = [some (.ref t), some (.int (m : Int)), some (.ref d), v3, v4] ∧ Same H H1 ∧ H1 d = some (.dK (enc kvs)) ∧ Tallw (LD · m) kvs (dpT m (rows.take i)) (20 * i) ∧ (∀ p ∈ kvs, p.1 < 2 ^ 16))
      ⟨none, none, [], rfl, s1, upd_same, ⟨rfl, Nat.le_refl _, List.nodup_nil, fun p hp => absurd hp List.not_mem_nil⟩, fun p hp => absurd hp List.not_mem_nil⟩ (fun i σ H1 _ ⟨_, _, _, _, sm, _⟩ => same_tup sm hT) ?_ ?_⟩
    · rintro i x σ H1 hi ⟨v3, v4, kvs, rfl, sm, ed, T1, kb⟩
      obtain ⟨a, ha, rfl⟩ := ref_at hi
      have hil : i < rows.length := by rw [← hlen]; exact (List.getElem?_eq_some_iff.mp ha).1
      have hxs : rows[i]? = some rows[i] := List.getElem?_eq_getElem hil
      generalize rows[i] = xs at hxs
      have hmem := List.mem_of_getElem? hxs
      have hA := hrow i a xs ha hxs
      refine ⟨_, rfl, a, rfl, ⟨_, same_tup sm hA⟩, for_tup (K := K) (a := a) (xs := xs.map natV) (fun j σ H2 => ∃ v4 kvs, σ = [some (.ref t), some (.int (m : Int)), some (.ref d), some (.ref a), v4] ∧ Same H H2 ∧ H2 d = some (.dK (enc kvs)) ∧ Tallw (LD · m) kvs (dpT m (rows.take i) + sumL m (xs.take j)) (20 * i + j) ∧ (∀ p ∈ kvs, p.1 < 2 ^ 16))
        ⟨v4, kvs, rfl, sm, ed, by simpa [sumL] using T1, kb⟩ (fun j σ H2 _ ⟨_, _, _, sm2, _⟩ => same_tup sm2 hA) ?_ ?_⟩
      · rintro j x σ H2 hj ⟨v4, kvs, rfl, sm2, ed2, T2, kb2⟩
        have hjl := (List.getElem?_eq_some_iff.mp hj).1
        rw [List.length_map] at hjl
        obtain ⟨z, hz, rfl⟩ := nat_at hj
        have hzb := hx xs hmem z (List.mem_of_getElem? hz)
        have hll := hl2 xs hmem
        have hkl : (enc kvs).length < sizeLine := by
          have := T2.le
          rw [show (enc kvs).length = kvs.length from List.length_map ..]
          exact small1000 (by omega)
        refine ⟨_, rfl, d, rfl, .inl ⟨_, .inl ed2⟩, _, rfl, _, DGet.k (k := Sum.inl (z : Int)) ed2, ?_⟩
        rw [enc_get]
        refine ⟨_, _, rfl, rfl, _, rfl, _, rfl, d, _, rfl, DPut.k (k := Sum.inl (z : Int)) ed2 hkl, ?_⟩
        rw [enc_put _ _ T2.nd]
        refine ⟨some (natV z), bmp kvs z, rfl, same_mut sm2 nd, upd_same, ?_, ?_⟩
        · have h := T2.step z
          rw [takeN hz, sumL_app]
          simpa [sumL, Nat.add_assoc] using h
        · intro p hp
          rcases (bump_key kvs z p.1).mp (List.mem_map.mpr ⟨p, hp, rfl⟩) with e | e
          · rw [e]
            exact hzb
          · obtain ⟨p', hp', e'⟩ := List.mem_map.mp e
            rw [← e']
            exact kb2 p' hp'
      · rintro σ H2 ⟨v4, kvs, rfl, sm2, ed2, T2, kb2⟩
        rw [List.length_map, List.take_length] at T2
        have hll := hl2 xs hmem
        refine ⟨_, v4, kvs, rfl, sm2, ed2, ⟨?_, ?_, T2.nd, fun p hp => ?_⟩, kb2⟩
        · rw [takeN hxs, dpT_app, T2.su]
          simp [dpT]
        · have := T2.le
          omega
        · have := T2.cn p hp
          omega
    · rintro σ H1 ⟨v3, v4, kvs, rfl, sm, ed, T1, kb⟩
      rw [List.length_map, hlen, List.take_length] at T1
      refine ⟨d, _, ed, trivial, fun od => ?_⟩
      have s2 : ∀ H2, Same (upd H1 d (.frz od (.dK (enc kvs)))) H2 → H2 d = some (.frz od (.dK (enc kvs))) := fun H2 s => s _ _ upd_same
      refine ⟨_, rfl, d, od, rfl, .inl ⟨enc kvs, upd_same, fun D nD => ?_⟩⟩
      have el : (enc kvs).length = kvs.length := List.length_map ..
      have kl := T1.le
      refine lc_vals (n := (enc kvs).length) (j := 4) (Yx := fun i x => ∃ k v, (enc kvs)[i]? = some (k, v) ∧ x = kV k) walk_keys nD (fun i => (kvs[i]?.map fun p => V.int ((LD p.1 m * p.2 : Nat) : Int)).getD .non) (by rw [el]; omega) (fun _ _ _ _ y => y) s2 ?_ ?_
      · rintro i x H2 hi s3 ⟨kk, vv, hk, rfl⟩ Q' hQ
        rw [el] at hi
        have hxc : kvs[i]? = some kvs[i] := List.getElem?_eq_getElem hi
        have hmm := List.getElem_mem hi
        generalize kvs[i] = p at hxc hmm
        obtain ⟨x, c⟩ := p
        have e : (kk, vv) = ((Sum.inl (x : Int) : Key), V.int (c : Int)) := by
          unfold enc at hk
          rw [List.getElem?_map, hxc] at hk
          exact (Option.some.inj hk).symm
        cases e
        rw [hxc] at hQ
        have hxb := kb _ hmm
        have hcb := T1.cn _ hmm
        have g : DGet H2 d (.int (x : Int)) (some (.int (c : Int))) := .inl ⟨enc kvs, Sum.inl (x : Int), .inr ⟨od, s2 H2 s3⟩, rfl, (enc_at kvs x c T1.nd hmm).symm⟩
        refine ⟨_, rfl, _, rfl, x, m, rfl, hm, hm2, by omega, _, rfl, _, rfl, d, _, rfl, g, _, _, rfl, rfl, .inr ⟨by omega, by omega⟩, ?_⟩
        have h := hQ H2 (Same.refl _)
        show Q' (.int ((LD x m : Nat) * (c : Int))) H2
        rw [← Int.natCast_mul]
        exact h
      · intro H2 s3 hD
        rw [el, range_map] at hD
        have dD : D ≠ d := fun e => by
          rw [e, upd_same] at nD
          cases nD
        refine ⟨s2 H2 s3, D, kvs.map fun p => ((LD p.1 m * p.2 : Nat) : Int), rfl, sq_at (by rw [upd_ne dD, hD, List.map_map]; rfl), ?_⟩
        rw [sumw_map (LD · m), T1.su]
        refine q _ fun b o h => ?_
        have hb : b ≠ d := ne_of_none h nd
        rw [upd_ne hb]
        refine s3 b o ?_
        rw [upd_ne hb]
        exact sm b o h

/-! ### the law's own sums -/
def spLS (K : PySem.W.Frag) : Sp := fun vs H Q _ => ∃ (t l : Addr) (rows : List (List Nat)) (m : Nat), vs = [.ref t, .ref l] ∧ TabT K H t rows ∧ SqL K H l ((told m 31).map natV) ∧ (∀ xs ∈ rows, ∀ x ∈ xs, x < 31) ∧ rows.length ≤ 20 ∧ (∀ xs ∈ rows, xs.length ≤ 20) ∧
  ∀ H', Same H H' → Q (.int (dpT m rows : Nat)) H'
theorem told_at {m n x : Nat} (h : x < n) : (told m n)[x]? = some (LD x m) := by
  unfold told
  rw [List.getElem?_map, List.getElem?_range h]
  rfl
theorem sumL_map (m : Nat) : ∀ xs : List Nat, (xs.map fun x => ((LD x m : Nat) : Int)).sum = ((sumL m xs : Nat) : Int)
  | [] => rfl
  | x :: xs => by
    rw [List.map_cons, List.sum_cons, sumL_map m xs]
    show _ = ((LD x m + sumL m xs : Nat) : Int)
    rw [Int.natCast_add]
theorem dpT_map (m : Nat) : ∀ rows : List (List Nat), (rows.map fun xs => ((sumL m xs : Nat) : Int)).sum = ((dpT m rows : Nat) : Int)
  | [] => rfl
  | xs :: r => by
    rw [List.map_cons, List.sum_cons, dpT_map m r]
    show _ = ((sumL m xs + dpT m r : Nat) : Int)
    rw [Int.natCast_add]
theorem ok_law_sum {f : Addr} {fd : FuncData} {k : Nat} (F : Fun K "_law_sum" "_law_sum" s_law_sum f fd) (T : Zs K mg) : FnG P w K mg base (k + 1) f fd ["table", "least"] (spLS K) := by
  refine okG F sc_law_sum (fun {vs H Q E} h => ?_) (fun cdv A outer s H vs Q E st hr h => ?_)
  · obtain ⟨t, l, rows, m, rfl, _⟩ := h
    rfl
  · have hu := hu_of hr
    have sc := sc_law_sum
    obtain ⟨t, l, rows, m, rfl, ⟨as, hT, hlen, hrow⟩, hL, hx, hl1, hl2, q⟩ := h
    refine ⟨_, (pss_one (ps_ret (pe_callB (sumK (K := K) rfl rfl) (by rfl) T.z_sum (by decide +kernel) (pa_cons (pe_lc (own := [("row", 2)]) (g := gName 2) (tt := tYes) rfl sc.nd (pi_tupK (K := K) rfl (pv 0)) (blk_in (N := n_law_sum) (by decide +kernel) (by repeat (first | exact trivial | exact Or.inl rfl | exact Or.inr rfl | refine And.intro ?_ ?_))) (fun _ _ _ _ _ => (pg_name (i := 2) sc.nd rfl (.inl rfl))) (fun _ _ _ _ _ => pts_nil) (fun _ _ _ _ _ => (pe_callB (sumK (K := K) rfl rfl) (by rfl) T.z_sum (by decide +kernel) (pa_cons (pe_lc (own := [("x", 3)]) (g := gName 3) (tt := tYes) rfl sc.nd (pi_tupK (K := K) rfl (pv 2)) (blk_in (N := n_law_sum) (by decide +kernel) (by repeat (first | exact trivial | exact Or.inl rfl | exact Or.inr rfl | refine And.intro ?_ ?_))) (fun _ _ _ _ _ => (pg_name (i := 3) sc.nd rfl (.inl rfl))) (fun _ _ _ _ _ => pts_nil) (fun _ _ _ _ _ => (pe_ix (ixLK (K := K) rfl) (pv 1) (pv 3) (fun _ _ => rfl)))) pa_nil)))) pa_nil)))), ?_⟩
    refine ⟨_, rfl, t, rfl, ⟨_, hT⟩, fun D nD => ?_⟩
    have el : (as.map V.ref).length = rows.length := by rw [List.length_map, hlen]
    refine lc_vals (n := (as.map V.ref).length) (j := 2) (Yx := fun i x => (as.map V.ref)[i]? = some x) walk_tup nD (fun i => (rows[i]?.map fun xs => V.int ((sumL m xs : Nat) : Int)).getD .non) (by rw [el]; omega) (fun _ _ _ _ y => y) (fun H2 s => same_tup s hT) ?_ ?_
    · rintro i x H2 hi s3 hk Q' hQ
      obtain ⟨a, ha, rfl⟩ := ref_at hk
      rw [el] at hi
      have hxs : rows[i]? = some rows[i] := List.getElem?_eq_getElem hi
      have hmem := List.getElem_mem hi
      generalize rows[i] = xs at hxs hmem
      rw [hxs] at hQ
      have hA := hrow i a xs ha hxs
      refine ⟨_, rfl, a, rfl, ⟨_, same_tup s3 hA⟩, fun G nG => ?_⟩
      refine lc_vals (n := (xs.map natV).length) (j := 3) (Yx := fun i x => (xs.map natV)[i]? = some x) walk_tup nG (fun j => (xs[j]?.map fun x => V.int ((LD x m : Nat) : Int)).getD .non) (by rw [List.length_map]; have := hl2 xs hmem; omega) (fun _ _ _ _ y => y) (fun H4 s => same_tup (s3.trans s) hA) ?_ ?_
      · rintro j x H4 hj s4 hz0 Q2 hQ2
        obtain ⟨z, hz, rfl⟩ := nat_at hz0
        rw [hz] at hQ2
        have hzb := hx xs hmem z (List.mem_of_getElem? hz)
        exact ⟨_, rfl, _, rfl, l, _, (z : Int), natV (LD z m), rfl, rfl, (s3.trans s4).seq hL, atI_nat (by rw [List.getElem?_map, told_at hzb]; rfl), hQ2 H4 (Same.refl _)⟩
      · intro H4 s4 hG
        rw [List.length_map, range_map] at hG
        refine ⟨G, xs.map fun x => ((LD x m : Nat) : Int), rfl, sq_at (by rw [hG, List.map_map]; rfl), ?_⟩
        rw [sumL_map]
        exact hQ H4 s4
    · intro H2 s3 hD
      rw [el, range_map] at hD
      refine ⟨D, rows.map fun xs => ((sumL m xs : Nat) : Int), rfl, sq_at (by rw [hD, List.map_map]; rfl), ?_⟩
      rw [dpT_map]
      exact q H2 s3

def spRule : Sp := fun vs H Q _ => ∃ x m : Nat, vs = [.int (x : Int), .int (m : Int)] ∧ 2 ≤ m ∧ m ≤ 64 ∧ x < 2 ^ 20 ∧ ∀ H', Same H H' → Q (.int (LD x m : Nat)) H'
/-- where the rule stands -/
structure Ru (x m k d E tot lack wide : Nat) : Prop where
  en : E = m ^ k + d * (m - 1)
  to : tot = k * E + d * m
  wi : wide + d = m ^ k
  la : lack + E = x
theorem ok_law_by_rule {f : Addr} {fd : FuncData} {k : Nat} (F : Fun K "_law_by_rule" "_law_by_rule" s_law_by_rule f fd) (T : Zs K mg) : FnG P w K mg base (k + 1) f fd ["x", "m"] spRule := by
  refine okG F sc_law_by_rule (fun {vs H Q E} h => ?_) (fun cdv A outer s H vs Q E st hr h => ?_)
  · obtain ⟨x, m, rfl, _⟩ := h
    rfl
  · have hu := hu_of hr
    have sc := sc_law_by_rule
    obtain ⟨x, m, rfl, hm, hm2, hx, q⟩ := h
    refine ⟨_, (pss_cons (ps_if (pt_cmpR op_eq (pv 0) pe_int (nomark _)) (pss_one (ps_ret pe_int)) pss_nil)
      (pss_cons (ps_asg (pe_tup (pa_cons pe_int (pa_cons pe_int (pa_cons pe_int (pa_cons (pe_op op_sub (pv 0) pe_int) (pa_cons pe_int pa_nil)))))) (pg_tup (by rfl) (pgs_cons (pg_name (i := 2) sc.nd rfl (.inl rfl)) (pgs_cons (pg_name (i := 3) sc.nd rfl (.inl rfl)) (pgs_cons (pg_name (i := 4) sc.nd rfl (.inl rfl)) (pgs_cons (pg_name (i := 5) sc.nd rfl (.inl rfl)) (pgs_cons (pg_name (i := 6) sc.nd rfl (.inl rfl)) pgs_nil)))))))
      (pss_cons (ps_while PassesOwn.never (pt_cmpR op_gt (pv 5) pe_int (nomark _)) (Evl.pss_cut (ps_if (pt_cmpR op_eq (pv 6) pe_int (nomark _)) (pss_one (ps_par rfl sc.nd (i := 2) (j := 6) rfl rfl (by decide) rfl rfl (pa_cons (pe_op op_add (pv 2) pe_int) (pa_cons (pv 3) pa_nil)) (by rfl))) pss_nil)
      (pss_cons (ps_set (i := 7) sc.nd rfl (.inl rfl) (pe_callB (call_min2 rfl) (by rfl) T.z_min (by decide +kernel) (pa_cons (pe_op op_sub (pv 1) pe_int) (pa_cons (pv 5) pa_nil))))
      (pss_one (ps_asg (pe_tup (pa_cons (pe_op op_add (pe_op op_add (pe_op op_add (pv 4) (pe_op op_mul (pv 2) (pv 7))) (pv 7)) pe_int) (pa_cons (pe_op op_sub (pv 6) pe_int) (pa_cons (pe_op op_sub (pv 5) (pv 7)) (pa_cons (pe_op op_add (pv 3) (pv 7)) pa_nil))))) (pg_tup (by rfl) (pgs_cons (pg_name (i := 4) sc.nd rfl (.inl rfl)) (pgs_cons (pg_name (i := 6) sc.nd rfl (.inl rfl)) (pgs_cons (pg_name (i := 5) sc.nd rfl (.inl rfl)) (pgs_cons (pg_name (i := 3) sc.nd rfl (.inl rfl)) pgs_nil))))))))))
      (pss_one (ps_ret (pv 4)))))), ?_⟩
    refine ⟨_, rfl, rfl, _, rfl, ite2 (fun h => ?_) (fun h => ?_)⟩
    · have e : x = 0 := by have := V.int.inj (of_decide_eq_true h); omega
      subst e
      rw [LD_zero] at q
      exact q H (Same.refl _)
    have hx0 : 1 ≤ x := by
      rcases Nat.eq_zero_or_pos x with e | e
      · subst e
        exact absurd (decide_eq_true rfl) h
      · exact e
    refine ⟨_, rfl, _, _, rfl, rfl, by show 5 ≤ sizeLine; decide, fun p np => ⟨p, _, rfl, st_at upd_same, rfl, _, _, rfl, _, _, rfl, _, _, rfl, _, _, rfl, _, _, rfl, rfl, ?_⟩⟩
    refine ⟨fun lack σ H1 => ∃ (k E tot wide : Nat) (v7 : Option V), σ = [some (.int (x : Int)), some (.int (m : Int)), some (.int (k : Int)), some (.int (E : Int)), some (.int (tot : Int)), some (.int (lack : Int)), some (.int (wide : Int)), v7] ∧ Same H H1 ∧ k ≤ x ∧
        ((∃ d, Ru x m k d E tot lack wide) ∨ (lack = 0 ∧ tot = LD x m)), ⟨x - 1, 0, 1, 0, 1, none, ?_, same_new np, by omega, .inl ⟨0, ⟨by simp, by simp, by simp, by omega⟩⟩⟩, ?_⟩
    · show [_, _, _, _, _, _, _, _] = [_, _, _, _, _, _, _, _]
      rw [show ((x - 1 : Nat) : Int) = (x : Int) - 1 by omega]
      rfl
    rintro lack σ H1 ⟨k, E, tot, wide, v7, rfl, s1, hk, hI⟩
    refine ⟨_, rfl, _, _, rfl, rfl, _, rfl, ite2 (fun h => ?_) (fun h => ?_)⟩
    · have hlk : 0 < lack := by have := of_decide_eq_true h; omega
      obtain ⟨d, I⟩ : ∃ d, Ru x m k d E tot lack wide := by
        rcases hI with e | ⟨e, _⟩
        · exact e
        · omega
      refine ⟨fun σ H2 => ∃ (lack' k E tot wide : Nat) (v7 : Option V), σ = [some (.int (x : Int)), some (.int (m : Int)), some (.int (k : Int)), some (.int (E : Int)), some (.int (tot : Int)), some (.int (lack' : Int)), some (.int (wide : Int)), v7] ∧ Same H H2 ∧ k ≤ x ∧
        ((∃ d, Ru x m k d E tot lack' wide) ∨ (lack' = 0 ∧ tot = LD x m)) ∧ lack' < lack, fun σ' H' ⟨lack', k, E, tot, wide, v7, a1, a2, a3, a4, a5⟩ => ⟨lack', a5, k, E, tot, wide, v7, a1, a2, a3, a4⟩, ?_⟩
      -- if wide == 0: depth, wide = (depth + 1, ends)
      refine ⟨fun σ H2 => ∃ (k E tot wide : Nat), σ = [some (.int (x : Int)), some (.int (m : Int)), some (.int (k : Int)), some (.int (E : Int)), some (.int (tot : Int)), some (.int (lack : Int)), some (.int (wide : Int)), v7] ∧ Same H H2 ∧ k ≤ x ∧ 0 < wide ∧ ∃ d, Ru x m k d E tot lack wide, ?_, ?_⟩
      · refine ⟨_, rfl, rfl, _, rfl, ite2 (fun h1 => ?_) (fun h1 => ?_)⟩
        · have w0 : wide = 0 := by have := V.int.inj (of_decide_eq_true h1); omega
          have e1 : d = m ^ k := by have := I.wi; omega
          have hp : 0 < m ^ k := Nat.pow_pos (by omega)
          have e2 : m ^ k * (m - 1) + m ^ k * 1 = m ^ k * m := by rw [← Nat.mul_add, show m - 1 + 1 = m by omega]
          have e3 : E = m ^ (k + 1) := by rw [I.en, e1, Nat.pow_succ]; omega
          have kE : k + 1 ≤ E := by
            rw [e3]
            exact Nat.le_of_lt (Nat.lt_pow_self (by omega))
          refine ⟨_, rfl, _, _, rfl, rfl, _, rfl, _, _, rfl, k + 1, E, tot, E, ?_, s1, ?_, by omega, 0, ⟨by rw [e3]; omega, ?_, by omega, I.la⟩⟩
          · rfl
          · have := I.la
            omega
          · rw [I.to, e1, ← Nat.pow_succ, ← e3, Nat.add_mul]
            omega
        · have w0 : wide ≠ 0 := fun z => by
            subst z
            exact h1 (decide_eq_true rfl)
          exact ⟨k, E, tot, wide, rfl, s1, hk, by omega, d, I⟩
      clear I hI hk s1 h d
      rintro σ H2 ⟨k, E, tot, wide, rfl, s1, hk, hw, d, I⟩
      -- grown = min(m - 1, lack)
      refine ⟨_, rfl, _, _, rfl, rfl, _, rfl, _, _, rfl, ?_⟩
      obtain ⟨g, hg⟩ : ∃ g : Nat, (if (lack : Int) < (m : Int) - 1 then (lack : Int) else (m : Int) - 1) = (g : Int) ∧ g = min (m - 1) lack := by
        refine ⟨min (m - 1) lack, ?_, rfl⟩
        split <;> omega
      obtain ⟨hg1, hg2⟩ := hg
      rw [hg1]
      have hgl : g ≤ lack := by omega
      have hkb : k < 2 ^ 20 := by omega
      refine ⟨_, rfl, _, rfl, _, rfl, _, _, rfl, rfl, .inl ⟨by omega, by omega⟩, _, _, rfl, rfl, _, rfl, _, _, rfl, rfl, _, _, rfl, rfl, _, rfl, _, _, rfl, rfl, _, rfl, _, rfl, _, _, rfl, rfl, _, rfl, _, rfl, _, _, rfl, rfl, by show 4 ≤ sizeLine; decide, fun p2 np2 => ⟨p2, _, rfl, st_at upd_same, rfl, _, _, rfl, _, _, rfl, _, _, rfl, _, _, rfl, rfl, ?_⟩⟩
      have hmul : (k : Int) * (g : Int) = ((k * g : Nat) : Int) := (Int.natCast_mul ..).symm
      refine ⟨lack - g, k, E + g, tot + k * g + g + 1, wide - 1, some (.int (g : Int)), ?_, s1.trans (same_new np2), hk, ?_, by omega⟩
      · show [_, _, _, _, _, _, _, _] = [_, _, _, _, _, _, _, _]
        rw [show ((lack - g : Nat) : Int) = (lack : Int) - (g : Int) by omega, show ((wide - 1 : Nat) : Int) = (wide : Int) - 1 by omega, show ((E + g : Nat) : Int) = (E : Int) + (g : Int) by omega, show ((tot + k * g + g + 1 : Nat) : Int) = (tot : Int) + (k : Int) * (g : Int) + (g : Int) + 1 by rw [hmul]; omega]
      · have i1 := I.en
        have i2 := I.to
        have i3 := I.wi
        have i4 := I.la
        by_cases hfull : m - 1 ≤ lack
        · have eg : g = m - 1 := by omega
          refine .inl ⟨d + 1, ⟨?_, ?_, by omega, by omega⟩⟩
          · rw [i1, eg, Nat.add_mul]
            omega
          · rw [i2, eg, Nat.mul_add, Nat.add_mul d 1 m]
            omega
        · have eg : g = lack := by omega
          refine .inr ⟨by omega, ?_⟩
          rw [rule_part (k := k) (d := d) (g := g) hm (by omega) (by omega) (by omega) (by omega), i2]
          have : k * x = k * E + k * g := by rw [← Nat.mul_add]; congr 1; omega
          omega
    · have hl0 : lack = 0 := Nat.eq_zero_of_not_pos fun z => h (decide_eq_true (by omega))
      subst hl0
      have ht : tot = LD x m := by
        rcases hI with ⟨d, I⟩ | ⟨_, e⟩
        · have i1 := I.en
          have i2 := I.to
          have i3 := I.wi
          have i4 := I.la
          have ex : x = E := by omega
          rw [rule_end (k := k) (d := d) hm (by omega) (by omega), i2, ex]
        · exact e
      refine ⟨_, rfl, ?_⟩
      rw [ht]
      exact q H1 s1

/-! ### the law's own least sums -/
def oV : Option Nat → V
  | none => .non
  | some n => .int (n : Int)
/-- the rows made so far -/
structure Rw (H0 H : Hp) (Ls R : Addr) (ls : List Nat) (x t : Nat) (rs : List Addr) : Prop where
  sm : Same H0 H
  hL : H Ls = some (.lst (ls.map natV))
  hR : H R = some (.lst (rs.map V.ref))
  RL : R ≠ Ls
  rl : rs.length = t + 1
  at_ : ∀ (j : Nat) (a : Addr), rs[j]? = some a → H a = some (.lst ((rowAt ls x j).map oV)) ∧ a ≠ R ∧ a ≠ Ls
theorem Rw.keep {H0 H H' : Hp} {Ls R : Addr} {ls : List Nat} {x t : Nat} {rs : List Addr} (w : Rw H0 H Ls R ls x t rs) (s : Same H H') : Rw H0 H' Ls R ls x t rs :=
  ⟨w.sm.trans s, s _ _ w.hL, s _ _ w.hR, w.RL, w.rl, fun j a h => ⟨s _ _ (w.at_ j a h).1, (w.at_ j a h).2⟩⟩
/-- one object more, or another one changed, that none of them is -/
theorem Rw.aside {H0 H : Hp} {Ls R W : Addr} {ls : List Nat} {x t : Nat} {rs : List Addr} {o : HO} (w : Rw H0 H Ls R ls x t rs) (n0 : H0 W = none) (h1 : W ≠ Ls) (h2 : W ≠ R) (h3 : W ∉ rs) : Rw H0 (upd H W o) Ls R ls x t rs :=
  ⟨same_mut w.sm n0, by rw [upd_ne h1.symm]; exact w.hL, by rw [upd_ne h2.symm]; exact w.hR, w.RL, w.rl, fun j a h => ⟨by rw [upd_ne (fun e : a = W => h3 (by rw [← e]; exact List.mem_of_getElem? h))]; exact (w.at_ j a h).1, (w.at_ j a h).2⟩⟩
theorem rowAt_len (ls : List Nat) (x : Nat) : ∀ t, (rowAt ls x t).length = x + 1
  | 0 => by
    show ((List.range (x + 1)).map _).length = x + 1
    rw [List.length_map, List.length_range]
  | t + 1 => by
    show ((List.range (x + 1)).map _).length = x + 1
    rw [List.length_map, List.length_range]
theorem rowAt_at {ls : List Nat} {x t k : Nat} (hk : k ≤ x) : ∃ v, (rowAt ls x t)[k]? = some v ∧ (rowAt ls x t).getD k none = v := by
  have h : k < (rowAt ls x t).length := by rw [rowAt_len]; omega
  refine ⟨(rowAt ls x t)[k], List.getElem?_eq_getElem h, ?_⟩
  rw [List.getD_eq_getElem?_getD, List.getElem?_eq_getElem h]
  rfl
theorem nat_ints (xs : List Nat) : (xs.map fun n : Nat => (n : Int)).map V.int = xs.map natV := by rw [List.map_map]; rfl
theorem cut_two (xs : List V) : cutV xs (some 2) none = xs.drop 2 := by
  unfold cutV
  rw [show HT.sIx xs.length 0 (some 2) = min 2 xs.length from HT.sIx_nat xs.length 0 2, HT.sIx_none]
  rcases Nat.lt_or_ge xs.length 2 with h | h
  · rw [Nat.min_eq_right (by omega), List.drop_of_length_le (Nat.le_refl _), List.drop_of_length_le (by omega)]
    exact List.take_nil
  · rw [Nat.min_eq_left h]
    exact List.take_of_length_le (by rw [List.length_drop]; omega)
def spLL : Sp := fun vs H Q _ => ∃ m : Nat, vs = [.int 30, .int (m : Int)] ∧ 2 ≤ m ∧ m ≤ 7 ∧ ∀ H' l, Same H H' → H l = none → H' l = some (.lst ((told m 31).map natV)) → Q (.ref l) H'
theorem told_step (m n : Nat) : told m (n + 1) = told m n ++ [LD n m] := by
  unfold told
  rw [List.range_succ, List.map_append]
  rfl
theorem told_len (m n : Nat) : (told m n).length = n := by
  unfold told
  rw [List.length_map, List.length_range]
theorem ok_law_least_depths {f : Addr} {fd : FuncData} {k : Nat} (F : Fun K "_law_least_depths" "_law_least_depths" s_law_least_depths f fd) (T : Zs K mg) : FnG P w K mg base (k + 1) f fd ["most", "m"] spLL := by
  refine okG F sc_law_least_depths (fun {vs H Q E} h => ?_) (fun cdv A outer s H vs Q E st hr h => ?_)
  · obtain ⟨m, rfl, _⟩ := h
    rfl
  · have hu := hu_of hr
    have sc := sc_law_least_depths
    obtain ⟨m, rfl, hm, hm2, q⟩ := h
    refine ⟨_, (pss_cons (ps_set (i := 2) sc.nd rfl (.inr rfl) (pe_lst (pa_cons pe_int (pa_cons pe_int pa_nil))))
      (pss_cons (ps_for PassesOwn.never rfl (pi_range2 (by rfl) T.z_range (pa_cons pe_int (pa_cons (pe_op op_add (pv 0) pe_int) pa_nil))) (pg_name (i := 3) sc.nd rfl (.inr rfl)) (pss_cons (ps_set (i := 4) sc.nd rfl (.inr rfl) (pe_lst (pa_cons (pe_lc (own := [("k", 7)]) (g := gName 7) (tt := tYes) rfl sc.nd (pi_range1 (by rfl) T.z_range (pa_cons (pe_op op_add (pv 3) pe_int) pa_nil)) (blk_in (N := n_law_least_depths) (by decide +kernel) (by repeat (first | exact trivial | exact Or.inl rfl | exact Or.inr rfl | refine And.intro ?_ ?_))) (fun _ _ _ _ _ => (pg_name (i := 7) sc.nd rfl (.inl rfl))) (fun _ _ _ _ _ => pts_nil) (fun _ _ _ _ _ => (pe_ifExp (pt_cmpR op_eq (pv 7) pe_int (nomark _)) pe_int pe_non))) pa_nil)))
      (pss_cons (ps_for PassesOwn.never rfl (pi_range1 (by rfl) T.z_range (pa_cons (pv 1) pa_nil)) (pg_name (i := 5) sc.nd rfl (.inl rfl)) (pss_cons (ps_set (i := 6) sc.nd rfl (.inl rfl) (pe_lst pa_nil))
      (pss_cons (ps_for PassesOwn.never rfl (pi_range1 (by rfl) T.z_range (pa_cons (pe_op op_add (pv 3) pe_int) pa_nil)) (pg_name (i := 7) sc.nd rfl (.inr rfl)) (pss_cons (ps_setLc (i := 8) (own := [("one", 9)]) (g := gName 9) rfl sc.nd rfl rfl (sw_true rfl rfl rfl (by decide +kernel)) (pi_range2 (by rfl) T.z_range (pa_cons pe_int (pa_cons (pe_op op_add (pe_callB (call_min2 rfl) (by rfl) T.z_min (by decide +kernel) (pa_cons (pv 7) (pa_cons (pe_op op_sub (pv 3) pe_int) pa_nil))) pe_int) pa_nil))) (blk_in (N := n_law_least_depths) (by decide +kernel) (by repeat (first | exact trivial | exact Or.inl rfl | exact Or.inr rfl | refine And.intro ?_ ?_))) (fun _ _ _ _ _ => (pg_name (i := 9) sc.nd rfl (.inl rfl))) (fun _ _ _ _ _ => (pts_one (pt_cmpR op_notN (pe_ix (ixLK (K := K) rfl) (pe_ix (ixLK (K := K) rfl) (pv 4) (pe_un un_neg pe_int) (fun _ _ => rfl)) (pe_op op_sub (pv 7) (pv 9)) (fun _ _ => rfl)) pe_non (nomark _)))) (fun _ _ _ _ _ => (pe_op op_add (pe_ix (ixLK (K := K) rfl) (pe_ix (ixLK (K := K) rfl) (pv 4) (pe_un un_neg pe_int) (fun _ _ => rfl)) (pe_op op_sub (pv 7) (pv 9)) (fun _ _ => rfl)) (pe_ix (ixLK (K := K) rfl) (pv 2) (pv 9) (fun _ _ => rfl)))))
      (pss_one (ps_expr (pe_bm PySem.F.plainAttrs_list PySem.F.slot_list_append PySem.F.type_list_append mt_append (pv 6) (pa_cons (pe_ifExp (pt_cmpR (neK (K := K) rfl hr.units) (pv 8) (pe_lst pa_nil) (nomark _)) (pe_callB (minK (K := K) rfl rfl) (by rfl) T.z_min (by decide +kernel) (pa_cons (pv 8) pa_nil)) pe_non) pa_nil))))))
      (pss_one (ps_expr (pe_bm PySem.F.plainAttrs_list PySem.F.slot_list_append PySem.F.type_list_append mt_append (pv 4) (pa_cons (pv 6) pa_nil)))))))
      (pss_one (ps_expr (pe_bm PySem.F.plainAttrs_list PySem.F.slot_list_append PySem.F.type_list_append mt_append (pv 2) (pa_cons (pe_op op_add (pv 3) (pe_callB (minK (K := K) rfl rfl) (by rfl) T.z_min (by decide +kernel) (pa_cons (pe_lc (own := [("row", 6)]) (g := gName 6) rfl sc.nd (pi_listK (K := K) rfl (pe_slice (slLK (K := K) rfl) (pv 4) (po_some pe_int) po_none)) (blk_in (N := n_law_least_depths) (by decide +kernel) (by repeat (first | exact trivial | exact Or.inl rfl | exact Or.inr rfl | refine And.intro ?_ ?_))) (fun _ _ _ _ _ => (pg_name (i := 6) sc.nd rfl (.inl rfl))) (fun _ _ _ _ _ => (pts_one (pt_cmpR op_notN (pe_ix (ixLK (K := K) rfl) (pv 6) (pv 3) (fun _ _ => rfl)) pe_non (nomark _)))) (fun _ _ _ _ _ => (pe_ix (ixLK (K := K) rfl) (pv 6) (pv 3) (fun _ _ => rfl)))) pa_nil))) pa_nil)))))))
      (pss_one (ps_ret (pv 2))))), ?_⟩
    -- least = [0, 0]
    refine ⟨by show 2 ≤ sizeLine; decide, fun Ls nL => ?_⟩
    have e00 : ([.int 0, .int 0] : List V) = (told m 2).map natV := by
      have h1 : LD 1 m = 0 := by
        rw [LD_eq (k := 0) hm (by simp) (by rw [Nat.pow_zero]; omega)]
        show 0 * 1 + 0 + (0 + m - 2) / (m - 1) = 0
        rw [Nat.div_eq_of_lt (by omega)]
      show _ = [natV (LD 0 m), natV (LD 1 m)]
      rw [h1, LD_zero]
      rfl
    rw [e00]
    refine ⟨_, rfl, _, _, rfl, rfl, 2, 31, rfl, by decide, for_range (lo := 2) (n := 29) (fun i σ H1 => ∃ v3 v4 v5 v6 v7 v8, σ = [some (.int 30), some (.int (m : Int)), some (.ref Ls), v3, v4, v5, v6, v7, v8, none] ∧ Same H H1 ∧ H1 Ls = some (.lst ((told m (i + 2)).map natV)))
      ⟨none, none, none, none, none, none, rfl, same_new nL, upd_same⟩ ?_ ?_⟩
    · rintro i σ H1 hi ⟨v3, v4, v5, v6, v7, v8, rfl, s1, hL⟩
      obtain ⟨x, hx⟩ : ∃ x, x = i + 2 := ⟨_, rfl⟩
      rw [← hx] at hL
      rw [show (2 : Int) + (i : Int) = (x : Int) by omega]
      have hxb : x ≤ 30 := by omega
      have hx2 : 2 ≤ x := by omega
      -- rows = [[0 if k == 0 else None for k in range(x + 1)]]
      refine ⟨_, rfl, _, _, rfl, rfl, (x : Int) + 1, rfl, by omega, by omega, fun D nD => ?_⟩
      rw [show ((x : Int) + 1).toNat = x + 1 by omega]
      refine lc_vals (n := x + 1) (j := 7) (Yx := fun i y => y = .int (0 + (i : Int))) walk_range nD (fun k => oV (if k = 0 then some 0 else none)) (by omega) (fun _ _ _ _ y => y) (fun _ _ => trivial) ?_ ?_
      · rintro k y H2 hk s2 rfl Q' hQ
        refine ⟨_, rfl, rfl, _, rfl, ite2 (fun h => ?_) (fun h => ?_)⟩
        · have e : k = 0 := by have := V.int.inj (of_decide_eq_true h); omega
          subst e
          exact hQ H2 (Same.refl _)
        · have e : k ≠ 0 := fun z => by
            subst z
            exact h (decide_eq_true rfl)
          rw [if_neg e] at hQ
          exact hQ H2 (Same.refl _)
      intro H2 s2 hD
      refine ⟨by show 1 ≤ sizeLine; decide, fun R nR => ?_⟩
      have hL2 := s2 _ _ hL
      have W0 : Rw H (upd H2 R (.lst [.ref D])) Ls R (told m x) x 0 [D] := by
        have a1 : Ls ≠ R := ne_of_none hL2 nR
        have a2 : D ≠ R := ne_of_none hD nR
        have a3 : Ls ≠ D := ne_of_none hL nD
        refine ⟨(s1.trans s2).trans (same_new nR), by rw [upd_ne a1]; exact hL2, upd_same, a1.symm, rfl, fun j a h => ?_⟩
        match j, h with
        | 0, h =>
          cases Option.some.inj h
          refine ⟨?_, a2, a3.symm⟩
          rw [upd_ne a2, hD]
          show _ = some (HO.lst (((List.range (x + 1)).map fun k => if k = 0 then some 0 else none).map oV))
          rw [List.map_map]
          rfl
      have nL0 : H Ls = none := nL
      have nR0 : H R = none := free_back (s1.trans s2) nR
      clear hD hL2 s2 nD nR hL
      generalize upd H2 R (.lst [.ref D]) = H3 at W0
      -- for turn in range(m)
      refine ⟨_, rfl, (m : Int), rfl, by omega, by omega, for_range (lo := 0) (n := m) (fun t σ H4 => ∃ v5 v6 v7 v8 rs, σ = [some (.int 30), some (.int (m : Int)), some (.ref Ls), some (.int (x : Int)), some (.ref R), v5, v6, v7, v8, none] ∧ Rw H H4 Ls R (told m x) x t rs)
        ⟨v5, v6, v7, v8, [D], rfl, W0⟩ ?_ ?_⟩
      · rintro t σ H4 ht ⟨v5, v6, v7, v8, rs, rfl, W⟩
        -- row = []
        refine ⟨Nat.zero_le _, fun Wd nW => ?_⟩
        have nW0 : H Wd = none := free_back W.sm nW
        have wL : Wd ≠ Ls := (ne_of_none W.hL nW).symm
        have wR : Wd ≠ R := (ne_of_none W.hR nW).symm
        have wrs : Wd ∉ rs := fun hm' => by
          obtain ⟨j, hj⟩ := List.mem_iff_getElem?.mp hm'
          exact (ne_of_none (W.at_ j Wd hj).1 nW) rfl
        refine ⟨_, rfl, _, _, rfl, rfl, (x : Int) + 1, rfl, by omega, by omega, ?_⟩
        rw [show ((x : Int) + 1).toNat = x + 1 by omega]
        refine for_range (lo := 0) (n := x + 1) (fun k σ H5 => ∃ v7 v8, σ = [some (.int 30), some (.int (m : Int)), some (.ref Ls), some (.int (x : Int)), some (.ref R), some (.int (0 + (t : Int))), some (.ref Wd), v7, v8, none] ∧ Rw H H5 Ls R (told m x) x t rs ∧
            H5 Wd = some (.lst (((List.range k).map fun k => minO (cellM (rowAt (told m x) x t) (told m x) x k)).map oV))) ⟨v7, v8, rfl, W.aside nW0 wL wR wrs, upd_same⟩ ?_ ?_
        · rintro k σ H5 hk ⟨v7, v8, rfl, W5, hW⟩
          rw [show (0 : Int) + (k : Int) = (k : Int) by omega]
          -- the last row
          obtain ⟨a, ha⟩ : ∃ a, rs[t]? = some a := ⟨rs[t]'(by rw [W.rl]; omega), List.getElem?_eq_getElem _⟩
          obtain ⟨hA, aR, aL⟩ := W5.at_ t a ha
          have lastI : atI (rs.map V.ref) (-1) = some (.ref a) := by
            obtain ⟨ys, z, e⟩ : ∃ ys z, rs = ys ++ [z] := ⟨rs.dropLast, rs.getLast (by intro z; rw [z] at ha; cases ha), (List.dropLast_concat_getLast _).symm⟩
            have hz : z = a := by
              have h1 := W.rl
              rw [e, List.length_append] at h1
              have h2 : ([z] : List Addr).length = 1 := rfl
              rw [e, List.getElem?_append_right (by omega), show t - ys.length = 0 by omega] at ha
              exact Option.some.inj ha
            rw [e, List.map_append, hz]
            exact atI_last _ _
          -- some = [rows[-1][k - one] + least[one] for one in range(1, min(k, x - 1) + 1) if rows[-1][k - one] is not None]
          have hmin : (if (x : Int) - 1 < (k : Int) then (x : Int) - 1 else (k : Int)) = ((min k (x - 1) : Nat) : Int) := by split <;> omega
          refine ⟨_, rfl, _, rfl, _, _, rfl, rfl, _, _, rfl, ?_⟩
          rw [hmin]
          refine ⟨_, _, rfl, rfl, 1, ((min k (x - 1) : Nat) : Int) + 1, rfl, by omega, ?_⟩
          rw [show (((min k (x - 1) : Nat) : Int) + 1 - 1).toNat = min k (x - 1) by omega]
          intro S nS
          have sW : S ≠ Wd := (ne_of_none hW nS).symm
          let fm := fun i => ((rowAt (told m x) x t).getD (k - (i + 1)) none).map (· + (told m x).getD (i + 1) 0)
          refine lc_it walk_range (fun i H6 => Same H5 H6 ∧ H6 S = some (.lst (((List.range i).filterMap fm).map natV))) ⟨same_new nS, upd_same⟩ (fun _ _ _ _ => trivial) ?_ ?_
          · rintro i y H6 H7 hi ⟨s6, hS⟩ ⟨rfl, rfl⟩
            refine ⟨wipe_again _ 9 _, ?_⟩
            have W6 := W5.keep s6
            have hA6 := s6 _ _ hA
            obtain ⟨v, hv, hv2⟩ := rowAt_at (ls := told m x) (x := x) (t := t) (k := k - (i + 1)) (by omega)
            have at1 : atI ((rowAt (told m x) x t).map oV) ((k : Int) - (1 + (i : Int))) = some (oV v) := by
              rw [show (k : Int) - (1 + (i : Int)) = ((k - (i + 1) : Nat) : Int) by omega]
              exact atI_nat (by rw [List.getElem?_map, hv]; rfl)
            refine ⟨_, rfl, 1, rfl, R, _, -1, .ref a, rfl, rfl, sq_at W6.hR, lastI, _, rfl, _, rfl, _, _, rfl, rfl, a, _, _, oV v, rfl, rfl, sq_at hA6, at1, rfl, _, rfl, ?_⟩
            have step : (List.range (i + 1)).filterMap fm = (List.range i).filterMap fm ++ (match v.map (· + (told m x).getD (i + 1) 0) with | none => [] | some z => [z]) := by
              have h : fm i = v.map (· + (told m x).getD (i + 1) 0) := by
                show ((rowAt (told m x) x t).getD (k - (i + 1)) none).map _ = _
                rw [hv2]
              rw [List.range_succ, List.filterMap_append]
              simp only [List.filterMap_cons, List.filterMap_nil, h]
              cases v <;> rfl
            cases v with
            | none =>
              show (if (!decide (V.non = V.non)) = true then _ else _)
              refine ne_self ⟨s6, ?_⟩
              rw [step]
              simpa using hS
            | some z =>
              show (if (!decide (oV (some z) = V.non)) = true then _ else _)
              rw [if_pos (show (!decide (oV (some z) = V.non)) = true from rfl)]
              have ht1 : (told m x)[i + 1]? = some (LD (i + 1) m) := told_at (by omega)
              refine ⟨_, rfl, 1, rfl, R, _, -1, .ref a, rfl, rfl, sq_at W6.hR, lastI, _, rfl, _, rfl, _, _, rfl, rfl, a, _, _, oV (some z), rfl, rfl, sq_at hA6, at1, _, rfl, _, rfl, Ls, _, 1 + (i : Int), natV (LD (i + 1) m), rfl, rfl, sq_at W6.hL, ?_, _, _, rfl, rfl, ?_⟩
              · rw [show (1 : Int) + (i : Int) = ((i + 1 : Nat) : Int) by omega]
                exact atI_nat (by rw [List.getElem?_map, ht1]; rfl)
              · refine ⟨_, hS, ?_, same_mut s6 nS, ?_⟩
                · rw [List.length_map]
                  exact small1000 (Nat.le_trans (List.length_filterMap_le _ _) (by rw [List.length_range]; omega))
                · rw [upd_same, step, List.map_append]
                  have : (told m x).getD (i + 1) 0 = LD (i + 1) m := by
                    rw [List.getD_eq_getElem?_getD, ht1]
                    rfl
                  rw [this]
                  show some (HO.lst (_ ++ [V.int ((z : Int) + ((LD (i + 1) m : Nat) : Int))])) = some (HO.lst (_ ++ [natV (z + LD (i + 1) m)]))
                  unfold natV
                  rw [Int.natCast_add]
          · rintro H6 ⟨s6, hS⟩
            obtain ⟨fs, hfs⟩ : ∃ fs, (List.range (min k (x - 1))).filterMap fm = fs := ⟨_, rfl⟩
            have hcell : cellM (rowAt (told m x) x t) (told m x) x k = fs := hfs
            have lfs : fs.length ≤ 31 := by
              rw [← hfs]
              exact Nat.le_trans (List.length_filterMap_le _ _) (by rw [List.length_range]; omega)
            rw [hfs, ← nat_ints] at hS
            have W6 := W5.keep s6
            have hW6 := s6 _ _ hW
            clear_value fm
            -- row.append(min(some) if some != [] else None)
            have fin : ∀ (H8 : Hp) (v : Option Nat), Same H6 H8 → minO fs = v → rAppend (.ref Wd) [oV v] H8 fun _ H9 => ∃ (v7' v8' : Option V), ([some (.int 30), some (.int (m : Int)), some (.ref Ls), some (.int (x : Int)), some (.ref R), some (.int (0 + (t : Int))), some (.ref Wd), some (.int (k : Int)), some (.ref S), none] : L2.St) = [some (.int 30), some (.int (m : Int)), some (.ref Ls), some (.int (x : Int)), some (.ref R), some (.int (0 + (t : Int))), some (.ref Wd), v7', v8', none] ∧ Rw H H9 Ls R (told m x) x t rs ∧
                H9 Wd = some (.lst (((List.range (k + 1)).map fun k => minO (cellM (rowAt (told m x) x t) (told m x) x k)).map oV)) := fun H8 v s8 hv => by
              refine ⟨Wd, _, oV v, rfl, rfl, s8 _ _ hW6, ?_, _, _, rfl, (W6.keep s8).aside nW0 wL wR wrs, ?_⟩
              · rw [List.length_map, List.length_map, List.length_range]
                exact small1000 (by omega)
              · rw [upd_same, List.range_succ, List.map_append, List.map_append]
                show some (HO.lst (_ ++ [oV v])) = some (HO.lst (_ ++ [oV (minO (cellM (rowAt (told m x) x t) (told m x) x k))]))
                rw [hcell, hv]
            refine ⟨_, rfl, .inl ⟨rfl, _, sq_at hW6⟩, _, rfl, Nat.zero_le _, fun G nG => ?_⟩
            have sG := same_new (o := .lst []) nG
            refine ⟨.list ((fs.map fun n : Nat => (n : Int)).map PyData.int), .list [], dp_ints (sG _ _ hS), .lst (sq_at upd_same) .nil, shaped_ints _, by decide, _, rfl, ?_⟩
            rw [eqv_nil]
            cases fs with
            | nil => exact fin _ none sG rfl
            | cons f0 fr =>
              refine ⟨_, rfl, S, _, rfl, sq_at (sG _ _ hS), by simp, fun z hz hle => ?_⟩
              obtain ⟨z0, hz0, rfl⟩ := List.mem_map.mp hz
              exact fin _ (some z0) sG (minO_some hz0 fun y hy => by have := hle (y : Int) (List.mem_map.mpr ⟨y, hy, rfl⟩); omega)
        · rintro σ H5 ⟨v7, v8, rfl, W5, hW⟩
          -- rows.append(row)
          refine ⟨_, rfl, .inl ⟨rfl, _, sq_at W5.hR⟩, _, rfl, R, _, _, rfl, rfl, W5.hR, ?_, some (.int (0 + (t : Int))), some (.ref Wd), v7, v8, rs ++ [Wd], rfl, ⟨same_mut W5.sm nR0, by rw [upd_ne W5.RL.symm]; exact W5.hL, ?_, W5.RL, ?_, fun j a h => ?_⟩⟩
          · rw [List.length_map, W5.rl]
            exact small1000 (by omega)
          · rw [upd_same, List.map_append]
            rfl
          · rw [List.length_append, W5.rl]
            rfl
          · by_cases hj : j < rs.length
            · rw [List.getElem?_append_left hj] at h
              obtain ⟨g1, g2, g3⟩ := W5.at_ j a h
              exact ⟨by rw [upd_ne g2]; exact g1, g2, g3⟩
            · have hl : j < (rs ++ [Wd]).length := (List.getElem?_eq_some_iff.mp h).1
              rw [List.length_append] at hl
              have e1 : ([Wd] : List Addr).length = 1 := rfl
              have hrl := W5.rl
              rw [List.getElem?_append_right (by omega), show j - rs.length = 0 by omega] at h
              cases Option.some.inj h
              refine ⟨?_, wR, wL⟩
              rw [upd_ne wR, hW, show j = t + 1 by omega]
              rfl
      · rintro σ H4 ⟨v5, v6, v7, v8, rs, rfl, W⟩
        -- least.append(x + min([row[x] for row in rows[2:] if row[x] is not None]))
        refine ⟨_, rfl, .inl ⟨rfl, _, sq_at W.hL⟩, _, rfl, _, rfl, 2, rfl, R, _, rfl, sq_at W.hR, fun c nc => ?_⟩
        rw [cut_two, ← List.map_drop]
        have sc4 := same_new (o := .lst ((rs.drop 2).map V.ref)) nc
        have Wc := W.keep sc4
        refine ⟨c, rfl, ⟨_, sq_at upd_same⟩, fun S nS => ?_⟩
        have hc : upd H4 c (.lst ((rs.drop 2).map V.ref)) c = some (.lst ((rs.drop 2).map V.ref)) := upd_same
        generalize upd H4 c (.lst ((rs.drop 2).map V.ref)) = H5 at Wc hc nS
        clear sc4 nc
        let gm := fun i => (rowAt (told m x) x (i + 2)).getD x none
        refine lc_it (walk_list (K := K) (a := c) (xs := (rs.drop 2).map V.ref)) (fun i H6 => Same H5 H6 ∧ H6 S = some (.lst (((List.range i).filterMap gm).map natV))) ⟨same_new nS, upd_same⟩ (fun i H6 _ h6 => h6.1.seq (sq_at hc)) ?_ ?_
        · rintro i y H6 H7 hi ⟨s6, hS⟩ ⟨rfl, hy⟩
          obtain ⟨a, ha, rfl⟩ := ref_at hy
          rw [List.getElem?_drop, Nat.add_comm] at ha
          obtain ⟨hA, aR, aL⟩ := (Wc.keep s6).at_ (i + 2) a ha
          obtain ⟨v, hv, hv2⟩ := rowAt_at (ls := told m x) (x := x) (t := i + 2) (k := x) (Nat.le_refl _)
          have at1 : atI ((rowAt (told m x) x (i + 2)).map oV) (x : Int) = some (oV v) := atI_nat (by rw [List.getElem?_map, hv]; rfl)
          have hil : i < m := by
            rw [List.length_map, List.length_drop, W.rl] at hi
            omega
          refine ⟨wipe_again _ 6 _, ?_⟩
          refine ⟨_, rfl, _, rfl, a, _, _, oV v, rfl, rfl, sq_at hA, at1, rfl, _, rfl, ?_⟩
          have step : (List.range (i + 1)).filterMap gm = (List.range i).filterMap gm ++ (match v with | none => [] | some z => [z]) := by
            have h : gm i = v := hv2
            rw [List.range_succ, List.filterMap_append]
            simp only [List.filterMap_cons, List.filterMap_nil, h]
            cases v <;> rfl
          cases v with
          | none =>
            show (if (!decide (V.non = V.non)) = true then _ else _)
            refine ne_self ⟨s6, ?_⟩
            rw [step]
            simpa using hS
          | some z =>
            show (if (!decide (oV (some z) = V.non)) = true then _ else _)
            rw [if_pos (show (!decide (oV (some z) = V.non)) = true from rfl)]
            refine ⟨_, rfl, _, rfl, a, _, _, oV (some z), rfl, rfl, sq_at hA, at1, _, hS, ?_, same_mut s6 nS, ?_⟩
            · rw [List.length_map]
              exact small1000 (Nat.le_trans (List.length_filterMap_le _ _) (by rw [List.length_range]; omega))
            · rw [upd_same, step, List.map_append]
              rfl
        · rintro H6 ⟨s6, hS⟩
          have hlast : (List.range ((rs.drop 2).map V.ref).length).filterMap gm = lastM (told m x) m x := by
            rw [List.length_map, List.length_drop, W.rl, show m + 1 - 2 = m - 1 by omega]
            rfl
          rw [hlast, ← nat_ints] at hS
          obtain ⟨z, hz1, hz2⟩ := next hm hm2 hx2 hxb
          have W6 := Wc.keep s6
          refine ⟨S, _, rfl, sq_at hS, ?_, fun mv hmv hle => ?_⟩
          · rw [List.length_map]
            refine List.length_pos_iff.mpr fun e => ?_
            rw [e] at hz1
            cases hz1
          · obtain ⟨z0, hz0, rfl⟩ := List.mem_map.mp hmv
            have e0 := minO_some hz0 fun y hy => by have := hle (y : Int) (List.mem_map.mpr ⟨y, hy, rfl⟩); omega
            obtain rfl : z = z0 := Option.some.inj (hz1.symm.trans e0)
            refine ⟨_, _, rfl, rfl, Ls, _, _, rfl, rfl, W6.hL, ?_, some (.int (x : Int)), some (.ref R), v5, v6, v7, v8, rfl, same_mut W6.sm nL0, ?_⟩
            · rw [List.length_map, told_len]
              exact small1000 (by omega)
            · rw [upd_same, show i + 1 + 2 = x + 1 by omega, told_step, List.map_append, ← hz2]
              show some (HO.lst (_ ++ [V.int ((x : Int) + (z : Int))])) = some (HO.lst (_ ++ [natV (x + z)]))
              unfold natV
              rw [Int.natCast_add]
    · rintro σ H1 ⟨v3, v4, v5, v6, v7, v8, rfl, s1, hL⟩
      exact ⟨_, rfl, q H1 Ls s1 nL hL⟩

end
end Lw
namespace Lw
open PySem PySem.Spec PyProof.Rows L2 Gd Ld Pw
theorem vals_rev : ∀ {vs : List V} {us : List Value}, Vals vs us → Vals vs.reverse us.reverse
  | _, _, .nil => .nil
  | _, _, .cons h t => by
    rw [List.reverse_cons, List.reverse_cons]
    exact (vals_rev t).append (.cons h .nil)
/-- two arguments by their names, the second one first -/
theorem kw_two {K : PySem.W.Frag} {nm qual x y : Str} {st : Stmt} {f : Addr} {fd : FuncData} (F : Fun K nm qual st f fd)
    (h0 : ∀ (kV doc pm : Value) (an : Option Addr) (cdv ct : Value) (u v : Value), bindArgs (PySem.W.fnOf nm qual (defArgs st) (defBody st) (defScope st) .none kV doc pm an cdv ct) ⟨[u, v], []⟩ = pure [(x, u), (y, v)])
    (h1 : ∀ (kV doc pm : Value) (an : Option Addr) (cdv ct : Value) (u v : Value), bindArgs (PySem.W.fnOf nm qual (defArgs st) (defBody st) (defScope st) .none kV doc pm an cdv ct) ⟨[u], [(y, v)]⟩ = pure [(x, u), (y, v)])
    (h2 : ∀ (kV doc pm : Value) (an : Option Addr) (cdv ct : Value) (u v : Value), bindArgs (PySem.W.fnOf nm qual (defArgs st) (defBody st) (defScope st) .none kV doc pm an cdv ct) ⟨[], [(y, v), (x, u)]⟩ = pure [(x, u), (y, v)]) :
    KBinds K fd [x, y] [y, x] (fun us ws => us ++ ws.reverse) (fun us ws => us ++ ws.reverse) := by
  obtain ⟨oc, od, kV, doc, pm, an, cdv, ct, osl, rfl, lk, hcd⟩ := F.ex
  refine ⟨fun s us ws _ hl => ?_, fun r r2 => r.append (vals_rev r2)⟩
  match us, ws, hl with
  | [u, v], [], _ => exact .of_eq (h0 kV doc pm an cdv ct u v)
  | [u], [v], _ => exact .of_eq (h1 kV doc pm an cdv ct u v)
  | [], [v, u], _ => exact .of_eq (h2 kV doc pm an cdv ct u v)
  | u :: v :: w :: r, ws, hl => simp at hl
  | [u, v], w :: r, hl => simp at hl
  | [u], [], hl => simp at hl
  | [u], v :: w :: r, hl => simp at hl
  | [], [], hl => simp at hl
  | [], [v], hl => simp at hl
  | [], u :: v :: w :: r, hl => simp at hl
theorem sum_ints : ∀ xs : List Nat, (xs.map fun n : Nat => (n : Int)).sum = ((xs.sum : Nat) : Int)
  | [] => rfl
  | x :: xs => by rw [List.map_cons, List.sum_cons, sum_ints xs, List.sum_cons, Int.natCast_add]
theorem inV_nat (y : Nat) : ∀ ns : List Nat, inV (.int (y : Int)) (ns.map natV) = ns.contains y
  | [] => rfl
  | n :: ns => by
    show (((n : Int) == (y : Int)) || inV (.int (y : Int)) (ns.map natV)) = (y == n || ns.contains y)
    rw [inV_nat y ns]
    congr 1
    by_cases h : n = y
    · subst h
      simp
    · rw [beq_false_of_ne (fun e => h (by omega)), beq_false_of_ne (fun e => h e.symm)]
theorem tabT_keep {K : PySem.W.Frag} {H H' : Hp} {t : Addr} {rows : List (List Nat)} (s : Same H H') : TabT K H t rows → TabT K H' t rows :=
  fun ⟨as, h1, h2, h3⟩ => ⟨as, same_tup s h1, h2, fun i a xs g1 g2 => same_tup s (h3 i a xs g1 g2)⟩
theorem dp_bound {m : Nat} (hm : 2 ≤ m) (rows : List (List Nat)) (hl : rows.length < 4) (h : ∀ xs ∈ rows, xs.length < 4 ∧ ∀ x ∈ xs, x < 30) : ((dpT m rows : Nat) : Int).natAbs < 10 ^ 4300 := by
  have one : ∀ xs : List Nat, (∀ x ∈ xs, x < 30) → sumL m xs ≤ 900 * xs.length := fun xs => by
    induction xs with
    | nil => intro _; exact Nat.zero_le _
    | cons x xs ih =>
      intro h
      have h1 := ih fun y hy => h y (List.mem_cons_of_mem _ hy)
      have h2 := h x (by simp)
      have h3 := LD_below (m := m) (b := x) (k := 29) hm (Nat.lt_of_lt_of_le (Nat.lt_of_lt_of_le h2 (show 30 ≤ 2 ^ 29 by decide)) (Nat.le_trans (Nat.pow_le_pow_left hm 29) (Nat.le_mul_of_pos_right _ (by omega))))
      show LD x m + sumL m xs ≤ _
      rw [List.length_cons]
      omega
  have all : ∀ rows : List (List Nat), (∀ xs ∈ rows, xs.length < 4 ∧ ∀ x ∈ xs, x < 30) → dpT m rows ≤ 3600 * rows.length := fun rows => by
    induction rows with
    | nil => intro _; exact Nat.zero_le _
    | cons xs r ih =>
      intro h
      have h1 := ih fun y hy => h y (List.mem_cons_of_mem _ hy)
      obtain ⟨h2, h3⟩ := h xs (by simp)
      have h4 := one xs h3
      show sumL m xs + dpT m r ≤ _
      rw [List.length_cons]
      omega
  have h1 := all rows h
  rw [Int.natAbs_natCast]
  exact Nat.lt_of_le_of_lt (show dpT m rows ≤ 10 ^ 5 by omega) (Nat.pow_lt_pow_right (by decide) (by decide))
structure TL (P : Program) (w : World) (K : PySem.W.Frag) (mg : Str → Option Value) (base : Heap) where
  z_range : mg "range" = none
  z_sum : mg "sum" = none
  z_repr : mg "repr" = none
  z_tuple : mg "tuple" = none
  dig : PySem.W.nsIn K cStatics "sys.int_max_str_digits" = some none
  law_draw : Cal P w K mg base 1 "_law_draw" ["script", "salt"] (spDraw K)
  law_any : Cal P w K mg base 1 "_law_any" ["deal", "bound"] spAny
  law_of : Cal P w K mg base 2 "_law_of" ["deal", "some"] (spOf K)
  law_power : Cal P w K mg base 1 "_law_power" ["x", "many"] spRaised
  law_least_depths : Cal P w K mg base 1 "_law_least_depths" ["most", "m"] spLL
  least_depths : Cal P w K mg base 1 "least_depths" ["x", "m"] spLD
  law_by_rule : Cal P w K mg base 1 "_law_by_rule" ["x", "m"] spRule
  depth_potential : Cal P w K mg base 2 "depth_potential" ["table", "m"] (spDP K)
  law_sum : Cal P w K mg base 1 "_law_sum" ["table", "least"] (spLS K)
  kb_least_depths : KBinds K least_depths.fd ["x", "m"] ["m", "x"] (fun us ws => us ++ ws.reverse) (fun us ws => us ++ ws.reverse)
  kb_depth_potential : KBinds K depth_potential.fd ["table", "m"] ["m", "table"] (fun us ws => us ++ ws.reverse) (fun us ws => us ++ ws.reverse)
/-- what stands throughout: the draws, and the two lists of least sums -/
structure Bs (H : Hp) (p q l1 l2 : Addr) (m : Nat) : Prop where
  dl : ∃ cs b, Deal H p q cs b
  h1 : H l1 = some (.lst ((told m 31).map natV))
  h2 : H l2 = some (.lst ((told m 31).map natV))
  n1 : l1 ≠ p ∧ l1 ≠ q
  n2 : l2 ≠ p ∧ l2 ≠ q
theorem Bs.keep {H H' : Hp} {p q l1 l2 : Addr} {m : Nat} (B : Bs H p q l1 l2 m) (s : Same H H') : Bs H' p q l1 l2 m :=
  ⟨let ⟨cs, b, D⟩ := B.dl; ⟨cs, b, D.keep s⟩, s _ _ B.h1, s _ _ B.h2, B.n1, B.n2⟩
theorem Bs.drawn {H H' : Hp} {p q l1 l2 : Addr} {m : Nat} {cs : List Int} {b : Int} (B : Bs H p q l1 l2 m) (D : Deal H' p q cs b) (f : But p q H H') : Bs H' p q l1 l2 m :=
  ⟨⟨cs, b, D⟩, f _ _ B.n1.1 B.n1.2 B.h1, f _ _ B.n2.1 B.n2.2 B.h2, B.n1, B.n2⟩
theorem LD_small {x m : Nat} (hm : 2 ≤ m) : LD x m ≤ (x + 1) * x :=
  LD_below hm (Nat.lt_of_lt_of_le (Nat.lt_pow_self (show 1 < m by omega)) (Nat.le_mul_of_pos_right _ (by omega)))
theorem sm_told {m n : Nat} (hm : 2 ≤ m) (hn : n ≤ 31) : Gd.Sm 1 (41 * n) (.list (((told m n).map fun n : Nat => (n : Int)).map PyData.int)) := by
  have h := smAll_ints (d := 0) ((told m n).map fun n : Nat => (n : Int)) fun i hi => by
    obtain ⟨z, hz, rfl⟩ := List.mem_map.mp hi
    unfold told at hz
    obtain ⟨x, hx, rfl⟩ := List.mem_map.mp hz
    have hxl := List.mem_range.mp hx
    have h1 := LD_small (x := x) hm
    have h2 : (x + 1) * x ≤ 31 * 31 := Nat.mul_le_mul (by omega) (by omega)
    omega
  rw [List.length_map, told_len] at h
  exact .lst h
theorem dp_told {K : PySem.W.Frag} {H : Hp} {l : Addr} {m n : Nat} (h : H l = some (.lst ((told m n).map natV))) : Dp K H (.ref l) (.list (((told m n).map fun n : Nat => (n : Int)).map PyData.int)) :=
  dp_ints (by rw [nat_ints]; exact h)
/-! ### rows of drawn numbers, tables of them -/
theorem wipe_at {σ : L2.St} {i j : Nat} {v : Option V} (hij : i ≠ j) : (wipe σ [j])[i]? = σ[i]? ∧ ((wipe σ [j]).set j v)[i]? = σ[i]? := by
  have e : (wipe σ [j])[i]? = σ[i]? := by
    show (σ.set j none)[i]? = _
    rw [List.getElem?_set_ne (Ne.symm hij)]
  exact ⟨e, by rw [List.getElem?_set_ne (Ne.symm hij), e]⟩
theorem rd_draws {σ : L2.St} {H : Hp} {p q : Addr} {cs : List Int} {b : Int} {Q : VK} {j k n : Nat} (D : Deal H p q cs b) (h1 : σ[1]? = some (some (.ref p))) (hj : 1 ≠ j) (hk : 0 < k) (hk2 : k ≤ 1000) (hn : 0 < n) (hn2 : n ≤ 1000000)
    (kk : ∀ J H' (xs : List Nat) cs' b', Deal H' p q cs' b' → But p q H H' → H' J = some (.lst (xs.map natV)) → J ≠ p → J ≠ q → H J = none → xs.length < k → (∀ x ∈ xs, x < n) → Q (.ref J) H') :
    tLc (iRng1 (tCons (tCall spAny [] E0 (tCons (tVar 1) (tCons (tC (.int (k : Int))) tNil))) tNil)) (gName j) tYes (tCall spAny [] E0 (tCons (tVar 1) (tCons (tC (.int (n : Int))) tNil))) [j] σ H Q := by
  refine ⟨_, h1, p, q, cs, b, _, rfl, D, by omega, by omega, fun H1 r cs b D1 f1 r0 r1 => ?_⟩
  obtain ⟨rn, rfl⟩ : ∃ rn : Nat, r = (rn : Int) := ⟨r.toNat, by omega⟩
  refine ⟨_, rfl, by omega, by omega, fun J nJ => ?_⟩
  refine lc_draws (n := rn) (fun x => x < n) D1 nJ (by omega) ?_ ?_
  · intro i H2 cs b hi D2 Q' hQ
    refine ⟨_, ?_, p, q, cs, b, _, rfl, D2, by omega, by omega, fun H3 z cs b D3 f3 z0 z1 => ?_⟩
    · exact (wipe_at hj).2.trans h1
    obtain ⟨m, rfl⟩ : ∃ m : Nat, z = (m : Int) := ⟨z.toNat, by omega⟩
    exact hQ H3 m cs b D3 f3 (by omega)
  · intro H2 xs cs b D2 f2 Jp Jq hJ hl hx
    refine kk J H2 xs cs b D2 (f1.trans f2) hJ Jp Jq ?_ (by omega) hx
    cases e : H J with
    | none => rfl
    | some o => exact absurd nJ (by rw [f1 J o Jp Jq e]; simp)
theorem rd_table {K : PySem.W.Frag} {σ : L2.St} {H : Hp} {p q : Addr} {cs : List Int} {b : Int} {Q : VK} {jo jr k k2 n : Nat} (D : Deal H p q cs b) (h1 : σ[1]? = some (some (.ref p))) (hjo : 1 ≠ jo) (hjr : 1 ≠ jr) (hk : 0 < k) (hk2 : k ≤ 1000) (hk3 : 0 < k2) (hk4 : k2 ≤ 1000) (hn : 0 < n) (hn2 : n ≤ 1000000)
    (kk : ∀ t H' (rows : List (List Nat)) cs' b', Deal H' p q cs' b' → But p q H H' → TabT K H' t rows → rows.length < k → (∀ xs ∈ rows, xs.length < k2 ∧ ∀ x ∈ xs, x < n) → Q (.ref t) H') :
    tCB (rTupK K) (tCons (tLc (iRng1 (tCons (tCall spAny [] E0 (tCons (tVar 1) (tCons (tC (.int (k : Int))) tNil))) tNil)) (gName jr) tYes
      (tCB (rTupK K) (tCons (tLc (iRng1 (tCons (tCall spAny [] E0 (tCons (tVar 1) (tCons (tC (.int (k2 : Int))) tNil))) tNil)) (gName jo) tYes (tCall spAny [] E0 (tCons (tVar 1) (tCons (tC (.int (n : Int))) tNil))) [jo]) tNil)) [jr]) tNil) σ H Q := by
  refine ⟨_, h1, p, q, cs, b, _, rfl, D, by omega, by omega, fun H8 r cs b D f8 r0 r1 => ?_⟩
  obtain ⟨rn, rfl⟩ : ∃ rn : Nat, r = (rn : Int) := ⟨r.toNat, by omega⟩
  refine ⟨_, rfl, by omega, by omega, fun G nG => ?_⟩
  have Gp : G ≠ p := (ne_of_none D.top nG).symm
  have Gq : G ≠ q := (ne_of_none D.low nG).symm
  refine lc_it (n := rn) walk_range (fun i H5 => ∃ cs b as rows, Deal H5 p q cs b ∧ H5 G = some (.lst (as.map V.ref)) ∧ as.length = i ∧ rows.length = i ∧ (∀ xs ∈ rows, xs.length < k2 ∧ ∀ x ∈ xs, x < n) ∧
      (∀ (i : Nat) (a : Addr) (xs : List Nat), as[i]? = some a → rows[i]? = some xs → H5 a = some (.tup (xs.map natV)) ∧ a ≠ p ∧ a ≠ q ∧ a ≠ G) ∧ ∀ y o, y ≠ p → y ≠ q → y ≠ G → H8 y = some o → H5 y = some o)
    ⟨cs, b, [], [], D.keep (same_new nG), upd_same, rfl, rfl, fun x hx => absurd hx List.not_mem_nil, fun i a xs h1 _ => by simp at h1, fun y o _ _ h3 h => by rw [upd_ne h3]; exact h⟩ (fun _ _ _ _ => trivial) ?_ ?_
  · rintro i x H5 H6 hi ⟨cs, b, as, rows, D, hG, la, lr, hr, hat, fr⟩ ⟨rfl, rfl⟩
    refine ⟨wipe_again _ jr _, tt_yes ?_⟩
    unfold tCB tCons
    refine rd_draws D ((wipe_at hjr).2.trans h1) hjo hk3 hk4 hn hn2 fun J H7 xs cs b D f7 hJ _ _ _ lx bx => ?_
    refine ⟨J, _, rfl, .inl ⟨sq_at hJ, fun t nt => ?_⟩⟩
    have hG7 := f7 G _ Gp Gq hG
    have tp : t ≠ p := (ne_of_none D.top nt).symm
    have tq : t ≠ q := (ne_of_none D.low nt).symm
    have tG : t ≠ G := (ne_of_none hG7 nt).symm
    refine ⟨_, by rw [upd_ne tG.symm]; exact hG7, ?_, cs, b, as ++ [t], rows ++ [xs], (D.keepBut tp tq).keepBut Gp Gq, ?_, ?_, ?_, ?_, ?_, ?_⟩
    · rw [List.length_map]
      exact small1000 (by omega)
    · rw [upd_same, List.map_append]
      rfl
    · rw [List.length_append, la]
      rfl
    · rw [List.length_append, lr]
      rfl
    · intro ys hy
      rcases List.mem_append.mp hy with h | h
      · exact hr ys h
      · rw [List.mem_singleton.mp h]
        exact ⟨lx, bx⟩
    · intro j a ys h1 h2
      by_cases hj : j < as.length
      · rw [List.getElem?_append_left hj] at h1
        rw [List.getElem?_append_left (by omega)] at h2
        obtain ⟨g1, g2, g3, g4⟩ := hat j a ys h1 h2
        have g5 := f7 a _ g2 g3 g1
        have g6 : a ≠ t := ne_of_none g5 nt
        exact ⟨by rw [upd_ne g4, upd_ne g6]; exact g5, g2, g3, g4⟩
      · have e1 : j = as.length := by
          have := (List.getElem?_eq_some_iff.mp h1).1
          rw [List.length_append] at this
          have e : ([t] : List Addr).length = 1 := rfl
          omega
        subst e1
        rw [List.getElem?_append_right (Nat.le_refl _), Nat.sub_self] at h1
        rw [List.getElem?_append_right (by omega), show as.length - rows.length = 0 by omega] at h2
        cases Option.some.inj h1
        cases Option.some.inj h2
        exact ⟨by rw [upd_ne tG]; exact upd_same, tp, tq, tG⟩
    · intro y o h1 h2 h3 h
      have h7 := f7 y o h1 h2 (fr y o h1 h2 h3 h)
      rw [upd_ne h3, upd_ne (ne_of_none h7 nt)]
      exact h7
  rintro H5 ⟨cs, b, as, rows, D, hG, la, lr, hr, hat, fr⟩
  refine ⟨G, _, rfl, .inl ⟨sq_at hG, fun t nt => ?_⟩⟩
  refine kk t _ rows cs b (D.keep (same_new nt)) (f8.trans ?_) ⟨as, st_at upd_same, by omega, fun i a xs h1 h2 => st_at ((same_new nt) _ _ (hat i a xs h1 h2).1)⟩ (by omega) hr
  intro y o h1 h2 h
  exact (same_new nt) _ _ (fr y o h1 h2 (ne_of_none h nG) h)
section
variable {P : Program} {w : World} {K : PySem.W.Frag} {mg : Str → Option Value} {base : Heap}
def spLaw (K : PySem.W.Frag) : Sp := fun vs H Q _ => ∃ (a : Addr) (ns : List Int), vs = [.ref a] ∧ SqL K H a (ns.map V.int) ∧ ns.length ≤ 63 ∧ ∀ H', Q (.bl true) H'
theorem ok_law {f : Addr} {fd : FuncData} (F : Fun K "law" "law" s_law f fd) (T : TL P w K mg base) : FnG P w K mg base (2 + 1) f fd ["script"] (spLaw K) := by
  refine okG F sc_law (fun {vs H Q E} h => ?_) (fun cdv A outer s H vs Q E st hr h => ?_)
  · obtain ⟨a, ns, rfl, _⟩ := h
    rfl
  · have hu := hu_of hr
    have sc := sc_law
    obtain ⟨a, ns, rfl, hS, hl, qq⟩ := h
    refine ⟨_, (pss_cons (ps_set (i := 1) sc.nd rfl (.inr rfl) (pe_cal T.law_draw st (hr.mono (by omega)) (pa_cons (pv 0) (pa_cons pe_int pa_nil))))
      (pss_cons (ps_set (i := 2) sc.nd rfl (.inr rfl) (pe_op op_add pe_int (pe_cal T.law_any st (hr.mono (by omega)) (pa_cons (pv 1) (pa_cons pe_int pa_nil)))))
      (pss_cons (ps_set (i := 3) sc.nd rfl (.inr rfl) (pe_cal T.law_least_depths st (hr.mono (by omega)) (pa_cons pe_int (pa_cons (pv 2) pa_nil))))
      (pss_cons (ps_setLc (i := 4) (own := [("x", 6)]) (g := gName 6) (tt := tYes) rfl sc.nd rfl rfl (sw_true rfl rfl rfl (by decide +kernel)) (pi_range1 (by rfl) T.z_range (pa_cons pe_int pa_nil)) (blk_in (N := n_law) (by decide +kernel) (by repeat (first | exact trivial | exact Or.inl rfl | exact Or.inr rfl | refine And.intro ?_ ?_))) (fun _ _ _ _ _ => (pg_name (i := 6) sc.nd rfl (.inl rfl))) (fun _ _ _ _ _ => pts_nil) (fun _ _ _ _ _ => (pe_cal T.least_depths st (hr.mono (by omega)) (pa_cons (pv 6) (pa_cons (pv 2) pa_nil)))))
      (pss_cons (ps_if (PW.pt (pw_or (pt_cmpR op_ne (pe_callB (reprS (K := K) rfl st hr.units) (by rfl) T.z_repr (by decide +kernel) (pa_cons (pv 4) pa_nil)) (pe_callB (reprS (K := K) rfl st hr.units) (by rfl) T.z_repr (by decide +kernel) (pa_cons (pv 3) pa_nil)) (nomark _)) (pw_or1 (pt_cmpR (neK (K := K) rfl hr.units) (pe_lc (own := [("x", 6)]) (g := gName 6) rfl sc.nd (pi_range1 (by rfl) T.z_range (pa_cons pe_int pa_nil)) (blk_in (N := n_law) (by decide +kernel) (by repeat (first | exact trivial | exact Or.inl rfl | exact Or.inr rfl | refine And.intro ?_ ?_))) (fun _ _ _ _ _ => (pg_name (i := 6) sc.nd rfl (.inl rfl))) (fun _ _ _ _ _ => (pts_one (pt_cmpR op_ne (pe_cal T.law_by_rule st (hr.mono (by omega)) (pa_cons (pv 6) (pa_cons (pv 2) pa_nil))) (pe_ix (ixLK (K := K) rfl) (pv 3) (pv 6) (fun _ _ => rfl)) (nomark _)))) (fun _ _ _ _ _ => (pv 6))) (pe_lst pa_nil) (nomark _))))) (pss_one (ps_ret pe_bl)) pss_nil)
      (pss_cons (ps_for PassesOwn.never rfl (pi_range1 (by rfl) T.z_range (pa_cons pe_int pa_nil)) (pg_name (i := 5) sc.nd rfl (.inl rfl)) (pss_cons (ps_par rfl sc.nd (i := 6) (j := 7) rfl rfl (by decide) rfl rfl (pa_cons (pe_op op_add pe_int (pe_cal T.law_any st (hr.mono (by omega)) (pa_cons (pv 1) (pa_cons (pe_cal T.law_of st (hr.mono (by omega)) (pa_cons (pv 1) (pa_cons (pe_lst (pa_cons pe_int (pa_cons pe_int pa_nil))) pa_nil))) pa_nil)))) (pa_cons (pe_op op_add pe_int (pe_cal T.law_any st (hr.mono (by omega)) (pa_cons (pv 1) (pa_cons pe_int pa_nil)))) pa_nil)) (by rfl))
      (pss_cons (ps_if (pt_cmpR op_ne (pe_callB (call_reprI hu T.dig) (by rfl) T.z_repr (by decide +kernel) (pa_cons (pe_calK T.least_depths T.kb_least_depths st (hr.mono (by omega)) (pk_cons (pv 7) (pk_cons (pv 6) pk_nil))) pa_nil)) (pe_callB (call_reprI hu T.dig) (by rfl) T.z_repr (by decide +kernel) (pa_cons (pe_cal T.law_by_rule st (hr.mono (by omega)) (pa_cons (pv 6) (pa_cons (pv 7) pa_nil))) pa_nil)) (nomark _)) (pss_one (ps_ret pe_bl)) pss_nil)
      (pss_cons (ps_setLc (i := 8) (own := [("one", 14)]) (g := gName 14) (tt := tYes) rfl sc.nd rfl rfl (sw_true rfl rfl rfl (by decide +kernel)) (pi_range1 (by rfl) T.z_range (pa_cons (pe_op op_add pe_int (pe_cal T.law_any st (hr.mono (by omega)) (pa_cons (pv 1) (pa_cons (pv 2) pa_nil)))) pa_nil)) (blk_in (N := n_law) (by decide +kernel) (by repeat (first | exact trivial | exact Or.inl rfl | exact Or.inr rfl | refine And.intro ?_ ?_))) (fun _ _ _ _ _ => (pg_name (i := 14) sc.nd rfl (.inl rfl))) (fun _ _ _ _ _ => pts_nil) (fun _ _ _ _ _ => (pe_cal T.law_any st (hr.mono (by omega)) (pa_cons (pv 1) (pa_cons pe_int pa_nil)))))
      (pss_cons (ps_par rfl sc.nd (i := 9) (j := 10) rfl rfl (by decide) rfl rfl (pa_cons (pe_callB (sumK (K := K) rfl rfl) (by rfl) T.z_sum (by decide +kernel) (pa_cons (pe_lc (own := [("one", 14)]) (g := gName 14) (tt := tYes) rfl sc.nd (pi_listK (K := K) rfl (pv 8)) (blk_in (N := n_law) (by decide +kernel) (by repeat (first | exact trivial | exact Or.inl rfl | exact Or.inr rfl | refine And.intro ?_ ?_))) (fun _ _ _ _ _ => (pg_name (i := 14) sc.nd rfl (.inl rfl))) (fun _ _ _ _ _ => pts_nil) (fun _ _ _ _ _ => (pe_ix (ixLK (K := K) rfl) (pv 3) (pv 14) (fun _ _ => rfl)))) pa_nil)) (pa_cons (pe_cal T.least_depths st (hr.mono (by omega)) (pa_cons (pe_callB (sumK (K := K) rfl rfl) (by rfl) T.z_sum (by decide +kernel) (pa_cons (pv 8) pa_nil)) (pa_cons (pv 2) pa_nil))) pa_nil)) (by rfl))
      (pss_cons (ps_if (PW.pt (pw_or (pt_cmpR op_lt (pv 10) (pv 9) (nomark _)) (pw_or1 (pt_cmpR op_gt (pv 10) (pe_op op_add (pv 9) (pe_callB (sumK (K := K) rfl rfl) (by rfl) T.z_sum (by decide +kernel) (pa_cons (pv 8) pa_nil))) (nomark _))))) (pss_one (ps_ret pe_bl)) pss_nil)
      (pss_cons (ps_set (i := 6) sc.nd rfl (.inl rfl) (pe_cal T.law_any st (hr.mono (by omega)) (pa_cons (pv 1) (pa_cons pe_int pa_nil))))
      (pss_cons (ps_par rfl sc.nd (i := 11) (j := 12) rfl rfl (by decide) rfl rfl (pa_cons (pe_cal T.law_power st (hr.mono (by omega)) (pa_cons (pv 2) (pa_cons (pe_ix (ixLK (K := K) rfl) (pv 4) (pv 6) (fun _ _ => rfl)) pa_nil))) (pa_cons (pe_cmpR (inK (K := K) rfl) (pv 6) (pe_lst (pa_cons pe_int (pa_cons pe_int (pa_cons (pv 2) (pa_cons (pe_op op_mul (pv 2) (pv 2)) (pa_cons (pe_op op_mul (pe_op op_mul (pv 2) (pv 2)) (pv 2)) (pa_cons (pe_op op_mul (pe_op op_mul (pe_op op_mul (pv 2) (pv 2)) (pv 2)) (pv 2)) pa_nil))))))) (by rfl)) pa_nil)) (by rfl))
      (pss_cons (ps_if (PW.pt (pw_or (pt_cmpR op_gt (pe_cal T.law_power st (hr.mono (by omega)) (pa_cons (pv 6) (pa_cons (pv 6) pa_nil))) (pv 11) (nomark _)) (pw_or1 (pt_cmpR op_ne (pe_cmpR op_eq (pe_cal T.law_power st (hr.mono (by omega)) (pa_cons (pv 6) (pa_cons (pv 6) pa_nil))) (pv 11) (nomark _)) (pv 12) (nomark _))))) (pss_one (ps_ret pe_bl)) pss_nil)
      (pss_cons (ps_set (i := 13) sc.nd rfl (.inl rfl) (pe_callTy (tupK (K := K) rfl) (by rfl) T.z_tuple (by decide +kernel) (pa_cons (pe_lc (own := [("row", 15)]) (g := gName 15) (tt := tYes) rfl sc.nd (pi_range1 (by rfl) T.z_range (pa_cons (pe_cal T.law_any st (hr.mono (by omega)) (pa_cons (pv 1) (pa_cons pe_int pa_nil))) pa_nil)) (blk_in (N := n_law) (by decide +kernel) (by repeat (first | exact trivial | exact Or.inl rfl | exact Or.inr rfl | refine And.intro ?_ ?_))) (fun _ _ _ _ _ => (pg_name (i := 15) sc.nd rfl (.inl rfl))) (fun _ _ _ _ _ => pts_nil) (fun _ _ _ _ _ => (pe_callTy (tupK (K := K) rfl) (by rfl) T.z_tuple (by decide +kernel) (pa_cons (pe_lc (own := [("one", 14)]) (g := gName 14) (tt := tYes) rfl sc.nd (pi_range1 (by rfl) T.z_range (pa_cons (pe_cal T.law_any st (hr.mono (by omega)) (pa_cons (pv 1) (pa_cons pe_int pa_nil))) pa_nil)) (blk_in (N := n_law) (by decide +kernel) (by repeat (first | exact trivial | exact Or.inl rfl | exact Or.inr rfl | refine And.intro ?_ ?_))) (fun _ _ _ _ _ => (pg_name (i := 14) sc.nd rfl (.inl rfl))) (fun _ _ _ _ _ => pts_nil) (fun _ _ _ _ _ => (pe_cal T.law_any st (hr.mono (by omega)) (pa_cons (pv 1) (pa_cons pe_int pa_nil))))) pa_nil)))) pa_nil)))
      (pss_one (ps_if (PW.pt (pw_or (pt_cmpR op_ne (pe_callB (call_reprI hu T.dig) (by rfl) T.z_repr (by decide +kernel) (pa_cons (pe_cal T.depth_potential st (hr.mono (by omega)) (pa_cons (pv 13) (pa_cons (pv 2) pa_nil))) pa_nil)) (pe_callB (call_reprI hu T.dig) (by rfl) T.z_repr (by decide +kernel) (pa_cons (pe_cal T.law_sum st (hr.mono (by omega)) (pa_cons (pv 13) (pa_cons (pv 3) pa_nil))) pa_nil)) (nomark _)) (pw_or1 (pt_cmpR op_ne (pe_callB (call_reprI hu T.dig) (by rfl) T.z_repr (by decide +kernel) (pa_cons (pe_calK T.depth_potential T.kb_depth_potential st (hr.mono (by omega)) (pk_cons (pv 2) (pk_cons (pv 13) pk_nil))) pa_nil)) (pe_callB (call_reprI hu T.dig) (by rfl) T.z_repr (by decide +kernel) (pa_cons (pe_cal T.law_sum st (hr.mono (by omega)) (pa_cons (pv 13) (pa_cons (pv 3) pa_nil))) pa_nil)) (nomark _))))) (pss_one (ps_ret pe_bl)) pss_nil))))))))))))
      (pss_one (ps_ret pe_bl)))))))), ?_⟩
    -- deal = _law_draw(script, 15); m = 2 + _law_any(deal, 6)
    refine ⟨_, rfl, a, ns, 15, rfl, hS, by decide, by decide, fun H1 p q cs b s1 fp fq D => ?_⟩
    refine ⟨_, rfl, p, q, cs, b, 6, rfl, D, by decide, by decide, fun H2 r cs b D f2 r0 r1 => ⟨_, _, rfl, rfl, ?_⟩⟩
    obtain ⟨m, hm0⟩ : ∃ m : Nat, 2 + r = (m : Int) := ⟨(2 + r).toNat, by omega⟩
    show gName 2 (V.int (2 + r)) _ _ _
    rw [hm0]
    have hm : 2 ≤ m := by omega
    have hm7 : m ≤ 7 := by omega
    clear f2 r0 r1 hm0 s1 fp fq hS
    -- least = _law_least_depths(30, m); told = [least_depths(x, m) for x in range(31)]
    refine ⟨_, rfl, m, rfl, hm, hm7, fun H3 l1 s3 n1 h1 => ?_⟩
    have D3 := D.keep s3
    have l1p : l1 ≠ p ∧ l1 ≠ q := ⟨(ne_of_none D.top n1).symm, (ne_of_none D.low n1).symm⟩
    refine ⟨31, rfl, by decide, by decide, fun l2 n2 => ?_⟩
    refine lc_vals (n := 31) (j := 6) (Yx := fun i y => y = .int (0 + (i : Int))) walk_range n2 (fun x => V.int ((LD x m : Nat) : Int)) (by decide) (fun _ _ _ _ y => y) (fun _ _ => trivial) ?_ ?_
    · rintro x y H4 hx s4 rfl Q' hQ
      rw [show (0 : Int) + (x : Int) = (x : Int) by omega]
      exact ⟨_, rfl, _, rfl, x, m, rfl, hm, by omega, by omega, hQ H4 (Same.refl _)⟩
    intro H4 s4 h2
    have h2 : H4 l2 = some (.lst ((told m 31).map natV)) := by
      rw [h2]
      unfold told
      rw [List.map_map]
      rfl
    have B : Bs H4 p q l1 l2 m := ⟨⟨cs, b, D3.keep s4⟩, s4 _ _ h1, h2, l1p, (ne_of_none D3.top n2).symm, (ne_of_none D3.low n2).symm⟩
    clear h2 h1 s4 n2 n1 s3 D3 D l1p
    -- if repr(told) != repr(least) or ..
    refine ⟨_, rfl, _, _, 1, 41 * 31, rfl, dp_told B.h2, sm_told hm (by decide), by decide, by decide, _, rfl, _, _, 1, 41 * 31, rfl, dp_told B.h1, sm_told hm (by decide), by decide, by decide, rfl, _, rfl, ne_self ?_⟩
    refine ⟨31, rfl, by decide, by decide, fun E nE => ?_⟩
    refine lc_it walk_range (fun i H5 => Same H4 H5 ∧ H5 E = some (.lst [])) ⟨same_new nE, upd_same⟩ (fun _ _ _ _ => trivial) ?_ ?_
    · rintro x y H5 H6 hx ⟨s5, hE⟩ ⟨rfl, rfl⟩
      refine ⟨wipe_again _ 6 _, ?_⟩
      have e0 : V.int (0 + (x : Int)) = V.int (x : Int) := congrArg V.int (Int.zero_add _)
      refine ⟨_, rfl, _, rfl, x, m, congrArg (fun v => [v, V.int (m : Int)]) e0, hm, by omega, by omega, fun H7 s7 => ⟨_, rfl, _, rfl, l1, _, (x : Int), natV (LD x m), rfl, e0, sq_at (s7 _ _ (s5 _ _ B.h1)), atI_nat (by rw [List.getElem?_map, told_at (show x < 31 from hx)]; rfl), rfl, _, rfl, ?_⟩⟩
      exact ne_self ⟨s5.trans s7, s7 _ _ hE⟩
    rintro H5 ⟨s5, hE⟩
    refine ⟨Nat.zero_le _, fun G nG => ⟨.list [], .list [], .lst (sq_at ((same_new nG) _ _ hE)) .nil, .lst (sq_at upd_same) .nil, by decide, by decide, _, rfl, ?_⟩⟩
    show (if (!PyData.eqv (.list []) (.list [])) = true then _ else _)
    rw [if_neg (by decide)]
    have B := B.keep (s5.trans (same_new (o := .lst []) nG))
    clear s5 hE nG nE
    -- for turn in range(6)
    refine ⟨6, rfl, by decide, by decide, for_range (lo := 0) (n := 6) (fun i σ H6 => ∃ v5 v6 v7 v8 v9 v10 v11 v12 v13, σ = [some (.ref a), some (.ref p), some (.int (m : Int)), some (.ref l1), some (.ref l2), v5, v6, v7, v8, v9, v10, v11, v12, v13, none, none] ∧ Bs H6 p q l1 l2 m)
      ⟨none, none, none, none, none, none, none, none, none, rfl, B⟩ ?_ ?_⟩
    · rintro i σ H6 hi ⟨v5, v6, v7, v8, v9, v10, v11, v12, v13, rfl, B⟩
      obtain ⟨cs, b, D⟩ := B.dl
      -- x, fan = (31 + _law_any(deal, _law_of(deal, [40, 994])), 2 + _law_any(deal, 15))
      refine ⟨_, rfl, _, rfl, by show 2 ≤ sizeLine; decide, fun l nl => ?_⟩
      have Dn := D.keep (same_new (o := .lst [.int 40, .int 994]) nl)
      have Bn := B.keep (same_new (o := .lst [.int 40, .int 994]) nl)
      refine ⟨p, q, l, cs, b, [.int 40, .int 994], rfl, Dn, sq_at upd_same, (ne_of_none D.top nl).symm, (ne_of_none D.low nl).symm, by simp, by decide, fun H7 v j cs b D7 f7 hv => ?_⟩
      obtain ⟨n, rfl, hn0, hn1⟩ : ∃ n : Int, v = .int n ∧ 0 < n ∧ n ≤ 994 := by
        match j, hv with
        | 0, hv => exact ⟨40, (Option.some.inj hv).symm, by decide, by decide⟩
        | 1, hv => exact ⟨994, (Option.some.inj hv).symm, by decide, by decide⟩
        | j + 2, hv => simp at hv
      have B7 := Bn.drawn D7 f7
      refine ⟨p, q, cs, b, n, rfl, D7, hn0, by omega, fun H8 r cs b D8 f8 r0 r1 => ⟨_, _, rfl, rfl, ?_⟩⟩
      have B8 := B7.drawn D8 f8
      refine ⟨_, rfl, p, q, cs, b, 15, rfl, D8, by decide, by decide, fun H9 r2 cs b D9 f9 r20 r21 => ⟨_, _, rfl, rfl, _, _, rfl, ?_⟩⟩
      have B9 := B8.drawn D9 f9
      obtain ⟨x, hx0⟩ : ∃ x : Nat, 31 + r = (x : Int) := ⟨(31 + r).toNat, by omega⟩
      obtain ⟨fan, hf0⟩ : ∃ fan : Nat, 2 + r2 = (fan : Int) := ⟨(2 + r2).toNat, by omega⟩
      rw [show ((fun i j => V.int (i + j)) (31 : Int) r) = V.int (x : Int) from congrArg V.int hx0, show ((fun i j => V.int (i + j)) (2 : Int) r2) = V.int (fan : Int) from congrArg V.int hf0]
      have hxb : x ≤ 1024 := by omega
      have hf2 : 2 ≤ fan := by omega
      have hf16 : fan ≤ 16 := by omega
      clear hx0 hf0 r0 r1 r20 r21 f7 f8 f9 Bn Dn nl hv hn0 hn1 B7 B8 D7 D8 B D
      -- if repr(least_depths(m=fan, x=x)) != repr(_law_by_rule(x, fan))
      have bigL : ((LD x fan : Nat) : Int).natAbs < 10 ^ 4300 := by
        rw [Int.natAbs_natCast]
        have h1 := LD_small (x := x) hf2
        have h2 : (x + 1) * x ≤ 1025 * 1024 := Nat.mul_le_mul (by omega) (by omega)
        exact Nat.lt_of_le_of_lt (Nat.le_trans h1 h2) (Nat.lt_of_lt_of_le (by decide : 1025 * 1024 < 10 ^ 7) (Nat.pow_le_pow_right (by decide) (by decide)))
      refine ⟨_, rfl, _, rfl, x, fan, rfl, hf2, by omega, by omega, _, rfl, bigL, _, rfl, _, rfl, x, fan, rfl, hf2, by omega, by omega, fun H10 s10 => ⟨_, rfl, bigL, rfl, _, rfl, ne_self ?_⟩⟩
      have B10 := B9.keep s10
      have D10 := D9.keep s10
      clear s10 D9 bigL
      -- some = [_law_any(deal, 31) for one in range(1 + _law_any(deal, m))]
      refine ⟨_, rfl, _, rfl, p, q, _, _, (m : Int), rfl, D10, by omega, by omega, fun H11 r cs b D11 f11 r0 r1 => ⟨_, _, rfl, rfl, ?_⟩⟩
      obtain ⟨k, hk0⟩ : ∃ k : Nat, 1 + r = (k : Int) := ⟨(1 + r).toNat, by omega⟩
      refine ⟨(k : Int), congrArg (fun v => [V.int v]) hk0, by omega, by omega, fun L nL => ?_⟩
      have hk1 : 1 ≤ k := by omega
      have hkm : k ≤ m := by omega
      have B11 := B10.drawn D11 f11
      refine lc_draws (n := k) (j := 14) (fun x => x < 31) D11 nL (by omega) ?_ ?_
      · intro i H12 cs b hi D12 Q' hQ
        refine ⟨_, rfl, p, q, cs, b, 31, rfl, D12, by decide, by decide, fun H13 z cs b D13 f13 z0 z1 => ?_⟩
        obtain ⟨y, rfl⟩ : ∃ y : Nat, z = (y : Int) := ⟨z.toNat, by omega⟩
        exact hQ H13 y cs b D13 f13 (by omega)
      intro H12 xs cs b D12 f12 Lp Lq hL hlen hxs
      have B12 := B11.drawn D12 f12
      have hlm : xs.length ≤ m := by omega
      clear B11 D11 f11 f12 D10 B10 nL r0 r1 hk0 hk1 hkm hlen k
      have hsum : xs.sum ≤ 30 * xs.length := by
        clear hL hlm D12
        induction xs with
        | nil => simp
        | cons x xs ih =>
          have h1 := ih fun y hy => hxs y (List.mem_cons_of_mem _ hy)
          have h2 := hxs x (by simp)
          rw [List.sum_cons, List.length_cons]
          omega
      have sqL : ∀ {H' : Hp}, H' L = some (.lst (xs.map natV)) → SqL K H' L ((xs.map fun n : Nat => (n : Int)).map V.int) := fun h => by rw [nat_ints]; exact sq_at h
      -- theirs, both = (sum([least[one] for one in some]), least_depths(sum(some), m))
      refine ⟨_, rfl, L, rfl, ⟨_, sq_at hL⟩, fun J nJ => ?_⟩
      refine lc_vals (n := (xs.map natV).length) (j := 14) (Yx := fun i y => (xs.map natV)[i]? = some y) (walk_list (K := K) (a := L) (xs := xs.map natV)) nJ (fun i => (xs[i]?.map fun x => V.int ((LD x m : Nat) : Int)).getD .non) (by rw [List.length_map]; omega) (fun _ _ _ _ y => ⟨y.1, y.2⟩) (fun H s => sq_at (s _ _ hL)) ?_ ?_
      · intro i y H13 hi s13 hy Q' hQ
        obtain ⟨z, hz, rfl⟩ := nat_at hy
        have hzb := hxs z (List.mem_of_getElem? hz)
        refine ⟨_, rfl, _, rfl, l1, _, (z : Int), natV (LD z m), rfl, rfl, sq_at (s13 _ _ B12.h1), atI_nat (by rw [List.getElem?_map, told_at hzb]; rfl), ?_⟩
        have h := hQ H13 (Same.refl _)
        rw [hz] at h
        exact h
      intro H13 s13 hJ
      have B13 := B12.keep s13
      have hL13 := s13 _ _ hL
      rw [List.length_map, range_map] at hJ
      refine ⟨J, xs.map fun x => ((LD x m : Nat) : Int), rfl, sq_at (by rw [hJ, List.map_map]; rfl), ?_⟩
      rw [sumL_map]
      refine ⟨_, rfl, L, _, rfl, sqL hL13, ?_⟩
      rw [sum_ints]
      refine ⟨_, rfl, xs.sum, m, rfl, hm, by omega, by omega, _, _, rfl, ?_⟩
      have tog := together hm xs hlm
      have apt := apart hm xs
      -- if both < theirs or both > theirs + sum(some)
      refine ⟨_, rfl, _, rfl, _, _, rfl, rfl, _, rfl, if_no (by omega) ?_⟩
      refine ⟨_, rfl, _, rfl, _, rfl, L, _, rfl, sqL hL13, _, _, rfl, rfl, _, _, rfl, rfl, _, rfl, ?_⟩
      rw [sum_ints]
      refine if_no (by omega) ?_
      clear tog apt hJ nJ s13 B12 hL hL13 sqL hsum D12 B9
      -- x = _law_any(deal, 31)
      obtain ⟨cs, b, D13⟩ := B13.dl
      refine ⟨_, rfl, p, q, cs, b, 31, rfl, D13, by decide, by decide, fun H14 z cs b D14 f14 z0 z1 => ?_⟩
      obtain ⟨y, rfl⟩ : ∃ y : Nat, z = (y : Int) := ⟨z.toNat, by omega⟩
      have hy : y < 31 := by omega
      have B14 := B13.drawn D14 f14
      clear B13 D13 f14
      have cp := chkP (m - 2) (List.mem_range.mpr (by omega)) y (List.mem_range.mpr hy)
      rw [show m - 2 + 2 = m by omega, Bool.and_eq_true] at cp
      obtain ⟨cp1, cp2⟩ := cp
      have cp1 := of_decide_eq_true cp1
      have cp2 := eq_of_beq (of_decide_eq_true cp2)
      have hLy : LD y m ≤ 4000 := by
        have h1 := LD_small (x := y) hm
        have h2 : (y + 1) * y ≤ 31 * 30 := Nat.mul_le_mul (by omega) (by omega)
        omega
      -- most, round_one = (_law_power(m, told[x]), x in [0, 1, m, m * m, ..])
      refine ⟨_, rfl, _, rfl, _, rfl, l2, _, (y : Int), natV (LD y m), rfl, rfl, sq_at B14.h2, atI_nat (by rw [List.getElem?_map, told_at hy]; rfl), m, LD y m, rfl, by omega, hLy, ?_⟩
      refine ⟨_, rfl, _, rfl, _, rfl, _, rfl, _, _, rfl, rfl, .inr ⟨by omega, by omega⟩, ?_⟩
      refine ⟨_, rfl, _, rfl, _, _, rfl, rfl, .inr ⟨by omega, by omega⟩, _, rfl, _, _, rfl, rfl, .inr ⟨by omega, by omega⟩, ?_⟩
      refine ⟨_, rfl, _, rfl, _, _, rfl, rfl, .inr ⟨by omega, by omega⟩, _, rfl, _, _, rfl, rfl, .inr ⟨by omega, by omega⟩, _, rfl, _, _, rfl, rfl, .inr ⟨by omega, by omega⟩, ?_⟩
      refine ⟨by show 6 ≤ sizeLine; decide, fun l nl => ⟨l, _, rfl, .inl (sq_at upd_same), rfl, rfl, _, _, rfl, ?_⟩⟩
      have B15 := B14.keep (same_new (o := .lst [.int 0, .int 1, .int (m : Int), .int ((m : Int) * m), .int ((m : Int) * m * m), .int ((m : Int) * m * m * m)]) nl)
      have mem : inV (.int (y : Int)) [.int 0, .int 1, .int (m : Int), .int ((m : Int) * m), .int ((m : Int) * m * m), .int ((m : Int) * m * m * m)] = decide (y ^ y = m ^ LD y m) := by
        rw [cp2, ← inV_nat]
        show inV _ _ = inV _ [natV 0, natV 1, natV m, natV (m * m), natV (m * m * m), natV (m * m * m * m)]
        unfold natV
        simp only [Int.natCast_mul]
        rfl
      -- if _law_power(x, x) > most or (_law_power(x, x) == most) != round_one
      refine ⟨_, rfl, _, rfl, y, y, rfl, by omega, by omega, _, rfl, _, _, rfl, rfl, _, rfl, if_no (Int.not_lt.mpr (Int.ofNat_le.mpr cp1)) ?_⟩
      refine ⟨_, rfl, _, rfl, y, y, rfl, by omega, by omega, _, rfl, rfl, _, rfl, rfl, _, rfl, ne_same ?_ ?_⟩
      · show V.bl (decide (V.int _ = V.int _)) = V.bl (inV _ _)
        refine congrArg V.bl ?_
        refine Eq.trans ?_ mem.symm
        by_cases e : y ^ y = m ^ LD y m
        · rw [decide_eq_true e, e, decide_eq_true rfl]
        · rw [decide_eq_false e, decide_eq_false (fun z => e (Int.ofNat_inj.mp (V.int.inj z)))]
      clear mem cp1 cp2 hLy B14 D14 nl
      -- table = tuple([tuple([..]) for row in range(..)])
      obtain ⟨cs, b, D15⟩ := B15.dl
      unfold tNext
      dsimp only [tSeq, tAsg]
      refine rd_table (jo := 14) (jr := 15) (k := 4) (k2 := 4) (n := 30) D15 rfl (by decide) (by decide) (by decide) (by decide) (by decide) (by decide) (by decide) (by decide) fun t H16 rows cs b D16 f16 TT hrl hrows => ?_
      have B16 := B15.drawn D16 f16
      clear B15 D15 f16
      have bigD := dp_bound hm rows hrl hrows
      have b16 : ∀ xs ∈ rows, ∀ x ∈ xs, x < 2 ^ 16 := fun xs h x hx => by have := (hrows xs h).2 x hx; omega
      have b31 : ∀ xs ∈ rows, ∀ x ∈ xs, x < 31 := fun xs h x hx => by have := (hrows xs h).2 x hx; omega
      have b20 : ∀ xs ∈ rows, xs.length ≤ 20 := fun xs h => by have := (hrows xs h).1; omega
      -- repr(depth_potential(table, m)) != repr(_law_sum(table, least)) or ..
      refine ⟨_, rfl, _, rfl, t, rows, m, rfl, TT, hm, by omega, b16, by omega, b20, fun H17 s17 => ⟨_, rfl, bigD, _, rfl, _, rfl, t, l1, rows, m, rfl, tabT_keep s17 TT, sq_at (s17 _ _ B16.h1), b31, by omega, b20, fun H18 s18 => ⟨_, rfl, bigD, rfl, _, rfl, ne_self ?_⟩⟩⟩
      have TT := tabT_keep (s17.trans s18) TT
      have B18 := B16.keep (s17.trans s18)
      clear s17 s18 B16 D16
      refine ⟨_, rfl, _, rfl, t, rows, m, rfl, TT, hm, by omega, b16, by omega, b20, fun H17 s17 => ⟨_, rfl, bigD, _, rfl, _, rfl, t, l1, rows, m, rfl, tabT_keep s17 TT, sq_at (s17 _ _ B18.h1), b31, by omega, b20, fun H18 s18 => ⟨_, rfl, bigD, rfl, _, rfl, ne_self ?_⟩⟩⟩
      exact ⟨_, _, _, _, _, _, _, _, _, rfl, B18.keep (s17.trans s18)⟩
    · rintro σ H6 ⟨v5, v6, v7, v8, v9, v10, v11, v12, v13, rfl, B⟩
      exact qq H6

end
theorem all_mk {l : PySem.W.OpenLaw} {w : World} {K : PySem.W.Frag} {h : Heap} {mg : Str → Option Value} {fa f1 f2 f3 f4 f5 f6 f7 f8 f9 f10 : Addr} (X : K.In h) (G : h.Ns mainGlobals mg) (hfa : mg "law" = some (.ref fa))
    {od1 an1 : Option Addr} {sl1 : Array (Option Value)} {oc1 kV1 dc1 pm1 cd1 ct1 : Value} {od2 an2 : Option Addr} {sl2 : Array (Option Value)} {oc2 kV2 dc2 pm2 cd2 ct2 : Value} {od3 an3 : Option Addr} {sl3 : Array (Option Value)} {oc3 kV3 dc3 pm3 cd3 ct3 : Value} {od4 an4 : Option Addr} {sl4 : Array (Option Value)} {oc4 kV4 dc4 pm4 cd4 ct4 : Value} {od5 an5 : Option Addr} {sl5 : Array (Option Value)} {oc5 kV5 dc5 pm5 cd5 ct5 : Value} {od6 an6 : Option Addr} {sl6 : Array (Option Value)} {oc6 kV6 dc6 pm6 cd6 ct6 : Value} {od7 an7 : Option Addr} {sl7 : Array (Option Value)} {oc7 kV7 dc7 pm7 cd7 ct7 : Value} {od8 an8 : Option Addr} {sl8 : Array (Option Value)} {oc8 kV8 dc8 pm8 cd8 ct8 : Value} {od9 an9 : Option Addr} {sl9 : Array (Option Value)} {oc9 kV9 dc9 pm9 cd9 ct9 : Value} {od10 an10 : Option Addr} {sl10 : Array (Option Value)} {oc10 kV10 dc10 pm10 cd10 ct10 : Value}
    (a1 : PySem.W.nsIn K mainGlobals "least_depths" = some (some (.ref f1))) (l1 : K.lookup f1 = some ⟨oc1, od1, .func (PySem.W.fnOf "least_depths" "least_depths" (defArgs s_least_depths) (defBody s_least_depths) (defScope s_least_depths) .none kV1 dc1 pm1 an1 cd1 ct1), sl1⟩) (c1 : PySem.W.codeIn K cd1 "least_depths" = true) (k1 : PySem.W.keepIn K (.ref f1) = true)
    (a2 : PySem.W.nsIn K mainGlobals "depth_potential" = some (some (.ref f2))) (l2 : K.lookup f2 = some ⟨oc2, od2, .func (PySem.W.fnOf "depth_potential" "depth_potential" (defArgs s_depth_potential) (defBody s_depth_potential) (defScope s_depth_potential) .none kV2 dc2 pm2 an2 cd2 ct2), sl2⟩) (c2 : PySem.W.codeIn K cd2 "depth_potential" = true) (k2 : PySem.W.keepIn K (.ref f2) = true)
    (a3 : PySem.W.nsIn K mainGlobals "_law_draw" = some (some (.ref f3))) (l3 : K.lookup f3 = some ⟨oc3, od3, .func (PySem.W.fnOf "_law_draw" "_law_draw" (defArgs sDraw) (defBody sDraw) (defScope sDraw) .none kV3 dc3 pm3 an3 cd3 ct3), sl3⟩) (c3 : PySem.W.codeIn K cd3 "_law_draw" = true) (k3 : PySem.W.keepIn K (.ref f3) = true)
    (a4 : PySem.W.nsIn K mainGlobals "_law_any" = some (some (.ref f4))) (l4 : K.lookup f4 = some ⟨oc4, od4, .func (PySem.W.fnOf "_law_any" "_law_any" (defArgs sAny) (defBody sAny) (defScope sAny) .none kV4 dc4 pm4 an4 cd4 ct4), sl4⟩) (c4 : PySem.W.codeIn K cd4 "_law_any" = true) (k4 : PySem.W.keepIn K (.ref f4) = true)
    (a5 : PySem.W.nsIn K mainGlobals "_law_of" = some (some (.ref f5))) (l5 : K.lookup f5 = some ⟨oc5, od5, .func (PySem.W.fnOf "_law_of" "_law_of" (defArgs sOf) (defBody sOf) (defScope sOf) .none kV5 dc5 pm5 an5 cd5 ct5), sl5⟩) (c5 : PySem.W.codeIn K cd5 "_law_of" = true) (k5 : PySem.W.keepIn K (.ref f5) = true)
    (a6 : PySem.W.nsIn K mainGlobals "_law_power" = some (some (.ref f6))) (l6 : K.lookup f6 = some ⟨oc6, od6, .func (PySem.W.fnOf "_law_power" "_law_power" (defArgs sLpow) (defBody sLpow) (defScope sLpow) .none kV6 dc6 pm6 an6 cd6 ct6), sl6⟩) (c6 : PySem.W.codeIn K cd6 "_law_power" = true) (k6 : PySem.W.keepIn K (.ref f6) = true)
    (a7 : PySem.W.nsIn K mainGlobals "_law_least_depths" = some (some (.ref f7))) (l7 : K.lookup f7 = some ⟨oc7, od7, .func (PySem.W.fnOf "_law_least_depths" "_law_least_depths" (defArgs s_law_least_depths) (defBody s_law_least_depths) (defScope s_law_least_depths) .none kV7 dc7 pm7 an7 cd7 ct7), sl7⟩) (c7 : PySem.W.codeIn K cd7 "_law_least_depths" = true) (k7 : PySem.W.keepIn K (.ref f7) = true)
    (a8 : PySem.W.nsIn K mainGlobals "_law_sum" = some (some (.ref f8))) (l8 : K.lookup f8 = some ⟨oc8, od8, .func (PySem.W.fnOf "_law_sum" "_law_sum" (defArgs s_law_sum) (defBody s_law_sum) (defScope s_law_sum) .none kV8 dc8 pm8 an8 cd8 ct8), sl8⟩) (c8 : PySem.W.codeIn K cd8 "_law_sum" = true) (k8 : PySem.W.keepIn K (.ref f8) = true)
    (a9 : PySem.W.nsIn K mainGlobals "_law_by_rule" = some (some (.ref f9))) (l9 : K.lookup f9 = some ⟨oc9, od9, .func (PySem.W.fnOf "_law_by_rule" "_law_by_rule" (defArgs s_law_by_rule) (defBody s_law_by_rule) (defScope s_law_by_rule) .none kV9 dc9 pm9 an9 cd9 ct9), sl9⟩) (c9 : PySem.W.codeIn K cd9 "_law_by_rule" = true) (k9 : PySem.W.keepIn K (.ref f9) = true)
    (a10 : PySem.W.nsIn K mainGlobals "law" = some (some (.ref f10))) (l10 : K.lookup f10 = some ⟨oc10, od10, .func (PySem.W.fnOf "law" "law" (defArgs s_law) (defBody s_law) (defScope s_law) .none kV10 dc10 pm10 an10 cd10 ct10), sl10⟩) (c10 : PySem.W.codeIn K cd10 "law" = true) (k10 : PySem.W.keepIn K (.ref f10) = true)
    (z1 : PySem.W.nsIn K mainGlobals "abs" = some none)
    (z2 : PySem.W.nsIn K mainGlobals "int" = some none)
    (z3 : PySem.W.nsIn K mainGlobals "len" = some none)
    (z4 : PySem.W.nsIn K mainGlobals "range" = some none)
    (z5 : PySem.W.nsIn K mainGlobals "sum" = some none)
    (z6 : PySem.W.nsIn K mainGlobals "min" = some none)
    (z7 : PySem.W.nsIn K mainGlobals "repr" = some none)
    (z8 : PySem.W.nsIn K mainGlobals "tuple" = some none)
    (dig : PySem.W.nsIn K cStatics "sys.int_max_str_digits" = some none)
    : ∃ fd : FuncData, (∀ (s : Shared) (v : Value), BindsTo s fd ⟨[v], []⟩ [("script", v)]) ∧ ∀ base : Heap, K.In base → base.Ns mainGlobals mg → FnG l.prog w K mg base 3 fa fd ["script"] (spLaw K) := by
  have e := hfa.symm.trans (PySem.W.mg_of X G a10)
  cases e
  have F1 := fun_mk (st := s_least_depths) l1 c1 k1
  have g1 := PySem.W.mg_of X G a1
  have b1 := F1.binds (ps := ["x", "m"]) fun _ _ _ _ _ _ us hl => match us, hl with | [_, _], _ => rfl
  have F2 := fun_mk (st := s_depth_potential) l2 c2 k2
  have g2 := PySem.W.mg_of X G a2
  have b2 := F2.binds (ps := ["table", "m"]) fun _ _ _ _ _ _ us hl => match us, hl with | [_, _], _ => rfl
  have F3 := fun_mk (st := sDraw) l3 c3 k3
  have g3 := PySem.W.mg_of X G a3
  have b3 := F3.binds (ps := ["script", "salt"]) fun _ _ _ _ _ _ us hl => match us, hl with | [_, _], _ => rfl
  have F4 := fun_mk (st := sAny) l4 c4 k4
  have g4 := PySem.W.mg_of X G a4
  have b4 := F4.binds (ps := ["deal", "bound"]) fun _ _ _ _ _ _ us hl => match us, hl with | [_, _], _ => rfl
  have F5 := fun_mk (st := sOf) l5 c5 k5
  have g5 := PySem.W.mg_of X G a5
  have b5 := F5.binds (ps := ["deal", "some"]) fun _ _ _ _ _ _ us hl => match us, hl with | [_, _], _ => rfl
  have F6 := fun_mk (st := sLpow) l6 c6 k6
  have g6 := PySem.W.mg_of X G a6
  have b6 := F6.binds (ps := ["x", "many"]) fun _ _ _ _ _ _ us hl => match us, hl with | [_, _], _ => rfl
  have F7 := fun_mk (st := s_law_least_depths) l7 c7 k7
  have g7 := PySem.W.mg_of X G a7
  have b7 := F7.binds (ps := ["most", "m"]) fun _ _ _ _ _ _ us hl => match us, hl with | [_, _], _ => rfl
  have F8 := fun_mk (st := s_law_sum) l8 c8 k8
  have g8 := PySem.W.mg_of X G a8
  have b8 := F8.binds (ps := ["table", "least"]) fun _ _ _ _ _ _ us hl => match us, hl with | [_, _], _ => rfl
  have F9 := fun_mk (st := s_law_by_rule) l9 c9 k9
  have g9 := PySem.W.mg_of X G a9
  have b9 := F9.binds (ps := ["x", "m"]) fun _ _ _ _ _ _ us hl => match us, hl with | [_, _], _ => rfl
  have F10 := fun_mk (st := s_law) l10 c10 k10
  have g10 := PySem.W.mg_of X G a10
  have b10 := F10.binds (ps := ["script"]) fun _ _ _ _ _ _ us hl => match us, hl with | [_], _ => rfl
  have y_abs := PySem.W.mg_none_of X G z1
  have y_int := PySem.W.mg_none_of X G z2
  have y_len := PySem.W.mg_none_of X G z3
  have y_range := PySem.W.mg_none_of X G z4
  have y_sum := PySem.W.mg_none_of X G z5
  have y_min := PySem.W.mg_none_of X G z6
  have y_repr := PySem.W.mg_none_of X G z7
  have y_tuple := PySem.W.mg_none_of X G z8
  refine ⟨PySem.W.fnOf "law" "law" (defArgs s_law) (defBody s_law) (defScope s_law) .none kV10 dc10 pm10 an10 cd10 ct10, fun s v => .of_eq rfl, fun base _ _ => ?_⟩
  have kb1 := kw_two (x := "x") (y := "m") F1 (fun _ _ _ _ _ _ _ _ => rfl) (fun _ _ _ _ _ _ _ _ => rfl) (fun _ _ _ _ _ _ _ _ => rfl)
  have kb2 := kw_two (x := "table") (y := "m") F2 (fun _ _ _ _ _ _ _ _ => rfl) (fun _ _ _ _ _ _ _ _ => rfl) (fun _ _ _ _ _ _ _ _ => rfl)
  have Z : Zs K mg := ⟨y_len, y_range, y_sum, y_min, y_repr, y_tuple, dig⟩
  have AN := ok_any (P := l.prog) (w := w) (base := base) (k := 0) F4 y_int
  have C1 : Cal l.prog w K mg base 1 "least_depths" ["x", "m"] spLD := ⟨f1, _, ok_least_depths (k := 0) F1, b1, k1, g1⟩
  exact ok_law F10 ⟨y_range, y_sum, y_repr, y_tuple, dig, ⟨f3, _, .of (ok_draw (k := 0) F3 y_abs y_int), b3, k3, g3⟩, ⟨f4, _, .of AN, b4, k4, g4⟩, ⟨f5, _, .of (ok_of (k := 0) F5 AN b4 k4 g4 y_len), b5, k5, g5⟩, ⟨f6, _, .of (ok_lpow (k := 0) F6 y_range), b6, k6, g6⟩,
    ⟨f7, _, ok_law_least_depths (k := 0) F7 Z, b7, k7, g7⟩, ⟨f1, _, ok_least_depths (k := 0) F1, b1, k1, g1⟩, ⟨f9, _, ok_law_by_rule (k := 0) F9 Z, b9, k9, g9⟩, ⟨f2, _, ok_depth_potential (k := 0) F2 ⟨y_sum, C1⟩, b2, k2, g2⟩, ⟨f8, _, ok_law_sum (k := 0) F8 Z, b8, k8, g8⟩, kb1, kb2⟩
end Lw
open PySem PySem.W PyProof.Rows
set_option maxHeartbeats 0 in
theorem PySem.Challenge.cw_fewestpours_k15_whole_least_depths_holds : PySem.Challenge.rw_fewestpours_k15_whole_least_depths.Holds := by
  w_on; o_law; k_head; (case hw => w_witness2)
  k_fill
  refine Gd.walk_ofG (l := PySem.Challenge.rw_fewestpours_k15_whole_least_depths) (n := 63) (k := 3) (x := "script") (sp := fun K => Lw.spLaw K) rfl (by decide) rfl ⟨rfl, by decide, by decide⟩ (fun w h Y => PySem.W.kIn_of Y) ?F (fun _ _ a ns hl hS => ⟨a, ns, rfl, hS, hl, fun _ => rfl⟩)
  case F =>
    intro w mg fa h KX G hmg
    refine' Lw.all_mk KX G hmg ?a1 ?l1 ?c1 ?k1 ?a2 ?l2 ?c2 ?k2 ?a3 ?l3 ?c3 ?k3 ?a4 ?l4 ?c4 ?k4 ?a5 ?l5 ?c5 ?k5 ?a6 ?l6 ?c6 ?k6 ?a7 ?l7 ?c7 ?k7 ?a8 ?l8 ?c8 ?k8 ?a9 ?l9 ?c9 ?k9 ?a10 ?l10 ?c10 ?k10 ?z1 ?z2 ?z3 ?z4 ?z5 ?z6 ?z7 ?z8 ?dig
    (case a1 => k_is)
    (case l1 => k_is)
    (case c1 => k_is)
    (case k1 => k_is)
    (case a2 => k_is)
    (case l2 => k_is)
    (case c2 => k_is)
    (case k2 => k_is)
    (case a3 => k_is)
    (case l3 => k_is)
    (case c3 => k_is)
    (case k3 => k_is)
    (case a4 => k_is)
    (case l4 => k_is)
    (case c4 => k_is)
    (case k4 => k_is)
    (case a5 => k_is)
    (case l5 => k_is)
    (case c5 => k_is)
    (case k5 => k_is)
    (case a6 => k_is)
    (case l6 => k_is)
    (case c6 => k_is)
    (case k6 => k_is)
    (case a7 => k_is)
    (case l7 => k_is)
    (case c7 => k_is)
    (case k7 => k_is)
    (case a8 => k_is)
    (case l8 => k_is)
    (case c8 => k_is)
    (case k8 => k_is)
    (case a9 => k_is)
    (case l9 => k_is)
    (case c9 => k_is)
    (case k9 => k_is)
    (case a10 => k_is)
    (case l10 => k_is)
    (case c10 => k_is)
    (case k10 => k_is)
    (case z1 => k_is)
    (case z2 => k_is)
    (case z3 => k_is)
    (case z4 => k_is)
    (case z5 => k_is)
    (case z6 => k_is)
    (case z7 => k_is)
    (case z8 => k_is)
    (case dig => k_is)
