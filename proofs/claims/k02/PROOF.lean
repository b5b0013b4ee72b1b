import PyProof.Rows.All
import Wide.All
import OpenK.AllK
import Wide.FinOn
import HandS.ForMost
import HandS.Style
import HandS.Wide
import HandS.Flow
import HandS.Conv
import HandS.RaiseMore
import HandS.Evl
import HandS.Walk
import PyProof.Rows.RegFStrParts
import PySem.Challenge.RW_fewestpours_k02_wishes_and_crowds
import HandS.SortInts
import HandS.IsInst
import PyProof.Rows.SortShellAny
import KE.KTupSum
import HandS.Deep
import HandS.TupMul
import HandS.More
import HandS.Strs
import HandS.Iter
import KE.GoesEnum
import HandS.TupAny
import HandS.TupLe
import HandS.Zip
import HandS.Rev
import HandS.RevRange
import HandS.DictComp
import HandS.DictEq
import HandS.SetFor
set_option Elab.async false
set_option linter.all false
set_option maxRecDepth 100000
set_option maxHeartbeats 4000000
/-! promises that hold where nothing is being shown (no repr runs): what a def's text may then ask -/
namespace Gd
open PySem PySem.Spec PyProof.Rows L2
/-- no repr runs around -/
abbrev Still (A : Around) : Prop := A.guards = some []
structure FnG (P : Program) (w : World) (K : PySem.W.Frag) (mg : Str → Option Value) (base : Heap) (k : Nat) (f : Addr) (fd : FuncData) (ps : List Str) (sp : Sp) : Prop where
  len : ∀ {vs H Q E}, sp vs H Q E → vs.length = ps.length
  run : ∀ {A outer s H args us vs Q E}, Still A → Room k A → Env0 P w K mg base A outer s H → BindsTo s fd args (ps.zip us) → Vals vs us → sp vs H Q E →
    codeAny (model P w) A (.call (.ref f) args) (CR CX0 outer P w H s Q E) s
section
variable {P : Program} {w : World} {K : PySem.W.Frag} {mg : Str → Option Value} {base : Heap} {j k : Nat} {f : Addr} {fd : FuncData} {ps : List Str} {sp : Sp}
theorem FnG.of (F : FnOk P w K mg base CX0 k f fd ps sp) : FnG P w K mg base k f fd ps sp := ⟨fun h => F.len _ _ _ _ h, fun _ hr e b r h => F.run _ _ _ _ _ _ _ _ _ hr e b r h⟩
theorem FnG.mono (F : FnG P w K mg base j f fd ps sp) (h : j ≤ k) : FnG P w K mg base k f fd ps sp := ⟨F.len, fun g hr => F.run g (hr.mono h)⟩
/-- a def's promise by its body; the body may use that no repr runs -/
theorem okG {x qual : Str} {st : Stmt} {N : List Str} (F : Fun K x qual st f fd) (S : FnScope N ps (defScope st)) (len : ∀ {vs H Q E}, sp vs H Q E → vs.length = ps.length)
    (body : ∀ (cdv : Value) (A : Around) (outer : List Env) (s : Shared) (H : Hp) (vs : List V) (Q : VK) (E : XK), Still A → Room k (A.deeper (envOfC qual (defScope st) s.heap.objs.size f cdv)) → sp vs H Q E →
      ∃ t, PSs (cxOf CX0 P w K mg base N qual (defScope st) f cdv A outer s H E).nox (defBody st) t ∧ t { nx := fun _ H1 => Q .non H1, rt := Q } (start N vs) H) : FnG P w K mg base (k + 1) f fd ps sp := by
  obtain ⟨_, _, kV, doc, pm, an, cdv, ct, _, rfl, at_, code⟩ := F.ex
  constructor
  · exact len
  intro A outer s H args us vs Q E still room e0 binds rel want
  have inK := e0.mod.kin.keeps fun b o e => (e0.bs b o e).1
  have noL := e0.mod.nolimit.keeps fun b o e => (e0.bs b o e).1
  refine codeAny_call_function room.depth (inK _ _ at_) rfl S.co S.gen rfl (PySem.W.codeRec_of inK code) (binds _ _ _ _ (wpAny_newFunctionEnv_cells S.kind ?_ ?_))
  · rintro ⟨n, v⟩ hy
    exact (S.par n (List.of_mem_zip hy).1).imp id fun q => ⟨q, PySem.W.cellsFrom_some _ _ _ (.inl q)⟩
  rintro env rfl s1 made
  refine ⟨noL.keeps made.toInCall.keep, codeAny_func ?_⟩
  obtain ⟨t, ht, hq⟩ := body cdv A outer s H vs Q E still (room.deeper _) want
  have I0 := inv_start (CX := CX0) (E := E) (N := N) S room.hd e0 (len want) rel made
  refine wpAny_mono (ht.nox.run [] s1 (start N vs) H _ I0 hq) ?_ fun _ _ z => z
  rintro (_ | _ | _ | u) s2 z
  · obtain ⟨_, H2, J, q⟩ := z
    exact ⟨V.non, H2, J.os, J.bare, J.base, J.hok, rfl, q⟩
  · obtain ⟨_, _, _, z⟩ := z
    exact (show False from z).elim
  · obtain ⟨_, _, _, z⟩ := z
    exact (show False from z).elim
  · obtain ⟨v, _, H2, J, rv, q⟩ := z
    exact ⟨v, H2, J.os, J.bare, J.base, J.hok, rv, q⟩
end
section
variable {X : Cx} {k : Nat} {f : Addr} {fd : FuncData} {ps ks : List Str} {sp : Sp} {x : Str} {E : XK} {ds : List Value} {dvs : List V} {e : Expr} {es : List Expr} {t tk : TA} {p pos : Pos}
  {g : List Value → List Value → List Value} {gV : List V → List V → List V} {kws : List Keyword}
/-- what comes back from such a call -/
theorem back_of {pins : List (Addr × Obj)} {σ : L2.St} {H : Hp} {s : Shared} {Q : VK} {args : Args} (I : Inv X pins σ H s) (hx : Passes CX0 X E)
    (c : codeAny (model X.prog X.w) X.A (.call (.ref f) args) (CR CX0 X.stack X.prog X.w H s Q E) s) : wpAny (model X.prog X.w) X.A (PySem.call (.ref f) args.pos args.kw) (EP X pins σ Q) X.xe s := by
  refine wpAny_call (codeAny_mono c ?_)
  rintro (err | _ | _ | _ | u) s2 z
  · exact hx pins σ H s err s2 I z
  · exact (show False from z).elim
  · exact (show False from z).elim
  · exact (show False from z).elim
  · exact I.after z
theorem pe_callG (F : FnG X.prog X.w X.K X.mg X.base k f fd ps sp) (still : Still X.A) (hr : Room k X.A) (hg : Gl X x) (hm : X.mg x = some (.ref f)) (hk : PySem.W.keepIn X.K (.ref f) = true) (hb : Binds X.K fd ps ds) (hd : Vals dvs ds) (hx : Passes CX0 X E)
    (ha : PA X (e :: es) t) (hdb : (x == ("__debug__" : Str)) = false := by decide) (he : starEach (e :: es) X.env = (false, eval e X.env) :: starEach es X.env := by rfl) (hpl : (backTo pos (starEach es X.env)).any (·.1) = false := by rfl) :
    PE X (.Call (.Name x p) (e :: es) [] pos) (tCall sp dvs E t) := by
  constructor
  intro pins s σ H Q I h
  refine wpAny_Call_Name_kw (ld_glob I hg hm (PySem.W.callWith_K (h₀ := X.base) I.ok.mod.kin hk (thn (ha.run pos pins s σ H _ I h) ?_) he hpl) hdb)
  rintro us s1 ⟨vs, H1, I1, rel, want⟩
  have rel2 := rel.append hd
  have n2 : (us ++ ds).length = ps.length := rel2.length.symm.trans (F.len want)
  exact ⟨I1.kIn, back_of I1 hx (F.run still hr I1.env0 (hb s1 us I1.kIn n2) rel2 want)⟩
/-- f(k = v, ..): keywords alone, and behind others -/
theorem pe_kwG (F : FnG X.prog X.w X.K X.mg X.base k f fd ps sp) (still : Still X.A) (hr : Room k X.A) (hg : Gl X x) (hm : X.mg x = some (.ref f)) (hk : PySem.W.keepIn X.K (.ref f) = true) (hb : KBinds X.K fd ps ks g gV) (hx : Passes CX0 X E)
    (hkw : PK X kws tk) (hall : (backToKw pos (keywordEach kws X.env)).all (·.1.isSome) = true := by rfl) (hks : (backToKw pos (keywordEach kws X.env)).filterMap (·.1) = ks := by rfl) (hdb : (x == ("__debug__" : Str)) = false := by decide)
    (hpl : ((backTo pos (starEach [] X.env)).any (·.1) || (backToKw pos (keywordEach kws X.env)).any (·.1.isNone)) = false := by rfl) : PE X (.Call (.Name x p) [] kws pos) (tCallK sp gV E tNil tk) := by
  constructor
  intro pins s σ H Q I h
  refine wpAny_Call_Name_kw (ld_glob I hg hm (PySem.W.callWith_KW0 (h₀ := X.base) I.ok.mod.kin hk hall (thn (hkw.run pos pins s σ H _ I h) ?_) hpl) hdb)
  rintro ws s2 ⟨zs, H2, I2, rz, want⟩
  have rel2 := hb.rel (vs := []) (us := []) .nil rz
  rw [hks]
  exact ⟨I2.kIn, back_of I2 hx (F.run still hr I2.env0 (hb.to s2 [] ws I2.kIn (rel2.length.symm.trans (F.len want))) rel2 want)⟩
theorem pe_kwG1 (F : FnG X.prog X.w X.K X.mg X.base k f fd ps sp) (still : Still X.A) (hr : Room k X.A) (hg : Gl X x) (hm : X.mg x = some (.ref f)) (hk : PySem.W.keepIn X.K (.ref f) = true) (hb : KBinds X.K fd ps ks g gV) (hx : Passes CX0 X E)
    (ha : PA X (e :: es) t) (hkw : PK X kws tk) (hall : (backToKw pos (keywordEach kws X.env)).all (·.1.isSome) = true := by rfl) (hks : (backToKw pos (keywordEach kws X.env)).filterMap (·.1) = ks := by rfl) (hdb : (x == ("__debug__" : Str)) = false := by decide)
    (he : starEach (e :: es) X.env = (false, eval e X.env) :: starEach es X.env := by rfl) (hpl : ((backTo pos (starEach (e :: es) X.env)).any (·.1) || (backToKw pos (keywordEach kws X.env)).any (·.1.isNone)) = false := by rfl) :
    PE X (.Call (.Name x p) (e :: es) kws pos) (tCallK sp gV E t tk) := by
  constructor
  intro pins s σ H Q I h
  refine wpAny_Call_Name_kw (ld_glob I hg hm (PySem.W.callWith_KW (h₀ := X.base) I.ok.mod.kin hk hall (thn (ha.run pos pins s σ H _ I h) ?_) hpl he) hdb)
  rintro us s1 ⟨vs, H1, I1, rel, want⟩
  refine thn (hkw.run pos pins s1 σ H1 _ I1 want) ?_
  rintro ws s2 ⟨zs, H2, I2, rz, want⟩
  have rel2 := hb.rel rel rz
  rw [hks]
  exact ⟨I2.kIn, back_of I2 hx (F.run still hr I2.env0 (hb.to s2 us ws I2.kIn (rel2.length.symm.trans (F.len want))) rel2 want)⟩
/-- repr of data without dicts -/
def rReprD (K : PySem.W.Frag) : List V → Hp → VK → Prop := fun vs H Q => ∃ x d, vs = [x] ∧ Dp K H x d ∧ d.showable = true ∧ d.hasDict = false ∧ d.depth ≤ 20 ∧ d.shown.length ≤ sizeLine ∧ Q (.str d.shown) H
theorem call_reprD (still : Still X.A) (hu : X.A.units + 64 < cLine) : CallR X (.builtin "repr") (rReprD X.K) := by
  rintro pins s σ H vs us Q I rel ⟨x, d, rfl, hd, sh, nd, dp, len, want⟩
  cases rel with
  | cons rx rn =>
    cases rn
    rename_i u
    obtain ⟨as, reads⟩ := Dp.reads I d x u hd rx
    have fin : ∀ (h2 : Heap) (t tk : Nat), (∀ b o, s.heap.get? b = some o → h2.get? b = some o) → EP X pins σ Q (.str d.shown t) { s with heap := h2, toks := tk } := fun h2 t tk keep => ⟨.str _, H, I.kept keep, ⟨_, rfl⟩, want⟩
    cases hd with
    | non =>
      cases rx
      exact PySem.P.repr_of_none (fin s.heap _ _ fun _ _ e => e)
    | bl b =>
      cases rx
      exact PySem.P.repr_of_bool (fin s.heap _ _ fun _ _ e => e)
    | int i =>
      obtain ⟨t, rfl⟩ := rx
      exact PySem.P.repr_of_int (of_decide_eq_true sh) (fin s.heap _ _ fun _ _ e => e)
    | str z =>
      obtain ⟨t, rfl⟩ := rx
      exact PySem.P.repr_of_str (fin s.heap _ _ fun _ _ e => e) len
    | lst hs hall =>
      obtain rfl : u = Value.ref _ := rx
      exact repr_of_reads' reads sh (PyData.noDict_hsm nd) still (by omega) (fun _ _ e => e) (fun h2 t tk keep => fin h2 t tk keep) len
    | tup hs hall =>
      obtain rfl : u = Value.ref _ := rx
      exact repr_of_reads' reads sh (PyData.noDict_hsm nd) still (by omega) (fun _ _ e => e) (fun h2 t tk keep => fin h2 t tk keep) len
end
/-- the end: as the layer's own, from a promise that holds where no repr runs -/
theorem law_callG {P : Program} {w : World} {K : PySem.W.Frag} {mg mb : Str → Option Value} {k : Nat} {fa a : Addr} {fd : FuncData} {x : Str} {sp : Sp} {s : Shared} {vs : List Value} {ns : List Int}
    (inK : K.In s.heap) (names : s.heap.Ns mainGlobals mg) (blt : s.heap.Ns builtinsNs mb) (bltIs : ∀ x : Str, x ≠ "__name__" → mb x = bootBuiltins x) (noLim : s.heap.NoLimit) (noGen : s.gens = #[])
    (script : s.heap.get? a = some { cls := .type "list", data := .seq vs.toArray }) (areI : IntsAre vs ns) (len : ns.length ≤ sizeLine) (room : Room k callerA)
    (F : ∀ base : Heap, K.In base → base.Ns mainGlobals mg → FnG P w K mg base k fa fd [x] sp) (binds : ∀ (s : Shared) (u : Value), BindsTo s fd ⟨[u], []⟩ [(x, u)])
    (want : ∀ H : Hp, SqL K H a (ns.map V.int) → sp [.ref a] H (fun v _ => v = .bl true) fun _ _ _ => False) :
    codeAny (model P w) callerA (.call (.ref fa) ⟨[.ref a], []⟩) (fun r s2 => r = .ok (.ret (.bool true)) ∧ OldK s.heap s2.heap ∧ s2.os = s.os ∧ AllBare s2.gens) s := by
  -- over any abstract heap that tracks at most the script
  suffices main : ∀ H : Hp, (∀ b, H b = none ∨ b = a ∧ K.lookup a = none ∧ ∃ o xs, H b = some (.frz o (.lst xs))) → SqL K H a (ns.map V.int) → HOk P w H s.heap →
      codeAny (model P w) callerA (.call (.ref fa) ⟨[.ref a], []⟩) (fun r s2 => r = .ok (.ret (.bool true)) ∧ OldK s.heap s2.heap ∧ s2.os = s.os ∧ AllBare s2.gens) s by
    rcases own : K.lookup a with _ | o
    · refine main (fun b => if b = a then some (.frz { cls := .type "list", data := .seq vs.toArray } (.lst (ns.map V.int))) else none) (fun b => ?_) (.inl (.inr ⟨_, if_pos rfl⟩)) fun b u z => ?_
      · by_cases e : b = a
        · exact .inr ⟨e, own, _, _, if_pos e⟩
        · exact .inl (if_neg e)
      · by_cases e : b = a
        · subst e
          cases (if_pos rfl).symm.trans z
          exact ⟨script, (List.length_map (f := V.int)) ▸ len, vs, _, vals_ints areI, script⟩
        · cases (if_neg e).symm.trans z
    · have same := (inK a o own).symm.trans script
      cases same
      refine main (fun _ => none) (fun _ => .inl rfl) (.inr ⟨_, vs.toArray, _, own, rfl, rfl, rfl, ?_, by simpa using vals_ints areI⟩) fun b u z => by cases z
      rw [List.size_toArray, areI.length]
      exact len
  intro H few at_ hok
  have shown : ∀ {b : Addr} {o : Obj}, s.heap.get? b = some o → H b = none → (hidT s.heap H).get? b = some o := fun e n => hidT_get e n
  -- what is tracked is no namespace, and none of the module's own
  have dicts : ∀ {b : Addr} {o : Obj} {es : Array DictEntry} {ep : Nat}, s.heap.get? b = some o → o.data = .dict es ep → H b = none := by
    intro b o es ep e d
    rcases few b with z | ⟨rfl, _⟩
    · exact z
    · cases e.symm.trans script
      cases d
  have spaces : ∀ {b : Addr} {m : Str → Option Value}, s.heap.Ns b m → (hidT s.heap H).Ns b m := fun ⟨o, es, ep, e, d, r⟩ => ⟨o, es, ep, shown e (dicts e d), d, r⟩
  have inB : K.In (hidT s.heap H) := fun b o e => by
    refine shown (inK b o e) ?_
    rcases few b with z | ⟨rfl, no, _⟩
    · exact z
    · cases no.symm.trans e
  have modB : Mod K mg (hidT s.heap H) := ⟨inB, spaces names, ⟨mb, spaces blt, bltIs⟩, noLim.elim fun mc z => ⟨mc, spaces z.1, z.2⟩⟩
  have env : Env0 P w K mg (hidT s.heap H) callerA [] s H := ⟨rfl, modB, fun _ _ => of_hidT, Nat.le_of_eq (hidT_size _ _), trivial, fun b z => absurd z List.not_mem_nil, hok, .of_eq noGen⟩
  refine codeAny_mono ((F _ inB (spaces names)).run (us := [.ref a]) (vs := [.ref a]) rfl room env (binds s (.ref a)) (.cons rfl .nil) (want H at_)) ?_
  rintro (err | _ | _ | _ | u) s2 z
  · exact (show False from z).elim
  · exact (show False from z).elim
  · exact (show False from z).elim
  · exact (show False from z).elim
  obtain ⟨v, H2, os, bare, un, hok2, rel, rfl⟩ := z
  cases (show u = Value.bool true from rel)
  refine ⟨rfl, OldK.of_keep fun b o e => ?_, os, bare⟩
  rcases few b with z | ⟨_, _, ob, xs, z⟩
  · exact un.keep b o e z (fun y => absurd (show b ∈ ([] : List Addr) from y) List.not_mem_nil) List.not_mem_nil
  · have e1 := (hok b _ z).1.symm.trans e
    cases e1
    exact (hok2 b _ (un.frzs b _ _ z)).1
theorem walk_ofG {l : PySem.W.OpenLaw} {n k : Nat} {q : Program} {loose : List Str} {XP : (Str → Option Value) → Heap → Prop} {YP : World → Heap → Prop} {d : DefRec} {K : Params → PySem.W.Frag} {sp : PySem.W.Frag → Sp} {x : Str}
    (hn : l.most = some n) (hn2 : n ≤ sizeLine) (hdf : d.params.defaults = []) (room : Room k callerA) (hY : ∀ (w : World) (h : Heap), YP w h → (K w.params).In h)
    (F : ∀ (w : World) (mg : Str → Option Value) (fa : Addr) (h : Heap), (K w.params).In h → h.Ns mainGlobals mg → mg d.name = some (.ref fa) →
      ∃ fd : FuncData, (∀ (s : Shared) (u : Value), BindsTo s fd ⟨[u], []⟩ [(x, u)]) ∧ ∀ base : Heap, (K w.params).In base → base.Ns mainGlobals mg → FnG l.prog w (K w.params) mg base k fa fd [x] (sp (K w.params)))
    (want : ∀ (K : PySem.W.Frag) (H : Hp) (a : Addr) (ns : List Int), ns.length ≤ n → SqL K H a (ns.map V.int) → sp K [.ref a] H (fun v _ => v = .bl true) fun _ _ _ => False) :
    PySem.W.WalkO q loose XP YP l.row.toRowW d [] (fun f vs => PySem.call f vs) := by
  refine Att.attach_call hn hdf ?_
  intro w s₀ s mg mb fa o pm cd doc a vs ns G Y ho hd hcd hmg hobj hints hlen hg
  obtain ⟨fd, hb, hF⟩ := F w mg fa _ (hY w _ Y) G.T.g hmg
  exact law_callG (hY w _ Y) G.T.g G.T.b G.T.builtins G.T.nolimit hg hobj hints (Nat.le_trans hlen hn2) room hF hb fun H at_ => want _ H a ns hlen at_
end Gd
/-! the layer's rules with the written part said: so they stand within comprehensions, too -/
namespace Gd
open PySem PySem.Spec PyProof.Rows L2
section
variable {X : Cx} {K : PySem.W.Frag} {tg l e : Expr} {tl te : TE} {pos : Pos}
theorem ixLK (h : X.K = K) : IxR X (rIxL K) := h ▸ ix_list
theorem ixTK (h : X.K = K) : IxR X (rIxT K) := h ▸ ix_tup
theorem slLK (h : X.K = K) : SlR X (rSlL K) := h ▸ sl_list
def rLenK (K : PySem.W.Frag) : List V → Hp → VK → Prop := fun vs H Q => ∃ p ys, vs = [.ref p] ∧ (SqL K H p ys ∨ SqT K H p ys) ∧ Q (.int ys.length) H
theorem lenK (h : X.K = K) : CallR X (.builtin "len") (rLenK K) := by
  subst h
  exact call_len_seq
def rTupK (K : PySem.W.Frag) : List V → Hp → VK → Prop := fun vs H Q => ∃ p ys, vs = [.ref p] ∧ ((SqL K H p ys ∧ ∀ l, H l = none → Q (.ref l) (upd H l (.tup ys))) ∨ (SqT K H p ys ∧ Q (.ref p) H))
theorem tupK (h : X.K = K) : CallR X (.type "tuple") (rTupK K) := by
  subst h
  exact call_tuple_of
def rLstK (K : PySem.W.Frag) : List V → Hp → VK → Prop := fun vs H Q => ∃ p ys, vs = [.ref p] ∧ (SqL K H p ys ∨ SqT K H p ys) ∧ ∀ l, H l = none → Q (.ref l) (upd H l (.lst ys))
theorem lstK (h : X.K = K) : CallR X (.type "list") (rLstK K) := by
  subst h
  exact call_list_of
theorem sumK (h : X.K = K) (hc : X.calm = true) : CallR X (.builtin "sum") (rSum K) := h ▸ cr_sum hc
theorem minK (h : X.K = K) (hc : X.calm = true) : CallR X (.builtin "min") (rMin K) := h ▸ cr_min hc
theorem maxK (h : X.K = K) (hc : X.calm = true) : CallR X (.builtin "max") (rMax K) := h ▸ cr_max hc
theorem sortK (h : X.K = K) : CallR X (.builtin "sorted") (rSorted K) := h ▸ cr_sorted
theorem reprK (h : X.K = K) (still : Still X.A) (hu : X.A.units + 64 < cLine) : CallR X (.builtin "repr") (rReprD K) := h ▸ call_reprD still hu
theorem eqK (h : X.K = K) (hu : X.A.units + 64 < cLine) : OpR X (compareOp .Eq) (rEqD K) := h ▸ op_eqD hu
theorem neK (h : X.K = K) (hu : X.A.units + 64 < cLine) : OpR X (compareOp .NotEq) (rNeD K) := h ▸ op_neD hu
theorem inK (h : X.K = K) : OpR X (compareOp .In) (rIn K false) := h ▸ op_in_seq
theorem ninK (h : X.K = K) : OpR X (compareOp .NotIn) (rIn K true) := h ▸ op_notIn_seq
theorem pi_listK (h : X.K = K) (hl : PE X l tl) : PI X tg l (iList K tl) := h ▸ pi_list hl
theorem pi_tupK (h : X.K = K) (hl : PE X l tl) : PI X tg l (iTup K tl) := h ▸ pi_tup hl
theorem revLK {k : Nat} {p1 p2 p3 : Pos} (h : X.K = K) (he : PE X e te) : PE X (.Subscript e (.Slice none none (some (.UnaryOp .USub (.Constant (.int 1) k p1) p2)) p3) pos) (tRevL K te) := h ▸ pe_revL he
end
/-- what is free in a block is known around it -/
def FreeIn (sc : Scope) : List (Str × NameKind) → Prop
  | [] => True
  | (x, .free) :: r => (sc.names.lookup x = some .cell ∨ sc.names.lookup x = some .free) ∧ FreeIn sc r
  | (_, .local) :: r => FreeIn sc r
  | (_, .cell) :: r => FreeIn sc r
  | (_, .globalImplicit) :: r => FreeIn sc r
  | (_, .globalExplicit) :: r => FreeIn sc r
theorem FreeIn.at {sc : Scope} {ns : List (Str × NameKind)} : ∀ {y : Str × NameKind}, FreeIn sc ns → y ∈ ns → y.2 = .free → sc.names.lookup y.1 = some .cell ∨ sc.names.lookup y.1 = some .free := by
  induction ns with
  | nil => exact fun _ hy _ => absurd hy List.not_mem_nil
  | cons z r ih =>
    intro y h hy hk
    obtain ⟨x, k⟩ := z
    rcases List.mem_cons.mp hy with e | hm
    · subst e
      obtain rfl : k = .free := hk
      exact h.1
    · clear hy
      cases k with
      | free => exact ih h.2 hm hk
      | «local» => exact ih h hm hk
      | cell => exact ih h hm hk
      | globalExplicit => exact ih h hm hk
      | globalImplicit => exact ih h hm hk
theorem blk_in {N : List Str} {sc scope : Scope} {own : List (Str × Nat)} (h : blkC N scope scope own = true) (f : FreeIn sc scope.names) : BlkOk N sc scope own :=
  let b := blkOk_by h
  ⟨b.kind, b.uniq, b.ix, fun _ hy e => f.at hy e, b.own⟩
/-- a def that may be called: where it stands, and its promise -/
structure Cal (P : Program) (w : World) (K : PySem.W.Frag) (mg : Str → Option Value) (base : Heap) (k : Nat) (x : Str) (ps : List Str) (sp : Sp) where
  f : Addr
  fd : FuncData
  ok : FnG P w K mg base k f fd ps sp
  b : Binds K fd ps []
  kp : PySem.W.keepIn K (.ref f) = true
  g : mg x = some (.ref f)
section
variable {X : Cx} {k j : Nat} {ps ks : List Str} {sp : Sp} {x : Str} {e : Expr} {es : List Expr} {t tk : TA} {p pos : Pos} {g : List Value → List Value → List Value} {gV : List V → List V → List V} {kws : List Keyword}
theorem pe_cal (C : Cal X.prog X.w X.K X.mg X.base k x ps sp) (still : Still X.A) (hr : Room k X.A) (ha : PA X (e :: es) t) (hg : Gl X x := by rfl) (hdb : (x == ("__debug__" : Str)) = false := by decide)
    (he : starEach (e :: es) X.env = (false, eval e X.env) :: starEach es X.env := by rfl) (hpl : (backTo pos (starEach es X.env)).any (·.1) = false := by rfl) : PE X (.Call (.Name x p) (e :: es) [] pos) (tCall sp [] E0 t) :=
  pe_callG C.ok still hr hg C.g C.kp C.b .nil pass0 ha hdb he hpl
theorem pe_calK (C : Cal X.prog X.w X.K X.mg X.base k x ps sp) (hb : KBinds X.K C.fd ps ks g gV) (still : Still X.A) (hr : Room k X.A) (hkw : PK X kws tk) (hg : Gl X x := by rfl) (hall : (backToKw pos (keywordEach kws X.env)).all (·.1.isSome) = true := by rfl)
    (hks : (backToKw pos (keywordEach kws X.env)).filterMap (·.1) = ks := by rfl) (hdb : (x == ("__debug__" : Str)) = false := by decide) (hpl : ((backTo pos (starEach [] X.env)).any (·.1) || (backToKw pos (keywordEach kws X.env)).any (·.1.isNone)) = false := by rfl) :
    PE X (.Call (.Name x p) [] kws pos) (tCallK sp gV E0 tNil tk) := pe_kwG C.ok still hr hg C.g C.kp hb pass0 hkw hall hks hdb hpl
end
end Gd
/-! small data: what repr shows of it -/
namespace Gd
open PySem PySem.Spec PyProof.Rows L2
mutual
/-- data of at most so much depth and weight, its ints of twelve digits -/
inductive Sm : Nat → Nat → PyData → Prop
  | non {d : Nat} : Sm d 0 .none
  | bl {d : Nat} (b : Bool) : Sm d 0 (.bool b)
  | int {d : Nat} {i : Int} (h : -999999999999 ≤ i) (h' : i ≤ 999999999999) : Sm d 40 (.int i)
  | str {d : Nat} {x : Str} (h : x.cps.all (· < 0x110000) = true) : Sm d x.cps.size (.str x)
  | lst {d n : Nat} {xs : List PyData} (h : SmAll d n xs) : Sm (d + 1) n (.list xs)
  | tup {d n : Nat} {xs : List PyData} (h : SmAll d n xs) : Sm (d + 1) n (.tuple xs)
inductive SmAll : Nat → Nat → List PyData → Prop
  | nil {d : Nat} : SmAll d 0 []
  | cons {d n m : Nat} {x : PyData} {xs : List PyData} (h : Sm d n x) (r : SmAll d m xs) : SmAll d (n + 1 + m) (x :: xs)
end
structure SmOk (d n : Nat) (x : PyData) : Prop where
  lay : x.canLay0 = true
  dep : x.depth ≤ d
  wgt : x.weight ≤ n
  few : x.intsShort 13 = true
  shw : x.showable = true
structure SmOkAll (d n : Nat) (x : List PyData) : Prop where
  lay : PyData.canLayAll0 x = true
  dep : PyData.depthAll x ≤ d
  wgt : PyData.weightAll x ≤ n
  few : PyData.intsShortAll 13 x = true
  shw : PyData.showableAll x = true
mutual
theorem Sm.ok {d n : Nat} {x : PyData} : Sm d n x → SmOk d n x
  | .non => ⟨rfl, Nat.zero_le _, Nat.zero_le _, rfl, rfl⟩
  | .bl b => ⟨rfl, Nat.zero_le _, Nat.zero_le _, rfl, rfl⟩
  | .int (i := i) h h' => by
    have l40 : i.natAbs < 2 ^ 40 := by
      have : i.natAbs ≤ 999999999999 := by omega
      exact Nat.lt_of_le_of_lt this (by decide)
    have lg : i ≠ 0 → i.natAbs.log2 < 40 := fun h0 => (Nat.log2_lt (by omega)).mpr l40
    refine ⟨rfl, Nat.zero_le _, ?_, decide_eq_true (PyData.shown_int_le2 h h'), ?_⟩
    · show (if i == 0 then 0 else i.natAbs.log2 + 1) ≤ 40
      by_cases h0 : i = 0
      · subst h0
        decide
      · rw [if_neg (by simpa using h0)]
        exact lg h0
    · show decide (i.natAbs.log2 < 1920) = true
      by_cases h0 : i = 0
      · subst h0
        decide
      · exact decide_eq_true (Nat.lt_trans (lg h0) (by decide))
  | .str h => ⟨h, Nat.zero_le _, Nat.le_refl _, rfl, rfl⟩
  | .lst h => by
    have o := h.ok
    refine ⟨by simpa only [PyData.canLay0] using o.lay, ?_, by simpa only [PyData.weight] using o.wgt, by simpa only [PyData.intsShort] using o.few, by simpa only [PyData.showable] using o.shw⟩
    simp only [PyData.depth]
    have := o.dep
    omega
  | .tup h => by
    have o := h.ok
    refine ⟨by simpa only [PyData.canLay0] using o.lay, ?_, by simpa only [PyData.weight] using o.wgt, by simpa only [PyData.intsShort] using o.few, by simpa only [PyData.showable] using o.shw⟩
    simp only [PyData.depth]
    have := o.dep
    omega
theorem SmAll.ok {d n : Nat} {x : List PyData} : SmAll d n x → SmOkAll d n x
  | .nil => ⟨rfl, Nat.zero_le _, Nat.zero_le _, rfl, rfl⟩
  | .cons h r => by
    have a := h.ok
    have b := r.ok
    have a2 := a.dep
    have b2 := b.dep
    have a3 := a.wgt
    have b3 := b.wgt
    refine ⟨by simp only [PyData.canLayAll0, a.lay, b.lay, Bool.and_self], ?_, ?_, by simp only [PyData.intsShortAll, a.few, b.few, Bool.and_self], by simp only [PyData.showableAll, a.shw, b.shw, Bool.and_self]⟩
    · simp only [PyData.depthAll]
      omega
    · simp only [PyData.weightAll]
      omega
end
def rReprS (K : PySem.W.Frag) : List V → Hp → VK → Prop := fun vs H Q => ∃ (x : V) (d : PyData) (dp n : Nat), vs = [x] ∧ Dp K H x d ∧ Sm dp n d ∧ dp ≤ 20 ∧ n ≤ 2 ^ 20 ∧ Q (.str d.shown) H
theorem reprS {X : Cx} {K : PySem.W.Frag} (h : X.K = K) (still : Still X.A) (hu : X.A.units + 64 < cLine) : CallR X (.builtin "repr") (rReprS K) := by
  subst h
  rintro pins s σ H vs us Q I rel ⟨x, d, dp, n, rfl, hd, sm, h1, h2, q⟩
  have o := sm.ok
  have o2 := o.dep
  have lay : PyData.layable0 d = true := by
    unfold PyData.layable0
    rw [o.lay, decide_eq_true (show d.depth ≤ 64 by omega), decide_eq_true (Nat.le_trans o.wgt h2)]
    rfl
  refine call_reprD still hu pins s σ H [x] us Q I rel ⟨x, d, rfl, hd, o.shw, PyData.hasDict_of_layable lay, by omega, Nat.le_trans (shown_le13 lay o.few) (by decide), q⟩
/-- lists of ints -/
theorem smAll_ints {d : Nat} : ∀ ns : List Int, (∀ i ∈ ns, -999999999999 ≤ i ∧ i ≤ 999999999999) → SmAll d (41 * ns.length) (ns.map PyData.int)
  | [], _ => .nil
  | i :: ns, h => by
    have a := smAll_ints (d := d) ns fun j hj => h j (List.mem_cons_of_mem _ hj)
    obtain ⟨b1, b2⟩ := h i (by simp)
    have := SmAll.cons (d := d) (.int b1 b2) a
    rw [List.length_cons, show 41 * (ns.length + 1) = 40 + 1 + 41 * ns.length by omega]
    exact this
theorem dpAll_ints {K : PySem.W.Frag} {H : Hp} : ∀ ns : List Int, DpAll K H (ns.map V.int) (ns.map PyData.int)
  | [] => .nil
  | i :: ns => .cons (.int i) (dpAll_ints ns)
end Gd
/-! sorted of a tuple of ints -/
namespace Gd
open PySem PySem.Spec PyProof.Rows PySem.Builtin
section
variable {prog : Program} {w : World} {A : Around} {E : Value → Shared → Prop} {s : Shared}
theorem collect_tup {l : Addr} {vs : List Value} {Q : List Value → Shared → Prop} (hl : IsTup s.heap l vs.toArray)
    (h : Q vs { s with heap := (s.heap.push (seqObj "list" #[] 0)).update s.heap.objs.size (Obj.mapSeq (· ++ vs.toArray)) }) (hsz : vs.length ≤ sizeLine) :
    wpAny (model prog w) A (collect (.ref l)) Q E s := by
  obtain ⟨o, ho, hc, n, hd⟩ := id hl
  unfold collect
  refine wpAny_bind (wpAny_runValue (codeAny_builtin entry_proto_collect' ?_))
  show wpAny _ _ (do again (.builtin "list.__iadd__" ⟨[← newList [], .ref l], []⟩)) _ _ s
  refine wpAny_bind (wpAny_newList (wpAny_pure ⟨Code.quiet_builtin _ (by decide +kernel), codeAny_builtin entry_list_iadd' ?_⟩))
  show wpAny _ _ (Builtin.List.listExtendWith (.ref s.heap.objs.size) (.ref l) (.ref s.heap.objs.size)) _ _ { s with heap := s.heap.push (seqObj "list" #[] 0) }
  unfold Builtin.List.listExtendWith
  have ho' : (s.heap.push (seqObj "list" #[] 0)).get? l = some o := Heap.get?_push_of_some _ ho
  refine wpAny_bind (wpAny_typeOf (T := "tuple") ⟨o, ho', hc⟩ ?_)
  rw [if_pos (by rw [show (Value.type "tuple" == Value.type "tuple") = true from rfl]; simp)]
  refine wpAny_bind (listItems_at ho' hd ?_)
  refine wpAny_bind (listItems_at (xs := #[]) (n := 0) (Heap.get?_push_size _ rfl) rfl ?_)
  rw [if_neg (by simp)]
  refine wpAny_bind (listUpdate_at (xs := #[]) (n := 0) (Heap.get?_push_size _ rfl) rfl ?_ (Nat.zero_le _) (by show (#[] ++ vs.toArray).size ≤ sizeLine + 1; simp only [Array.size_append, List.size_toArray, List.length_nil]; omega))
  refine wpAny_pure ?_
  show wpAny (model prog w) A (do
      let o ← load s.heap.objs.size
      match o.data with
      | .seq xs _ => pure xs.toList
      | _ => unsupported "internal:collect") Q E { s with heap := (s.heap.push (seqObj "list" #[] 0)).update s.heap.objs.size (Obj.mapSeq (· ++ vs.toArray)) }
  refine wpAny_bind (wpAny_load (get?_update_seq (Heap.get?_push_size _ rfl) _) ?_)
  show wpAny _ _ (pure ((#[] : Array Value) ++ vs.toArray).toList) Q E _
  rw [show ((#[] : Array Value) ++ vs.toArray).toList = vs by simp]
  exact wpAny_pure h
theorem sorted_tup {l : Addr} {vs : List Value} {ns : List Int} {Q : Value → Shared → Prop} (hl : IsTup s.heap l vs.toArray) (hI : IntsAre vs ns) (hL : vs.length ≤ sizeLine)
    (h : ∀ (out : Array Value) (ns' : List Int), IntsAre out.toList ns' → ns'.Perm ns → ns'.Pairwise (· ≤ ·) → Q (.ref (s.heap.objs.size + 1)) { s with heap := sortedAll s.heap vs out }) :
    wpAny (model prog w) A (call (.builtin "sorted") [.ref l]) Q E s := by
  refine Calls.call_function_entry kind_sorted plain_sorted entry_sorted (args_sorted1 _) ?_
  unfold Builtin.«sorted»
  refine wpAny_bind (m := checkCount "sorted" 1 1 _) (wpAny_pure ?_)
  refine wpAny_bind (collect_tup hl ?_ hL)
  refine wpAny_bind (wpAny_newList ?_ hL)
  have hsz : ((s.heap.push (seqObj "list" #[] 0)).update s.heap.objs.size (Obj.mapSeq (· ++ vs.toArray))).objs.size = s.heap.objs.size + 1 := by
    rw [Heap.size_update, size_push']
  have hoL : (((s.heap.push (seqObj "list" #[] 0)).update s.heap.objs.size (Obj.mapSeq (· ++ vs.toArray))).push (seqObj "list" vs.toArray 0)).get? (s.heap.objs.size + 1) = some (seqObj "list" vs.toArray 0) := by
    rw [← hsz]; exact Heap.get?_push_size _ rfl
  show wpAny _ _ _ _ _ { s with heap := ((s.heap.push (seqObj "list" #[] 0)).update s.heap.objs.size (Obj.mapSeq (· ++ vs.toArray))).push (seqObj "list" vs.toArray 0) }
  rw [hsz]
  refine wpAny_bind (wpAny_holding (wpAny_call_entry slot_list_sort ⟨_, hoL, rfl⟩ entry_list_sort (list_sort_treeAny hoL hI hL fun out ns' a1 a2 a3 => ⟨_, rfl, ?_⟩) (args_list_sort _)))
  exact wpAny_pure ⟨_, rfl, h out ns' a1 a2 a3⟩
end
open L2
/-- sorted(xs), a list or tuple of ints -/
def rSrt (K : PySem.W.Frag) : List V → Hp → VK → Prop := fun vs H Q => ∃ (a : Addr) (ns : List Int), vs = [V.ref a] ∧ (SqL K H a (ns.map V.int) ∨ SqT K H a (ns.map V.int)) ∧
  ∀ (ns' : List Int) (p : Addr), ns'.Perm ns → ns'.Pairwise (· ≤ ·) → H p = none → Q (.ref p) (upd H p (.lst (ns'.map V.int)))
theorem srtK {X : Cx} {K : PySem.W.Frag} (hK : X.K = K) : CallR X (.builtin "sorted") (rSrt K) := by
  subst hK
  intro pins s σ H vs us Q I r h
  obtain ⟨a, ns, rfl, hs | hs, q⟩ := h
  · exact cr_sortedI pins s σ H _ us Q I r ⟨a, ns, rfl, hs, q⟩
  · obtain ⟨its, rv, hl, hz⟩ := I.tuple hs
    rw [Vals.ref1 r]
    have hi := rv.ints
    refine sorted_tup hl hi (by rw [← rv.length]; exact hz) fun out ns' k1 k2 k3 => ?_
    obtain ⟨ep, he'⟩ := PyProof.Rows.sortedAll_at s.heap its out
    have hlen : (ns'.map V.int).length ≤ sizeLine := by
      rw [List.length_map, k2.length_eq]
      rw [List.length_map] at hz
      exact hz
    exact ⟨.ref _, upd H (s.heap.objs.size + 1) (.lst (ns'.map V.int)), I.laid (t' := s.toks) (fun _ _ => PyProof.Rows.sortedAll_old) (Nat.le_succ _) ⟨hlen, out.toList, ep, vals_of_ints k1, he'⟩, rfl, q _ _ k2 k3 (I.hok.fresh (Nat.le_succ _))⟩
theorem isiK {X : Cx} {K : PySem.W.Frag} (hK : X.K = K) : CallR X (.builtin "isinstance") (rIsi K) := hK ▸ call_isi
/-- sum of a list or a tuple of ints -/
def rSum2 (K : PySem.W.Frag) : List V → Hp → VK → Prop := fun vs H Q => ∃ (a : Addr) (ns : List Int), vs = [V.ref a] ∧ (SqL K H a (ns.map V.int) ∨ SqT K H a (ns.map V.int)) ∧ Q (.int ns.sum) H
theorem sum2K {X : Cx} {K : PySem.W.Frag} (hK : X.K = K) (hc : X.calm = true) : CallR X (.builtin "sum") (rSum2 K) := by
  subst hK
  intro pins s σ H vs us Q I r h
  obtain ⟨a, ns, rfl, hs | hs, q⟩ := h
  · exact cr_sum hc pins s σ H _ us Q I r ⟨a, ns, rfl, hs, q⟩
  · obtain ⟨its, rv, hl, _⟩ := I.tuple hs
    rw [Vals.ref1 r]
    have hi := rv.ints
    obtain ⟨xs, e⟩ := hi.allInts.items
    have hn : numsOf (intItems xs).toList = ns := by rw [← e]; exact hi.numsOf
    rw [nums_intItems] at hn
    have hl : s.heap.IsTuple a its.toArray := hl
    rw [e] at hl
    refine PySem.W.ktm_sumG (I.ok.hd hc) hl fun h' tk t' hk => ?_
    rw [preSum_eq, List.take_of_length_le (by simp), hn]
    exact ⟨.int _, H, I.kept hk, ⟨_, rfl⟩, q⟩
theorem inDK {X : Cx} {K : PySem.W.Frag} (hK : X.K = K) (hu : X.A.units + 65 < cLine) : OpR X (compareOp .In) (rInD K) := hK ▸ op_inD hu
theorem ninDK {X : Cx} {K : PySem.W.Frag} (hK : X.K = K) (hu : X.A.units + 65 < cLine) : OpR X (compareOp .NotIn) (rNotInD K) := hK ▸ op_notInD hu
theorem units65 {k : Nat} {A : Around} (r : Room k A) : A.units + 65 < cLine := by have := r.un; omega
theorem repTK {X : Cx} {K : PySem.W.Frag} (hK : X.K = K) : OpR X (binaryOp .Mult) (rRepT K) := hK ▸ op_repT
end Gd
/-! the place of an int in a tuple; a tuple taken once -/
namespace Gd
open PySem PySem.Spec PyProof.Rows L2
theorem flat_ints (ys : List Int) : (ys.map V.int).all flatV = true := by
  rw [List.all_map]
  exact List.all_eq_true.mpr fun _ _ => rfl
def rIndexI (K : PySem.W.Frag) : V → List V → Hp → VK → Prop := fun x xs H Q => ∃ p, ∃ ys : List Int, ∃ z j, x = .ref p ∧ xs = [.int z] ∧ SqT K H p (ys.map V.int) ∧ ys[j]? = some z ∧ (∀ m, m < j → ys[m]? ≠ some z) ∧ Q (.int (j : Nat)) H
section
variable {X : Cx}
theorem mt_indexIK {K : PySem.W.Frag} (hK : X.K = K) : MtR X "tuple.index" (rIndexI K) := by
  subst hK
  intro pins s σ H x xs v us Q I rx rs h
  obtain ⟨p, ys, z, j, rfl, rfl, hq, hy, hno, q⟩ := h
  cases rx
  obtain ⟨u, rfl, t, rfl⟩ := vals1 rs
  obtain ⟨its, r, pl, hz⟩ := I.tuple hq
  obtain ⟨⟨cls, dd, dt, sl⟩, ho, hc, n, hd⟩ := pl
  simp only at hc hd
  subst hc
  subst hd
  have hl : its.toArray.size = ys.length := by rw [List.size_toArray, ← r.length, List.length_map]
  have hj : j < its.toArray.size := by rw [hl]; exact (List.getElem?_eq_some_iff.mp hy).1
  have at' : ∀ (m : Nat) (hm : m < its.toArray.size), ∃ y t', ys[m]? = some y ∧ its.toArray[m] = Value.int y t' := fun m hm => by
    have hm' : m < ys.length := by rw [← hl]; exact hm
    obtain ⟨w, hw, t', hw'⟩ := r.get (i := m) (x := .int ys[m]) (by simp [hm'])
    refine ⟨ys[m], t', List.getElem?_eq_getElem hm', ?_⟩
    have e := (List.getElem?_eq_some_iff.mp hw).2
    rw [← hw', ← e]
    simp
  refine call_meets PySem.F.slot_tuple_index ⟨_, ho, rfl⟩ PySem.F.entry_tuple_index (PySem.F.args_tuple_index_2 _ _) (TI.tuple_indexAt p its.toArray n dd sl (.int z t) (eqU (.int z)) j hj ?_ ?_)
    ⟨ho, fun w hw => mem_eqAt (x := .int z) ⟨t, rfl⟩ rfl r (flat_ints ys) w (by simpa using hw), ⟨.int (j : Nat), H, I.tok _, ⟨_, rfl⟩, q⟩⟩
  · obtain ⟨y, t', h1, h2⟩ := at' j hj
    rw [hy] at h1
    cases h1
    rw [h2]
    show (z == z) = true
    exact beq_self_eq_true z
  · intro m hm hmj
    obtain ⟨y, t', h1, h2⟩ := at' m hm
    rw [h2]
    show (y == z) = false
    exact beq_eq_false_iff_ne.mpr fun e => hno m hmj (e ▸ h1)
end
theorem tuple_mul1 (l : Addr) (items : Array Value) (n : Nat) (dd : Option Addr) (sl : Array (Option Value)) (u : Tok) :
    Meets (Builtin.«tuple.__mul__» ⟨[.ref l, .int 1 u], []⟩) (fun _ R s => s.heap.get? l = some { cls := .type "tuple", dict := dd, data := .seq items n, slots := sl } ∧ R (.ok (.ret (Value.ref l))) s) :=
  .of_wp fun prog w A R s h => by
    obtain ⟨hp, g, d, tk, os⟩ := s
    obtain ⟨hl, h⟩ := h
    have f1 := AutoSeq1.idx_int
    have c1 : (items.isEmpty || (1 : Int) == 1) = true := by simp
    wp_walk using wpAny_loadPart' hl
    exact ⟨_, rfl, h⟩
/-- a tuple taken k times, k from 1 on -/
def rRep2 (K : PySem.W.Frag) : R2 := fun x y H Q => ∃ l k xs, x = .ref l ∧ y = .int k ∧ SqT K H l xs ∧ xs ≠ [] ∧ 1 ≤ k ∧ k ≤ 1000 ∧ xs.length ≤ 1000 ∧ (k = 1 → Q (.ref l) H) ∧ (2 ≤ k → ∀ p, H p = none → Q (.ref p) (upd H p (.tup (List.replicate k.toNat xs).flatten)))
theorem rep2K {X : Cx} {K : PySem.W.Frag} (hK : X.K = K) : OpR X (binaryOp .Mult) (rRep2 K) := by
  subst hK
  intro pins s σ H x y v u Q I rx ry h
  obtain ⟨l, k, xs, rfl, rfl, hT, hne, h1, h2, hz, q1, q2⟩ := h
  by_cases hk : 2 ≤ k
  · exact op_repT pins s σ H _ _ v u Q I rx ry ⟨l, k, xs, rfl, rfl, hT, hne, hk, h2, hz, q2 hk⟩
  obtain rfl : k = 1 := by omega
  cases rx
  obtain ⟨t, rfl⟩ := ry
  obtain ⟨its, r, ⟨⟨cls, dd, data, sl⟩, ho, hc, n, hd⟩, hs⟩ := I.tuple hT
  simp only at hc hd
  subst hc hd
  exact wpAny_binaryOp_repeat_ref (T := "tuple") (U := "int") (by decide) ⟨_, ho, rfl⟩ (fun s' => typeIs_int s' 1 t) noFill_tuple_mul F.fills_int_mul F.slot_int_rmul repeat_tuple F.slot_int_index.lookup
    (call_meets F.slot_int_rmul (typeIs_int s 1 t) F.entry_int_rmul (F.args_int_rmul_2 _ _) (int_rmul_tuple 1 t l its.toArray n dd sl)
      ⟨ho, rfl, ⟨_, ho, rfl⟩, call_meets F.slot_tuple_mul ⟨_, ho, rfl⟩ F.entry_tuple_mul (F.args_tuple_mul_2 _ _) (tuple_mul1 l its.toArray n dd sl t) ⟨ho, .ref l, H, I, rfl, q1 rfl⟩⟩)
end Gd
namespace Gd
open PySem PySem.Spec PyProof.Rows L2
/-- o[i] of a list, by values -/
theorem getLK {X : Cx} {K : PySem.W.Frag} (hK : X.K = K) : PGet X (rIxL K) := by
  subst hK
  intro pins s σ H x y v u Q I rx ry h
  obtain ⟨p, xs, i, z, rfl, rfl, hq, he, q⟩ := h
  cases rx
  obtain ⟨t, rfl⟩ := ry
  obtain ⟨its, r, pl, hz⟩ := I.list hq
  obtain ⟨j, h1, h2, h3, h4, h5⟩ := atI_get he
  obtain ⟨w, ew, rw'⟩ := r.get h2
  have hl := r.length
  have hn := line63
  have fin : EP X pins σ Q w s := ⟨z, H, I, rw', q⟩
  by_cases h0 : 0 ≤ i
  · have hj : i.toNat = j := by
      rw [seqIndex_of h0 h5] at h1
      exact Option.some.inj h1
    exact wpAny_getItem_list pl.isList h0 (by omega) (by rw [hj]; simpa using ew) fin
  · have hj : (i + (its.toArray.size : Int)).toNat = j := by
      rw [seqIndex_neg (by omega) h4] at h1
      rw [List.size_toArray, ← hl]
      exact Option.some.inj h1
    exact wpAny_getItem_list_neg pl.isList (by omega) (by rw [List.size_toArray] <;> omega) (by omega) (by rw [hj]; simpa using ew) fin
end Gd
namespace Gd
open PySem PySem.Spec PyProof.Rows L2
theorem pe_bmK {X : Cx} {K : PySem.W.Frag} {T id : String} {name : Str} {r : V → List V → Hp → VK → Prop} {o e : Expr} {es : List Expr} {to : TE} {t : TA} {apos cpos : Pos} (hK : X.K = K) (pa : PlainAttrs T) (slot : Slot T name id) (hty : typeOf (.builtin id) = pure (.type "method_descriptor")) (hm : MtR X id r) (ho : PE X o to) (ha : PA X (e :: es) t)
    (hbase : attributeBase o name X.env (eval o X.env) = eval o X.env := by rfl)
    (hfew : ((backTo cpos (starEach (e :: es) X.env)).all (fun x => !x.1) && (backToKw cpos (keywordEach [] X.env)).all (fun x => x.1.isSome)
      && decide ((e :: es).length + ([] : List Keyword).length + (if ([] : List Keyword).isEmpty then 0 else 1) < 30)) = true := by rfl)
    (hline : (apos.endLine == cpos.line) = true := by rfl) (hs : starEach (e :: es) X.env = (false, eval e X.env) :: starEach es X.env := by rfl) (hplain : (backTo cpos (starEach es X.env)).any (·.1) = false := by rfl) :
    PE X (.Call (.Attribute o name apos) (e :: es) [] cpos) (tBM K T r to t) := hK ▸ pe_bm pa slot hty hm ho ha hbase hfew hline hs hplain
end Gd
namespace Gd
open PySem PySem.Spec PyProof.Rows L2
/-- tuple(xs) of a list: the new tuple's very object is told -/
def rTupF (K : PySem.W.Frag) : List V → Hp → VK → Prop := fun xs H Q => ∃ p ys, xs = [.ref p] ∧ SqL K H p ys ∧ ∀ (l : Addr) (ob : Obj), ob.cls = .type "tuple" → ob.dict = none → H l = none → Q (.ref l) (upd H l (.frz ob (.tup ys)))
theorem tupFK {X : Cx} {K : PySem.W.Frag} (hK : X.K = K) : CallR X (.type "tuple") (rTupF K) := by
  subst hK
  intro pins s σ H xs us Q I r h
  obtain ⟨p, ys, rfl, hq, q⟩ := h
  obtain ⟨u, rfl, rx⟩ := vals1 r
  cases rx
  obtain ⟨its, r', pl, hz⟩ := I.list hq
  have hlen := r'.length
  refine call_tuple_list pl.isList (fun h' kp => ?_) (by simp only [List.size_toArray] <;> omega)
  have I1 : Inv X pins σ H { s with heap := h' } := I.kept (t' := s.toks) kp
  have I2 : Inv X pins σ (upd H h'.objs.size (.frz { cls := .type "tuple", data := .seq its.toArray } (.tup ys))) { s with heap := h'.push { cls := .type "tuple", data := .seq its.toArray } } :=
    I1.laid (t' := s.toks) (fun b o e => Heap.get?_push_of_some _ e) (Nat.le_refl _) (show ObjOk X.prog X.w _ _ _ (.frz { cls := .type "tuple", data := .seq its.toArray } (.tup ys)) from ⟨Heap.get?_push_size _ rfl, hz, its, r', IsTup.new _ _⟩)
  exact ⟨.ref h'.objs.size, _, I2, rfl, q _ _ rfl rfl (I1.hok.fresh (Nat.le_refl _))⟩
def tTidx (K : PySem.W.Frag) (to : TE) (t : TA) : TE := fun σ H Q => to σ H fun x H1 => (∃ (p : Addr) (o : Obj) (ys : List V), x = .ref p ∧ H1 p = some (.frz o (.tup ys)) ∧ o.cls = .type "tuple" ∧ o.dict = none) ∧ t σ H1 fun xs H2 => rIndexI K x xs H2 Q
theorem pe_tidx {X : Cx} {K : PySem.W.Frag} {o e : Expr} {es : List Expr} {to : TE} {t : TA} {apos cpos : Pos} (hK : X.K = K) (ho : PE X o to) (ha : PA X (e :: es) t)
    (hbase : attributeBase o "index" X.env (eval o X.env) = eval o X.env := by rfl)
    (hfew : ((backTo cpos (starEach (e :: es) X.env)).all (fun x => !x.1) && (backToKw cpos (keywordEach [] X.env)).all (fun x => x.1.isSome)
      && decide ((e :: es).length + ([] : List Keyword).length + (if ([] : List Keyword).isEmpty then 0 else 1) < 30)) = true := by rfl)
    (hline : (apos.endLine == cpos.line) = true := by rfl) (hs : starEach (e :: es) X.env = (false, eval e X.env) :: starEach es X.env := by rfl) (hplain : (backTo cpos (starEach es X.env)).any (·.1) = false := by rfl) :
    PE X (.Call (.Attribute o "index" apos) (e :: es) [] cpos) (tTidx K to t) := by
  refine ⟨fun pins s σ H Q I h => ?_⟩
  refine wpAny_Call_method_late hbase hfew hline rfl (thn (ho.run pins s σ H _ I h) fun v s1 ⟨x, H1, I1, r1, ty, q1⟩ => ?_)
  obtain ⟨p, ob, ys, rfl, hp, hc, hd⟩ := ty
  cases r1
  have ho := (show ObjOk X.prog X.w H1 s1.heap p (.frz ob (.tup ys)) from I1.hok p _ hp).1
  refine ⟨"tuple", "tuple.index", PySem.F.plainAttrs_tuple, PySem.F.slot_tuple_index, PySem.F.type_tuple_index, ⟨ob, ho, hc⟩, fun a ea => ⟨ob, by cases ea; exact ho, hd⟩, ?_⟩
  have hA := ha.run cpos pins s1 σ H1 _ I1 q1
  rw [hs] at hA ⊢
  refine Calls.callWith_builtin (by show (false || (backTo cpos (starEach es X.env)).any (·.1)) = false; rw [hplain] <;> rfl) (Calls.evalArgs_plain ?_)
  exact thn hA fun us s2 ⟨vs, H2, I2, r2, q2⟩ => mt_indexIK hK pins s2 σ H2 (.ref p) vs _ us Q I2 rfl r2 q2
end Gd
/-! enumerate of a tuple -/
namespace Gd
open PySem PySem.Spec PyProof.Rows L2
section
variable {prog : Program} {w : World} {A : Around} {E : Value → Shared → Prop} {s : Shared}
theorem meets_enumerate_new1 {v : Value} {o : Obj} {H : Heap → Prop} (B : Begins v o H) :
    Meets (Builtin.«enumerate.__new__» ⟨[.type "enumerate", v], []⟩) (fun _ R s => H s.heap ∧
      R (.ok (.ret (.ref (s.heap.push o).objs.size))) { s with heap := (s.heap.push o).push { cls := .type "enumerate", data := .fields #[.none, .bool false, .ref s.heap.objs.size, rawInt 0, .none, .none] } }) :=
  .of_wp fun prog w A R s h => by
    obtain ⟨hp, g, d, tk, os⟩ := s; obtain ⟨h1, h⟩ := h
    have hsub := sub_enumerate
    have q1 : ∀ {A' : Around} {E : Value → Shared → Prop} {Q : Value → Shared → Prop}, Q (.ref hp.objs.size) ⟨hp.push o, g, d, tk, os⟩ → wpAny (model prog w) A' (pyIter v) Q E ⟨hp, g, d, tk, os⟩ :=
      fun q => B.iter prog w _ _ ⟨hp, g, d, tk, os⟩ _ h1 q
    wp_walk using q1
    refine wpAny_stack_any fun st => wpAny_pure ?_
    split
    · rename_i c _ _ _ _ _
      cases (c == Value.type "enumerate")
      · wp_walk using q1
        exact ⟨_, rfl, h⟩
      · wp_walk using q1
        exact ⟨_, rfl, h⟩
    · wp_walk using q1
      exact ⟨_, rfl, h⟩
theorem enum_begins1 {v : Value} {o : Obj} {H : Heap → Prop} {Q : Value → Shared → Prop} (B : Begins v o H) (h1 : H s.heap)
    (h : ∀ h', IsEnum h' (s.heap.objs.size + 1) s.heap.objs.size 0 .none → h'.get? s.heap.objs.size = some o → h'.objs.size = s.heap.objs.size + 2 →
      (∀ b o, s.heap.get? b = some o → h'.get? b = some o) → Q (.ref (s.heap.objs.size + 1)) { s with heap := h' }) :
    wpAny (model prog w) A (call (.type "enumerate") [v]) Q E s := by
  refine callType_new F.called_enumerate (by decide) (F.typeCall_enumerate_1 _) (F.newCall_enumerate_1 _) (fun obj => F.args_object_init_2 obj _) F.entry_enumerate_new
    (meets_enumerate_new1 B) ⟨h1, ?_⟩
  have hz : (s.heap.push o).objs.size = s.heap.objs.size + 1 := Heap.size_push ..
  show _ ∧ _
  rw [hz]
  have he : IsEnum ((s.heap.push o).push { cls := .type "enumerate", data := .fields #[.none, .bool false, .ref s.heap.objs.size, rawInt 0, .none, .none] }) (s.heap.objs.size + 1) s.heap.objs.size 0 .none := by
    have := Heap.get?_push_size (s.heap.push o) (o := { cls := .type "enumerate", data := .fields #[.none, .bool false, .ref s.heap.objs.size, rawInt 0, .none, .none] }) rfl
    rw [hz] at this; exact this
  refine ⟨⟨_, he, rfl⟩, h _ he (Heap.get?_push_of_some _ (Heap.get?_push_size _ B.free)) (by rw [Heap.size_push, hz]) fun b o x => Heap.get?_push_of_some _ (Heap.get?_push_of_some _ x)⟩
end
/-- the tuple at a, each item in a new pair -/
def IteT (K : PySem.W.Frag) (a : Addr) : It :=
  ⟨fun i H => ∃ (xs : List V) (x : V), SqT K H a xs ∧ xs[i]? = some x, fun i H v H' => ∃ T x, v = .ref T ∧ H T = none ∧ H' = upd H T (.tup [.int (i : Nat), x]) ∧ ∀ xs, SqT K H a xs → xs[i]? = some x, fun i H => ∃ xs : List V, SqT K H a xs ∧ xs.length = i⟩
theorem turn_enumT {P : Program} {w : World} {K : PySem.W.Frag} {elts : List Expr} {kk : Nat} {tpos : Pos} (a e it : Addr) :
    Turn P w K (.Tuple elts kk tpos) (IteT K a) [e, it] e (fun i h => (∃ old, IsEnum h e it ((i : Nat) : Int) old) ∧ h.IsTupleIter it a i ∧ e ≠ it) where
  mem := by simp
  obj := fun i h st b hb => by
    obtain ⟨⟨old, he⟩, ⟨o, ho, hc, hd⟩, _⟩ := st
    have e' : b = e ∨ b = it := by simpa using hb
    rcases e' with z | z
    · rw [z]; exact ⟨_, he, fun v q => nomatch q⟩
    · rw [z]; exact ⟨o, ho, fun v q => by rw [hd] at q; cases q⟩
  keep := fun i h h' st k => let ⟨⟨old, he⟩, hi, hne⟩ := st; ⟨⟨old, k e (by simp) _ he⟩, hi.at fun o q => k it (by simp) o q, hne⟩
  item := by
    intro X hP hw hK hc i pins s σ H E I hf st hg
    subst hP hw hK
    obtain ⟨⟨old, he⟩, hit, hne⟩ := st
    obtain ⟨xs, x, hq, hx⟩ := hg
    obtain ⟨its, rv, p, hz⟩ := I.tuple hq
    obtain ⟨u, hu, ru⟩ := rv.get hx
    have hel : e < s.heap.objs.size := Heap.lt_size he
    have hil : it < s.heap.objs.size := by obtain ⟨_, q, _⟩ := hit; exact Heap.lt_size q
    have hai : a ≠ it := fun z => by
      obtain ⟨o, ho, hc1, _⟩ := hit
      obtain ⟨o2, ho2, hc2, _⟩ := p
      rw [z, ho] at ho2
      cases ho2
      rw [hc1] at hc2
      exact absurd (Value.type.inj hc2) (by decide)
    have hea : e ≠ a := fun z => by
      obtain ⟨o2, ho2, hc2, _⟩ := p
      rw [← z] at ho2
      have h3 : some _ = some o2 := he.symm.trans ho2
      cases h3
      exact absurd (Value.type.inj hc2) (by decide)
    have hil2 : i < its.toArray.size := by rw [List.size_toArray]; exact (List.getElem?_eq_some_iff.mp hu).1
    refine wpAny_pyNext_enum_itemC (Draws.tuple (A := X.A.in1) (I.ok.hd hc) it a hai its.toArray) he ⟨hit, p⟩ hil2 hne (by simp [hne, hea]) fun x' h' tk hPx ho hit' hT hsz hk => ?_
    have hxu : x' = u := by
      have h1 : its[i]? = some x' := by simpa using hPx
      exact Option.some.inj (h1.symm.trans hu)
    subst hxu
    refine ⟨_, rfl, wpAny_letOwnedTupleGo_enum (s := { s with heap := h', toks := tk + 1 }) ho fun h'' he' sb => ?_⟩
    have hT2 : h''.get? s.heap.objs.size = some { cls := .type "tuple", data := .seq #[.int i tk, x'] } := (sb.2 _ (Nat.ne_of_gt hel)).trans hT
    have new : ObjOk X.prog X.w (upd H s.heap.objs.size (.tup [.int (i : Nat), x])) h'' s.heap.objs.size (.tup [.int (i : Nat), x]) :=
      ⟨by show 2 ≤ sizeLine; decide, [.int i tk, x'], .cons ⟨_, rfl⟩ (.cons ru .nil), ⟨_, hT2, rfl, _, rfl⟩⟩
    have I1 : Inv X pins σ (upd H s.heap.objs.size (.tup [.int (i : Nat), x])) { s with heap := h'', toks := tk + 1 } :=
      I.turnedNew (ch := [e, it]) (fun b ob hb q => (sb.2 b (fun z => hb (by simp [z]))).trans (hk b ob (fun z => hb (by simp [z])) (fun z => hb (by simp [z])) q)) hf (Nat.le_refl _) new
    refine ⟨.ref s.heap.objs.size, _, I1, rfl, ⟨_, x, rfl, I.hok.fresh (Nat.le_refl _), rfl, fun ys hy => by rw [I.tuple_inj hy hq]; exact hx⟩, ⟨⟨x', ?_⟩, hit'.1.at fun o q => (sb.2 it (Ne.symm hne)).trans q, hne⟩, fun b hb => ?_⟩
    · have e1 : ((i + 1 : Nat) : Int) = (i : Int) + 1 := by omega
      rw [e1]; exact he'
    · have hb' : b < s.heap.objs.size := by
        have e' : b = e ∨ b = it := by simpa using hb
        rcases e' with z | z
        · rw [z]; exact hel
        · rw [z]; exact hil
      rw [upd_ne (Nat.ne_of_lt hb')]
      exact (hf b hb).1
  done := by
    intro X hP hw hK hc i pins s σ H E I hf st hg
    subst hP hw hK
    obtain ⟨⟨old, he⟩, hit, hne⟩ := st
    obtain ⟨xs, hq, hx⟩ := hg
    obtain ⟨its, rv, p, hz⟩ := I.tuple hq
    obtain ⟨f0, f1, f2, f3, f4, f5⟩ := hf it (by simp)
    have hl := rv.length
    have hai : a ≠ it := fun z => by
      obtain ⟨o, ho, hc1, _⟩ := hit
      obtain ⟨o2, ho2, hc2, _⟩ := p
      rw [z, ho] at ho2
      cases ho2
      rw [hc1] at hc2
      exact absurd (Value.type.inj hc2) (by decide)
    have hn : i = its.toArray.size := by rw [List.size_toArray]; omega
    exact wpAny_pyNext_enum_endD (Draws.tuple (A := X.A.in1) (I.ok.hd hc) it a hai its.toArray) he ⟨hn ▸ hit, p⟩ fun h' eb => ⟨rfl, I.turned (t' := s.toks) (fun b o hb q => eb b o hb q) f0 f1 f3 f4 f5⟩
  self := fun A i s Q E st h => let ⟨⟨_, he⟩, _⟩ := st; wpAny_pyIter_enum he h
def iEnumT (K : PySem.W.Frag) (ta : TA) : TI := fun σ H R => ta σ H fun vs H1 => ∃ a xs, vs = [.ref a] ∧ SqT K H1 a xs ∧ R (IteT K a) H1
theorem pi_enumT {X : Cx} {K : PySem.W.Frag} {e : Expr} {ta : TA} {p pos tpos : Pos} {elts : List Expr} {kk : Nat} (hK : X.K = K) (hg : Gl X "enumerate") (hm : X.mg "enumerate" = none) (ha : PA X [e] ta) (hs : starEach [e] X.env = [(false, eval e X.env)] := by rfl) :
    PI X (.Tuple elts kk tpos) (.Call (.Name "enumerate" p) [e] [] pos) (iEnumT K ta) := by
  subst hK
  refine ⟨fun pins s σ H R I h => ?_⟩
  refine Call_ (ld_blt I hg hm boot_enumerate (PyProof.Rows.callWith_type1 (thn (ha.run pos pins s σ H _ I h) fun us s1 ⟨vs, H1, I1, r1, q1⟩ => ?_) hs rfl))
  obtain ⟨a, xs, ex, hq, q⟩ := q1
  subst ex
  cases r1 with
  | cons r rr =>
    cases rr
    cases r
    obtain ⟨its, rv, p', hz⟩ := I1.tuple hq
    refine enum_begins1 (begins_tuple a its.toArray) p' fun h' he hit hsz hk => wpAny_pyIter_enum he ?_
    have I2 : Inv X pins σ H1 { s1 with heap := h' } := I1.kept (t' := s1.toks) hk
    refine ⟨s1.heap.objs.size + 1, [s1.heap.objs.size + 1, s1.heap.objs.size], _, _, H1, rfl, I2, turn_enumT a (s1.heap.objs.size + 1) s1.heap.objs.size, ⟨⟨.none, he⟩, ⟨_, hit, rfl, rfl⟩, Nat.succ_ne_self _⟩, fun b hb => ?_, q⟩
    have e' : b = s1.heap.objs.size + 1 ∨ b = s1.heap.objs.size := by simpa using hb
    have hle : s1.heap.objs.size ≤ b := by
      rcases e' with z | z
      · rw [z]; exact Nat.le_add_right _ _
      · rw [z]; exact Nat.le_refl _
    exact I1.fpOk hle (I1.hok.fresh hle)
theorem walk_enumT {K : PySem.W.Frag} {a : Addr} {xs : List V} : Walk (IteT K a) xs.length (fun H => SqT K H a xs) (YPair (fun i => some (.int (i : Nat))) (fun i => xs[i]?)) := by
  refine ⟨fun i _ hi q => ⟨xs, xs[i], q, by simp [hi]⟩, fun _ q => ⟨xs, q, rfl⟩, fun i H v H' _ q y => ?_⟩
  obtain ⟨T, x, h1, h2, h3, h4⟩ := y
  exact ⟨T, .int (i : Nat), x, h1, h2, h3, rfl, h4 xs q⟩
end Gd
/-! new tuples, their very objects known -/
namespace Ev
open PySem PySem.Spec PyProof.Rows L2 Gd
def Plain (ob : Obj) : Prop := ob.cls = .type "tuple" ∧ ob.dict = none
/-- a new tuple is told -/
def NewT (H : Hp) (xs : List V) (Q : VK) : Prop := ∀ (p : Addr) (ob : Obj), Plain ob → H p = none → Q (.ref p) (upd H p (.frz ob (.tup xs)))
section
variable {X : Cx} {pins : List (Addr × Obj)} {σ : L2.St} {H : Hp} {s : Shared}
theorem laidT {xs : List V} {its : List Value} {Q : VK} {h : Heap} {tk : Nat} (I : Inv X pins σ H { s with heap := h, toks := tk }) (r : Vals xs its) (hz : xs.length ≤ sizeLine) (q : NewT H xs Q) :
    EP X pins σ Q (.ref h.objs.size) { s with heap := h.push { cls := .type "tuple", data := .seq its.toArray }, toks := tk } := by
  have ob : Plain ({ cls := .type "tuple", data := .seq its.toArray } : Obj) := ⟨rfl, rfl⟩
  exact ⟨.ref h.objs.size, _, I.laid (t' := tk) (o := .frz { cls := .type "tuple", data := .seq its.toArray } (.tup xs)) (fun b ob q => Heap.get?_push_of_some _ q) (Nat.le_refl _) (show ObjOk X.prog X.w _ _ _ (.frz _ (.tup xs)) from ⟨Heap.get?_push_size _ rfl, hz, its, r, IsTup.new _ _⟩), rfl, q _ _ ob (I.hok.fresh (Nat.le_refl _))⟩
end
section
variable {X : Cx} {K : PySem.W.Frag} {es : List Expr} {t : TA} {pos : Pos}
def tTupX (t : TA) : TE := fun σ H Q => t σ H fun xs H1 => xs.length ≤ sizeLine ∧ NewT H1 xs Q
theorem pe_tupX {x1} (h : PA X es t) : PE X (.Tuple es x1 pos) (tTupX t) := by
  refine ⟨fun pins s σ H Q I hq => ?_⟩
  refine wpAny_Tuple_spliced (thn (h.run pos pins s σ H _ I hq) fun us s1 ⟨xs, H1, I1, r, z, q⟩ => ⟨by rw [← r.length]; exact z, ?_⟩)
  exact laidT (h := s1.heap) (tk := s1.toks) I1 r z q
def rCatX (K : PySem.W.Frag) : R2 := fun x y H Q => ∃ a b xs ys, x = .ref a ∧ y = .ref b ∧ SqT K H a xs ∧ SqT K H b ys ∧ xs.length + ys.length ≤ sizeLine ∧
  (xs = [] → Q (.ref b) H) ∧ (xs ≠ [] → ys = [] → Q (.ref a) H) ∧ (xs ≠ [] → ys ≠ [] → NewT H (xs ++ ys) Q)
theorem op_catX (hK : X.K = K) : OpR X (binaryOp .Add) (rCatX K) := by
  subst hK
  intro pins s σ H x y v u Q I rx ry h
  obtain ⟨a, b, xs, ys, rfl, rfl, ha, hb, hz, q0, q1, q2⟩ := h
  cases rx
  cases ry
  obtain ⟨its, r1, p1, _⟩ := I.tuple ha
  obtain ⟨its2, r2, p2, _⟩ := I.tuple hb
  by_cases hx : xs = []
  · subst hx
    cases r1
    exact cat_tup0 p1 p2 ⟨.ref b, H, I, rfl, q0 rfl⟩
  refine HT.cat_tup p1 p2 (fun z => hx (r1.nil_iff.mp z)) (fun z => ⟨.ref a, H, I, rfl, q1 hx (r2.nil_iff.mp z)⟩) (fun z => ?_) (by rw [← r1.length, ← r2.length]; exact hz)
  exact laidT (h := s.heap) (tk := s.toks) I (r1.append r2) (by rw [List.length_append]; exact hz) (q2 hx fun w => z (r2.nil_iff.mpr w))
def rSlX (K : PySem.W.Frag) : V → Option Int → Option Int → Hp → VK → Prop := fun x lo hi H Q => ∃ a xs, x = .ref a ∧ SqT K H a xs ∧
  (HT.sIx xs.length 0 lo = 0 ∧ HT.sIx xs.length xs.length hi = xs.length → Q (.ref a) H) ∧ (¬ (HT.sIx xs.length 0 lo = 0 ∧ HT.sIx xs.length xs.length hi = xs.length) → NewT H (cutV xs lo hi) Q)
theorem sl_tupX (hK : X.K = K) : SlR X (rSlX K) := by
  subst hK
  intro pins s σ H x v vl vu lo hi sl Q I rx hs pl pu h
  obtain ⟨a, xs, rfl, hx, q1, q2⟩ := h
  cases rx
  obtain ⟨its, r, ht, hz⟩ := I.tuple hx
  have hlen : its.toArray.size = xs.length := by rw [List.size_toArray]; exact r.length.symm
  refine ⟨"tuple", _, PyProof.Rows.slot_tuple_getitem.lookup, ht.typeIs, ?_⟩
  by_cases hw : HT.sIx xs.length 0 lo = 0 ∧ HT.sIx xs.length xs.length hi = xs.length
  · exact getItem_tuple_whole ht hs pl pu (by rw [hlen]; exact hw) ⟨.ref a, H, I, rfl, q1 hw⟩
  · refine HT.getItem_tuple_cut ht hs pl pu (by rw [hlen]; exact hw) ?_ (by rw [hlen]; exact hz)
    rw [hlen]
    exact laidT (h := s.heap) (tk := s.toks) I ((r.drop (HT.sIx xs.length 0 lo)).take (HT.sIx xs.length xs.length hi - HT.sIx xs.length 0 lo)) (Nat.le_trans (cutV_length xs lo hi) hz) (q2 hw)
/-- tuple(x) -/
def rTupX (K : PySem.W.Frag) : List V → Hp → VK → Prop := fun vs H Q => ∃ p ys, vs = [.ref p] ∧ ((SqL K H p ys ∧ NewT H ys Q) ∨ (SqT K H p ys ∧ Q (.ref p) H))
theorem tupXK (hK : X.K = K) : CallR X (.type "tuple") (rTupX K) := by
  subst hK
  intro pins s σ H xs us Q I r h
  obtain ⟨p, ys, rfl, ⟨h1, q⟩ | ⟨h1, q⟩⟩ := h
  · exact tupFK rfl pins s σ H _ us Q I r ⟨p, ys, rfl, h1, fun l ob h2 h3 h4 => q l ob ⟨h2, h3⟩ h4⟩
  · exact tupK rfl pins s σ H _ us Q I r ⟨p, ys, rfl, .inr ⟨h1, q⟩⟩
def tTupRX (te : L2.St → Hp → (Int → Int → Hp → Prop) → Prop) : TE := fun σ H Q => te σ H fun a b H1 => RgOk a b ∧ NewT H1 (rgV a b) Q
theorem pe_tupRX {e : Expr} {te : L2.St → Hp → (Int → Int → Hp → Prop) → Prop} {p pos : Pos} (hc : X.calm = true) (hg : Gl X "tuple") (hm : X.mg "tuple" = none) (he : PRg X e te) (na : starEach [e] X.env = (false, eval e X.env) :: starEach [] X.env := by rfl) : PE X (.Call (.Name "tuple" p) [e] [] pos) (tTupRX te) := by
  refine ⟨fun pins s σ H Q I h => ?_⟩
  refine Call_ (ld_blt I hg hm boot_tuple (PyProof.Rows.callWith_type1 (args_cons (thn (he pins s σ H _ I h) fun x s1 ⟨r, a, b, t, u, v, H1, ex, hr, I1, ok, q⟩ => args_nil ?_) na) na))
  subst ex
  obtain ⟨b1, b2, b3, b4, b5⟩ := ok
  refine call_tuple_range (n := (b - a).toNat) (I1.ok.hd hc) hr (small_one b1 b2 b3 b4) (rangeSize_nat a b) b5 fun h' tk acc hk hi => ?_
  have I2 : Inv X pins σ H1 { s1 with heap := h', toks := tk } := I1.kept hk
  have := laidT (h := h') (tk := tk) I2 (vals_rg hi) (by rw [rgV_length, sizeLine_eq]; omega) q
  rw [Array.toArray_toList] at this
  exact this
def rRepX (K : PySem.W.Frag) : R2 := fun x y H Q => ∃ l k xs, x = .ref l ∧ y = .int k ∧ SqT K H l xs ∧ xs ≠ [] ∧ 1 ≤ k ∧ k ≤ 1000 ∧ xs.length ≤ 1000 ∧ (k = 1 → Q (.ref l) H) ∧ (2 ≤ k → NewT H (List.replicate k.toNat xs).flatten Q)
theorem repXK (hK : X.K = K) : OpR X (binaryOp .Mult) (rRepX K) := by
  subst hK
  intro pins s σ H x y v u Q I rx ry h
  obtain ⟨l, k, xs, rfl, rfl, hT, hne, h1, h2, hz, q1, q2⟩ := h
  by_cases hk : k = 1
  · exact rep2K rfl pins s σ H _ _ v u Q I rx ry ⟨l, k, xs, rfl, rfl, hT, hne, h1, h2, hz, q1, fun h => by omega⟩
  have h1 : 2 ≤ k := by omega
  have q := q2 h1
  cases rx
  obtain ⟨t, rfl⟩ := ry
  obtain ⟨its, r, ⟨⟨cls, dd, data, sl⟩, ho, hc, n, hd⟩, hs⟩ := I.tuple hT
  simp only at hc hd
  subst hc hd
  have hle : its.length = xs.length := r.length.symm
  have hn : its ≠ [] := fun e => hne (by
    rw [e] at hle
    exact List.eq_nil_of_length_eq_zero hle.symm)
  have hi : its.toArray.isEmpty = false := by
    cases its with
    | nil => exact absurd rfl hn
    | cons a b => rfl
  have hsz0 : its.toArray.size = xs.length := by rw [List.size_toArray, hle]
  have hm : ((its.toArray.size : Nat) : Int) * k ≤ 1000000 := by
    rw [hsz0]
    have a1 : ((xs.length : Nat) : Int) * k ≤ 1000 * k := Int.mul_le_mul_of_nonneg_right (by omega) (by omega)
    omega
  have flen : (List.replicate k.toNat its).flatten.length ≤ sizeLine := by
    rw [PyProof.Rows.lm_len_rep_flat, hle, sizeLine_eq]
    have a1 : k.toNat * xs.length ≤ 1000 * 1000 := Nat.mul_le_mul (by omega) hz
    omega
  have c0 : (decide (k < -(2 ^ 63)) || decide (k ≥ 2 ^ 63)) = false := by
    rw [decide_eq_false (by omega), decide_eq_false (by omega)] <;> rfl
  have c1 : (its.toArray.isEmpty || k == 1) = false := by
    rw [hi, Bool.false_or]
    exact beq_eq_false_iff_ne.mpr (by omega)
  have c2 : (decide (k ≤ 0) || its.toArray.isEmpty) = false := by
    rw [hi, Bool.or_false]
    exact decide_eq_false (by omega)
  have c4 : Builtin.Tuple.tupleTooMany (((its.toArray.size : Nat) : Int) * k) = false := by
    unfold Builtin.Tuple.tupleTooMany
    rw [sizeLine_eq]
    exact decide_eq_false (by omega)
  refine wpAny_binaryOp_repeat_ref (T := "tuple") (U := "int") (by decide) ⟨_, ho, rfl⟩ (fun s' => typeIs_int s' k t) noFill_tuple_mul PySem.F.fills_int_mul PySem.F.slot_int_rmul repeat_tuple PySem.F.slot_int_index.lookup
    (call_meets PySem.F.slot_int_rmul (typeIs_int s k t) PySem.F.entry_int_rmul (PySem.F.args_int_rmul_2 _ _) (int_rmul_tuple k t l its.toArray n dd sl)
      ⟨ho, rfl, ⟨_, ho, rfl⟩, call_meets PySem.F.slot_tuple_mul ⟨_, ho, rfl⟩ PySem.F.entry_tuple_mul (PySem.F.args_tuple_mul_2 _ _) (tuple_mulW l its.toArray n dd sl k t c0 c1 c2 (by omega) c4 (by rw [size_rep, List.size_toArray]; exact flen)) ⟨ho, ?_⟩⟩)
  rw [size_rep]
  exact laidT (h := s.heap) (tk := s.toks) I (r.rep k.toNat) (by rw [PyProof.Rows.lm_len_rep_flat, sizeLine_eq]; have a1 : k.toNat * xs.length ≤ 1000 * 1000 := Nat.mul_le_mul (by omega) hz; omega) q
/-- a tuple whose object is known -/
def TpX (K : PySem.W.Frag) (H : Hp) (p : Addr) (vs : List V) : Prop :=
  (∃ o, H p = some (.frz o (.tup vs)) ∧ Plain o) ∨ ∃ (o : Obj) (its : Array Value) (n : Nat), K.lookup p = some o ∧ Plain o ∧ o.data = .seq its n ∧ its.size ≤ sizeLine ∧ Vals vs its.toList
theorem TpX.sq {H : Hp} {p : Addr} {vs : List V} (h : TpX K H p vs) : SqT K H p vs := by
  rcases h with ⟨o, h, _⟩ | ⟨o, its, n, h1, h2, h3⟩
  · exact .inl (.inr ⟨o, h⟩)
  · exact .inr ⟨o, its, n, h1, h2.1, h3⟩
/-- a method of a tuple -/
def tBMT (K : PySem.W.Frag) (r : V → List V → Hp → VK → Prop) (to : TE) (t : TA) : TE := fun σ H Q => to σ H fun x H1 => (∃ (p : Addr) (vs : List V), x = .ref p ∧ TpX K H1 p vs) ∧ t σ H1 fun xs H2 => r x xs H2 Q
theorem pe_bmT {o e : Expr} {es : List Expr} {to : TE} {t : TA} {id : String} {name : Str} {r : V → List V → Hp → VK → Prop} {apos cpos : Pos} (hK : X.K = K) (pa : PlainAttrs "tuple") (slot : Slot "tuple" name id) (hty : typeOf (.builtin id) = pure (.type "method_descriptor")) (hm : MtR X id r) (ho : PE X o to) (ha : PA X (e :: es) t)
    (hbase : attributeBase o name X.env (eval o X.env) = eval o X.env := by rfl)
    (hfew : ((backTo cpos (starEach (e :: es) X.env)).all (fun x => !x.1) && (backToKw cpos (keywordEach [] X.env)).all (fun x => x.1.isSome)
      && decide ((e :: es).length + ([] : List Keyword).length + (if ([] : List Keyword).isEmpty then 0 else 1) < 30)) = true := by rfl)
    (hline : (apos.endLine == cpos.line) = true := by rfl) (hs : starEach (e :: es) X.env = (false, eval e X.env) :: starEach es X.env := by rfl) (hplain : (backTo cpos (starEach es X.env)).any (·.1) = false := by rfl) :
    PE X (.Call (.Attribute o name apos) (e :: es) [] cpos) (tBMT K r to t) := by
  subst hK
  refine ⟨fun pins s σ H Q I h => ?_⟩
  refine wpAny_Call_method_late hbase hfew hline rfl (thn (ho.run pins s σ H _ I h) fun v s1 ⟨x, H1, I1, r1, ty, q1⟩ => ?_)
  obtain ⟨p, ys, rfl, hp⟩ := ty
  cases r1
  have ob : ∃ ob, s1.heap.get? p = some ob ∧ Plain ob := by
    rcases hp with ⟨o, h, hp⟩ | ⟨o, its, n, h1, h2, h3⟩
    · exact ⟨o, (show ObjOk X.prog X.w H1 s1.heap p (.frz o (.tup ys)) from I1.hok p _ h).1, hp⟩
    · exact ⟨o, I1.kIn p o h1, h2⟩
  obtain ⟨ob, ho, hc, hd⟩ := ob
  refine ⟨"tuple", id, pa, slot, hty, ⟨ob, ho, hc⟩, fun a ea => ⟨ob, by cases ea; exact ho, hd⟩, ?_⟩
  have hA := ha.run cpos pins s1 σ H1 _ I1 q1
  rw [hs] at hA ⊢
  refine Calls.callWith_builtin (by show (false || (backTo cpos (starEach es X.env)).any (·.1)) = false; rw [hplain] <;> rfl) (Calls.evalArgs_plain ?_)
  exact thn hA fun us s2 ⟨vs, H2, I2, r2, q2⟩ => hm pins s2 σ H2 (.ref p) vs _ us Q I2 rfl r2 q2
end
end Ev
/-! a reading of defs as functions: values, a store of lists and dicts, what an expression gives -/
namespace Ev
open PySem PySem.Spec PyProof.Rows L2 Gd

/-- a value: tmp, dtm: a new list, a new dict that nothing else knows; frz: a list that is only read; loc: a list or a dict of the store -/
inductive A where
  | non | bl (b : Bool) | int (i : Int) | str (x : Str)
  | tup (xs : List A) | pr (a b : A) | tmp (xs : List A) | frz (xs : List A) | loc (l : Nat) | dtm (kvs : List (Key × A))
inductive O where
  | lst (xs : List A) | dic (kvs : List (Key × A))
abbrev Sto := List O
abbrev Rho := List (Option A)
inductive R (α : Type) where
  | ok (a : α) (st : Sto) | no
/-- no new list -/
def A.nt : A → Prop
  | .tmp _ => False
  | .dtm _ => False
  | _ => True

section
variable (K : PySem.W.Frag) (μ : Nat → Addr) (n : Nat) (H : Hp)
/-- a list of the written part -/
def KL (a : Addr) (xs : List V) : Prop := ∃ (o : Obj) (its : Array Value) (n : Nat), K.lookup a = some o ∧ o.cls = .type "list" ∧ o.dict = none ∧ o.data = .seq its n ∧ its.size ≤ sizeLine ∧ Vals xs its.toList
/-- a list that is locked, or one of the written part -/
def FzL (a : Addr) (xs : List V) : Prop := (∃ o, H a = some (.frz o (.lst xs))) ∨ KL K a xs
mutual
def Rep : A → V → Prop
  | .non, v => v = .non
  | .bl b, v => v = .bl b
  | .int i, v => v = .int i
  | .str x, v => v = .str x
  | .tup xs, v => ∃ p vs, v = .ref p ∧ TpX K H p vs ∧ RepL xs vs
  | .pr a b, v => ∃ p x y, v = .ref p ∧ H p = some (.tup [x, y]) ∧ (a.nt ∧ Rep a x) ∧ (b.nt ∧ Rep b y)
  | .tmp xs, v => ∃ p vs, v = .ref p ∧ H p = some (.lst vs) ∧ (∀ l, l < n → μ l ≠ p) ∧ RepL xs vs
  | .frz xs, v => ∃ p vs, v = .ref p ∧ FzL K H p vs ∧ RepL xs vs
  | .loc l, v => l < n ∧ v = .ref (μ l)
  | .dtm kvs, v => ∃ p ws, v = .ref p ∧ H p = some (.dK ws) ∧ (∀ l, l < n → μ l ≠ p) ∧ RepD kvs ws
def RepL : List A → List V → Prop
  | [], vs => vs = []
  | a :: as, vs => ∃ v r, vs = v :: r ∧ a.nt ∧ Rep a v ∧ RepL as r
def RepD : List (Key × A) → List (Key × V) → Prop
  | [], vs => vs = []
  | (k, a) :: as, vs => ∃ v r, vs = (k, v) :: r ∧ a.nt ∧ Rep a v ∧ RepD as r
end
end

/-! ### pairs of lists -/
section
variable {α β : Type} {F G : α → β → Prop}
theorem pd_get : ∀ {xs : List α} {ys : List β} {i : Nat} {x : α}, Paired F xs ys → xs[i]? = some x → ∃ y, ys[i]? = some y ∧ F x y
  | _, _, _, _, .nil, e => by simp at e
  | _, _, 0, _, .cons r _, e => by simp at e; subst e; exact ⟨_, rfl, r⟩
  | _, _, i + 1, x, .cons _ t, e => by
    obtain ⟨u, h1, h2⟩ := pd_get (i := i) (x := x) t (by simpa using e)
    exact ⟨u, by simpa using h1, h2⟩
theorem pd_getR : ∀ {xs : List α} {ys : List β} {i : Nat} {y : β}, Paired F xs ys → ys[i]? = some y → ∃ x, xs[i]? = some x ∧ F x y
  | _, _, _, _, .nil, e => by simp at e
  | _, _, 0, _, .cons r _, e => by simp at e; subst e; exact ⟨_, rfl, r⟩
  | _, _, i + 1, x, .cons _ t, e => by
    obtain ⟨u, h1, h2⟩ := pd_getR (i := i) (y := x) t (by simpa using e)
    exact ⟨u, by simpa using h1, h2⟩
theorem pd_append : ∀ {xs xs' : List α} {ys ys' : List β}, Paired F xs ys → Paired F xs' ys' → Paired F (xs ++ xs') (ys ++ ys')
  | _, _, _, _, .nil, s => s
  | _, _, _, _, .cons r t, s => .cons r (pd_append t s)
theorem pd_take : ∀ {xs : List α} {ys : List β} (n : Nat), Paired F xs ys → Paired F (xs.take n) (ys.take n)
  | _, _, 0, _ => .nil
  | _, _, _ + 1, .nil => .nil
  | _, _, n + 1, .cons r t => .cons r (pd_take n t)
theorem pd_drop : ∀ {xs : List α} {ys : List β} (n : Nat), Paired F xs ys → Paired F (xs.drop n) (ys.drop n)
  | _, _, 0, r => r
  | _, _, _ + 1, .nil => .nil
  | _, _, n + 1, .cons r t => pd_drop n t
theorem pd_set {x : α} {y : β} (r : F x y) : ∀ {xs : List α} {ys : List β} (i : Nat), Paired F xs ys → Paired F (xs.set i x) (ys.set i y)
  | _, _, _, .nil => .nil
  | _, _, 0, .cons _ t => .cons r t
  | _, _, i + 1, .cons q t => .cons q (pd_set r i t)
theorem pd_erase : ∀ {xs : List α} {ys : List β} (i : Nat), Paired F xs ys → Paired F (xs.eraseIdx i) (ys.eraseIdx i)
  | _, _, _, .nil => .nil
  | _, _, 0, .cons _ t => t
  | _, _, i + 1, .cons q t => .cons q (pd_erase i t)
theorem pd_rev : ∀ {xs : List α} {ys : List β}, Paired F xs ys → Paired F xs.reverse ys.reverse
  | _, _, .nil => .nil
  | _, _, .cons q t => by
    rw [List.reverse_cons, List.reverse_cons]
    exact pd_append (pd_rev t) (.cons q .nil)
theorem pd_dropLast {xs : List α} {ys : List β} (h : Paired F xs ys) : Paired F xs.dropLast ys.dropLast := by
  rw [List.dropLast_eq_take, List.dropLast_eq_take, h.length]
  exact pd_take _ h
theorem pd_rep {x : α} {y : β} (r : F x y) : ∀ n : Nat, Paired F (List.replicate n x) (List.replicate n y)
  | 0 => .nil
  | n + 1 => by rw [List.replicate_succ, List.replicate_succ]; exact .cons r (pd_rep r n)
theorem pd_flat : ∀ {xs : List (List α)} {ys : List (List β)}, Paired (Paired F) xs ys → Paired F xs.flatten ys.flatten
  | _, _, .nil => .nil
  | _, _, .cons q t => by rw [List.flatten_cons, List.flatten_cons]; exact pd_append q (pd_flat t)
end

section
variable {K : PySem.W.Frag} {μ μ' μ2 : Nat → Addr} {n n' n2 : Nat} {H H' H2 : Hp}
abbrev RN (K : PySem.W.Frag) (μ : Nat → Addr) (n : Nat) (H : Hp) : A → V → Prop := fun a v => a.nt ∧ Rep K μ n H a v
theorem repL_iff : ∀ {xs : List A} {vs : List V}, RepL K μ n H xs vs ↔ Paired (RN K μ n H) xs vs
  | [], vs => ⟨fun h => by cases (show vs = [] from h); exact .nil, fun h => by cases h; rfl⟩
  | a :: as, vs => ⟨fun h => by
      obtain ⟨v, r, rfl, h1, h2, h3⟩ := h
      exact .cons ⟨h1, h2⟩ (repL_iff.mp h3), fun h => by
      cases h with
      | cons h1 h2 => exact ⟨_, _, rfl, h1.1, h1.2, repL_iff.mpr h2⟩⟩
abbrev RK (K : PySem.W.Frag) (μ : Nat → Addr) (n : Nat) (H : Hp) : Key × A → Key × V → Prop := fun a v => a.1 = v.1 ∧ a.2.nt ∧ Rep K μ n H a.2 v.2
theorem repD_iff : ∀ {xs : List (Key × A)} {vs : List (Key × V)}, RepD K μ n H xs vs ↔ Paired (RK K μ n H) xs vs
  | [], vs => ⟨fun h => by cases (show vs = [] from h); exact .nil, fun h => by cases h; rfl⟩
  | (k, a) :: as, vs => ⟨fun h => by
      obtain ⟨v, r, rfl, h1, h2, h3⟩ := h
      exact .cons ⟨rfl, h1, h2⟩ (repD_iff.mp h3), fun h => by
      cases h with
      | cons h1 h2 =>
        rename_i b r
        obtain ⟨k', v⟩ := b
        obtain ⟨h0, h1, h3⟩ := h1
        cases (show k = k' from h0)
        exact ⟨_, _, rfl, h1, h3, repD_iff.mpr h2⟩⟩
def RepO (K : PySem.W.Frag) (μ : Nat → Addr) (n : Nat) (H : Hp) (p : Addr) : O → Prop
  | .lst xs => ∃ vs, H p = some (.lst vs) ∧ RepL K μ n H xs vs
  | .dic kvs => ∃ ws, H p = some (.dK ws) ∧ RepD K μ n H kvs ws
/-- the store is held -/
structure RS (K : PySem.W.Frag) (μ : Nat → Addr) (st : Sto) (H : Hp) : Prop where
  at_ : ∀ l o, st[l]? = some o → RepO K μ st.length H (μ l) o
  inj : ∀ l l', l < st.length → l' < st.length → μ l = μ l' → l = l'
/-- what may have come -/
structure Ext (μ : Nat → Addr) (n : Nat) (H : Hp) (μ' : Nat → Addr) (n' : Nat) (H' : Hp) : Prop where
  le : n ≤ n'
  ag : ∀ l, l < n → μ' l = μ l
  fr : ∀ p o, H p = some o → (∀ l, l < n → μ l ≠ p) → H' p = some o
  so : ∀ p, H' p = none → H p = none
  nw : ∀ l, n ≤ l → l < n' → H (μ' l) = none
theorem Ext.refl : Ext μ n H μ n H := ⟨Nat.le_refl _, fun _ _ => rfl, fun _ _ h _ => h, fun _ h => h, fun l h1 h2 => absurd h1 (by omega)⟩
theorem Ext.trans (a : Ext μ n H μ' n' H') (b : Ext μ' n' H' μ2 n2 H2) : Ext μ n H μ2 n2 H2 where
  le := Nat.le_trans a.le b.le
  ag := fun l h => (b.ag l (Nat.lt_of_lt_of_le h a.le)).trans (a.ag l h)
  fr := fun p o h1 h2 => b.fr p o (a.fr p o h1 h2) fun l hl e => by
    by_cases h : l < n
    · rw [a.ag l h] at e
      exact h2 l h e
    · have := a.nw l (by omega) hl
      rw [e, h1] at this
      cases this
  so := fun p h => a.so p (b.so p h)
  nw := fun l h1 h2 => by
    by_cases h : l < n'
    · rw [b.ag l h]
      exact a.nw l h1 h
    · exact a.so _ (b.nw l (by omega) h2)
theorem RepO.mt {p : Addr} {o : O} (h : RepO K μ n H p o) : ∃ u, H p = some u ∧ Mut (some u) ∧ (∀ x z, u ≠ .frz x z) ∧ (∀ xs, u ≠ .tup xs) := by
  cases o with
  | lst xs =>
    obtain ⟨vs, h1, _⟩ := h
    exact ⟨_, h1, True.intro, (fun _ _ e => nomatch e), (fun _ e => nomatch e)⟩
  | dic kvs =>
    obtain ⟨vs, h1, _⟩ := h
    exact ⟨_, h1, True.intro, (fun _ _ e => nomatch e), (fun _ e => nomatch e)⟩
theorem RS.mt {st : Sto} (h : RS K μ st H) {l : Nat} (hl : l < st.length) : ∃ u, H (μ l) = some u ∧ Mut (some u) ∧ (∀ x z, u ≠ .frz x z) ∧ (∀ xs, u ≠ .tup xs) :=
  (h.at_ l st[l] (List.getElem?_eq_getElem hl)).mt
/-- tuples are no objects of the store -/
theorem RS.ne_tup {st : Sto} (h : RS K μ st H) {p : Addr} {vs : List V} (e : Rd H p (.tup vs)) : ∀ l, l < st.length → μ l ≠ p := fun l hl q => by
  obtain ⟨u, h1, h2, h3, h4⟩ := h.mt hl
  rw [q] at h1
  rcases e with e | ⟨o, e⟩
  · rw [h1] at e
    exact h4 _ (Option.some.inj e)
  · rw [h1] at e
    exact h3 _ _ (Option.some.inj e)
theorem RS.ne_free {st : Sto} (h : RS K μ st H) {p : Addr} (e : H p = none) : ∀ l, l < st.length → μ l ≠ p := fun l hl q => by
  obtain ⟨u, h1, _⟩ := h.mt hl
  rw [q, e] at h1
  cases h1
mutual
theorem Rep.ext {st : Sto} (S : RS K μ st H) (E : Ext μ st.length H μ' n' H') : ∀ {a : A} {v : V}, Rep K μ st.length H a v → Rep K μ' n' H' a v
  | .non, _, h => h
  | .bl _, _, h => h
  | .int _, _, h => h
  | .str _, _, h => h
  | .tup xs, v, ⟨p, vs, e, h1, h2⟩ => by
    refine ⟨p, vs, e, ?_, RepL.ext S E h2⟩
    rcases h1 with ⟨o, h1, h3⟩ | h1
    · refine .inl ⟨o, E.fr _ _ h1 fun l hl q => ?_, h3⟩
      obtain ⟨u, h4, _, h5, _⟩ := S.mt hl
      rw [q, h1] at h4
      exact h5 _ _ (Option.some.inj h4).symm
    · exact .inr h1
  | .pr a b, v, ⟨p, x, y, e, h1, h2, h3⟩ => ⟨p, x, y, e, E.fr _ _ h1 (S.ne_tup (.inl h1)), ⟨h2.1, Rep.ext S E h2.2⟩, h3.1, Rep.ext S E h3.2⟩
  | .tmp xs, v, ⟨p, vs, e, h1, h2, h3⟩ => by
    refine ⟨p, vs, e, E.fr _ _ h1 h2, fun l hl q => ?_, RepL.ext S E h3⟩
    by_cases h : l < st.length
    · rw [E.ag l h] at q
      exact h2 l h q
    · have := E.nw l (by omega) hl
      rw [q, h1] at this
      cases this
  | .frz xs, v, ⟨p, vs, e, h1, h3⟩ => by
    refine ⟨p, vs, e, ?_, RepL.ext S E h3⟩
    rcases h1 with ⟨o, h1⟩ | h1
    · refine .inl ⟨o, E.fr _ _ h1 fun l hl q => ?_⟩
      obtain ⟨u, h4, _, h5, _⟩ := S.mt hl
      rw [q, h1] at h4
      exact h5 _ _ (Option.some.inj h4).symm
    · exact .inr h1
  | .loc l, v, ⟨h1, h2⟩ => ⟨Nat.lt_of_lt_of_le h1 E.le, by rw [E.ag l h1]; exact h2⟩
  | .dtm xs, v, ⟨p, vs, e, h1, h2, h3⟩ => by
    refine ⟨p, vs, e, E.fr _ _ h1 h2, fun l hl q => ?_, RepD.ext S E h3⟩
    by_cases h : l < st.length
    · rw [E.ag l h] at q
      exact h2 l h q
    · have := E.nw l (by omega) hl
      rw [q, h1] at this
      cases this
theorem RepL.ext {st : Sto} (S : RS K μ st H) (E : Ext μ st.length H μ' n' H') : ∀ {xs : List A} {vs : List V}, RepL K μ st.length H xs vs → RepL K μ' n' H' xs vs
  | [], _, h => h
  | _ :: _, _, ⟨v, r, e, h1, h2, h3⟩ => ⟨v, r, e, h1, Rep.ext S E h2, RepL.ext S E h3⟩
theorem RepD.ext {st : Sto} (S : RS K μ st H) (E : Ext μ st.length H μ' n' H') : ∀ {xs : List (Key × A)} {vs : List (Key × V)}, RepD K μ st.length H xs vs → RepD K μ' n' H' xs vs
  | [], _, h => h
  | (_, _) :: _, _, ⟨v, r, e, h1, h2, h3⟩ => ⟨v, r, e, h1, Rep.ext S E h2, RepD.ext S E h3⟩
end
mutual
theorem Rep.lift (ag : ∀ l, l < n → μ' l = μ l) (le : n ≤ n') : ∀ {a : A} {v : V}, a.nt → Rep K μ n H a v → Rep K μ' n' H a v
  | .non, _, _, h => h
  | .bl _, _, _, h => h
  | .int _, _, _, h => h
  | .str _, _, _, h => h
  | .tup xs, v, _, ⟨p, vs, e, h1, h2⟩ => ⟨p, vs, e, h1, RepL.lift ag le h2⟩
  | .pr a b, v, _, ⟨p, x, y, e, h1, h2, h3⟩ => ⟨p, x, y, e, h1, ⟨h2.1, Rep.lift ag le h2.1 h2.2⟩, h3.1, Rep.lift ag le h3.1 h3.2⟩
  | .tmp xs, v, f, _ => f.elim
  | .frz xs, v, _, ⟨p, vs, e, h1, h3⟩ => ⟨p, vs, e, h1, RepL.lift ag le h3⟩
  | .loc l, v, _, ⟨h1, h2⟩ => ⟨Nat.lt_of_lt_of_le h1 le, by rw [ag l h1]; exact h2⟩
  | .dtm xs, v, f, _ => f.elim
theorem RepL.lift (ag : ∀ l, l < n → μ' l = μ l) (le : n ≤ n') : ∀ {xs : List A} {vs : List V}, RepL K μ n H xs vs → RepL K μ' n' H xs vs
  | [], _, h => h
  | _ :: _, _, ⟨v, r, e, h1, h2, h3⟩ => ⟨v, r, e, h1, Rep.lift ag le h1 h2, RepL.lift ag le h3⟩
theorem RepD.lift (ag : ∀ l, l < n → μ' l = μ l) (le : n ≤ n') : ∀ {xs : List (Key × A)} {vs : List (Key × V)}, RepD K μ n H xs vs → RepD K μ' n' H xs vs
  | [], _, h => h
  | (_, _) :: _, _, ⟨v, r, e, h1, h2, h3⟩ => ⟨v, r, e, h1, Rep.lift ag le h1 h2, RepD.lift ag le h3⟩
end
theorem RepO.lift {p : Addr} {o : O} (ag : ∀ l, l < n → μ' l = μ l) (le : n ≤ n') (h : RepO K μ n H p o) : RepO K μ' n' H p o := by
  cases o with
  | lst xs =>
    obtain ⟨vs, h1, h2⟩ := h
    exact ⟨vs, h1, h2.lift ag le⟩
  | dic xs =>
    obtain ⟨vs, h1, h2⟩ := h
    exact ⟨vs, h1, h2.lift ag le⟩
/-- a new object becomes one of the store -/
theorem RS.snoc {st : Sto} (S : RS K μ st H) {p : Addr} {o : O} (hp : ∀ l, l < st.length → μ l ≠ p) (hr : RepO K μ st.length H p o) :
    RS K (fun l => if l = st.length then p else μ l) (st ++ [o]) H := by
  have ag : ∀ l, l < st.length → (if l = st.length then p else μ l) = μ l := fun l h => by simp [Nat.ne_of_lt h]
  have ln : (st ++ [o]).length = st.length + 1 := by rw [List.length_append, List.length_singleton]
  refine ⟨fun l z e => ?_, fun l l' h1 h2 h => ?_⟩
  · rw [ln]
    have hl := (List.getElem?_eq_some_iff.mp e).1
    by_cases h : l < st.length
    · rw [List.getElem?_append_left h] at e
      rw [ag l h]
      exact (S.at_ l z e).lift ag (by omega)
    · have : l = st.length := by omega
      subst this
      rw [List.getElem?_append_right (Nat.le_refl _), Nat.sub_self] at e
      cases e
      rw [if_pos rfl]
      exact hr.lift ag (by omega)
  · rw [ln] at h1 h2
    by_cases h3 : l < st.length
    · by_cases h4 : l' < st.length
      · rw [ag l h3, ag l' h4] at h
        exact S.inj l l' h3 h4 h
      · have : l' = st.length := by omega
        subst this
        rw [ag l h3, if_pos rfl] at h
        exact absurd h (hp l h3)
    · have : l = st.length := by omega
      subst this
      by_cases h4 : l' < st.length
      · rw [ag l' h4, if_pos rfl] at h
        exact absurd h.symm (hp l' h4)
      · omega
/-- slots -/
structure RE (K : PySem.W.Frag) (μ : Nat → Addr) (n : Nat) (H : Hp) (σ : L2.St) (ρ : Rho) : Prop where
  len : σ.length = ρ.length
  at_ : ∀ (i : Nat) a, ρ[i]? = some (some a) → a.nt ∧ ∃ v, σ[i]? = some (some v) ∧ Rep K μ n H a v
theorem RE.ext {st : Sto} {σ : L2.St} {ρ : Rho} (h : RE K μ st.length H σ ρ) (S : RS K μ st H) (E : Ext μ st.length H μ' n' H') : RE K μ' n' H' σ ρ :=
  ⟨h.len, fun i a e => let ⟨h1, v, h2, h3⟩ := h.at_ i a e; ⟨h1, v, h2, h3.ext S E⟩⟩
theorem RE.set {σ : L2.St} {ρ : Rho} (h : RE K μ n H σ ρ) {i : Nat} {a : A} {v : V} (ha : a.nt) (r : Rep K μ n H a v) : RE K μ n H (σ.set i (some v)) (ρ.set i (some a)) := by
  refine ⟨by simp [h.len], fun j b e => ?_⟩
  by_cases hj : i = j
  · subst hj
    by_cases hi : i < ρ.length
    · rw [List.getElem?_set_self hi] at e
      cases e
      exact ⟨ha, v, List.getElem?_set_self (by rw [h.len]; exact hi), r⟩
    · rw [List.getElem?_eq_none (by simpa using hi)] at e
      cases e
  · rw [List.getElem?_set_ne hj] at e
    rw [List.getElem?_set_ne hj]
    exact h.at_ j b e
theorem RE.wipe1 {σ : L2.St} {ρ : Rho} (h : RE K μ n H σ ρ) {i : Nat} : RE K μ n H (σ.set i none) (ρ.set i none) := by
  refine ⟨by simp [h.len], fun j b e => ?_⟩
  by_cases hj : i = j
  · subst hj
    by_cases hi : i < ρ.length
    · rw [List.getElem?_set_self hi] at e
      cases e
    · rw [List.getElem?_eq_none (by simpa using hi)] at e
      cases e
  · rw [List.getElem?_set_ne hj] at e
    rw [List.getElem?_set_ne hj]
    exact h.at_ j b e
/-- a new object that is no object of the store -/
theorem RS.new {st : Sto} (S : RS K μ st H) {p : Addr} {o : HO} (h : H p = none) : RS K μ st (upd H p o) ∧ Ext μ st.length H μ st.length (upd H p o) := by
  have ext : Ext μ st.length H μ st.length (upd H p o) := ⟨Nat.le_refl _, fun _ _ => rfl, fun q u e _ => by rw [upd_ne (ne_of_none e h)]; exact e, fun q e => by
      by_cases hq : q = p
      · rw [hq]; exact h
      · rw [upd_ne hq] at e; exact e, fun l h1 h2 => absurd h1 (by omega)⟩
  refine ⟨⟨fun l u e => ?_, S.inj⟩, ext⟩
  have hl := (List.getElem?_eq_some_iff.mp e).1
  have h1 := S.at_ l u e
  cases u with
  | lst xs =>
    obtain ⟨vs, h2, h3⟩ := h1
    exact ⟨vs, by rw [upd_ne (S.ne_free h l hl)]; exact h2, h3.ext S ext⟩
  | dic xs =>
    obtain ⟨vs, h2, h3⟩ := h1
    exact ⟨vs, by rw [upd_ne (S.ne_free h l hl)]; exact h2, h3.ext S ext⟩
/-- an object of the store is written -/
theorem RS.put {st : Sto} (S : RS K μ st H) {l : Nat} (hl : l < st.length) {o : O} {u : HO} (hu : ∀ H', Ext μ st.length H μ st.length H' → H' (μ l) = some u → RepO K μ st.length H' (μ l) o) :
    RS K μ (st.set l o) (upd H (μ l) u) ∧ Ext μ st.length H μ (st.set l o).length (upd H (μ l) u) := by
  have ext : Ext μ st.length H μ st.length (upd H (μ l) u) := ⟨Nat.le_refl _, fun _ _ => rfl, fun q z e ne => by rw [upd_ne (fun h => ne l hl h.symm)]; exact e, fun q e => by
      by_cases hq : q = μ l
      · rw [hq, upd_same] at e; cases e
      · rw [upd_ne hq] at e; exact e, fun l h1 h2 => absurd h1 (by omega)⟩
  refine ⟨⟨fun k z e => ?_, fun a b h1 h2 => S.inj a b (by simpa using h1) (by simpa using h2)⟩, by rw [List.length_set]; exact ext⟩
  rw [List.length_set]
  by_cases hk : l = k
  · subst hk
    rw [List.getElem?_set_self hl] at e
    cases e
    exact hu _ ext upd_same
  · rw [List.getElem?_set_ne hk] at e
    have hkl := (List.getElem?_eq_some_iff.mp e).1
    have ne : μ k ≠ μ l := fun h => hk (S.inj k l hkl hl h).symm
    have h1 := S.at_ k z e
    cases z with
    | lst xs =>
      obtain ⟨vs, h2, h3⟩ := h1
      exact ⟨vs, by rw [upd_ne ne]; exact h2, h3.ext S ext⟩
    | dic xs =>
      obtain ⟨vs, h2, h3⟩ := h1
      exact ⟨vs, by rw [upd_ne ne]; exact h2, h3.ext S ext⟩
end
/-- a new value is new behind H -/
def Fresh (H : Hp) (a : A) (v : V) : Prop := a.nt ∨ ∃ p, v = .ref p ∧ H p = none
theorem Fresh.of {H : Hp} {a : A} {v : V} (h : a.nt) : Fresh H a v := .inl h
theorem Fresh.back {μ μ' : Nat → Addr} {n n' : Nat} {H H' : Hp} {a : A} {v : V} (E : Ext μ n H μ' n' H') (h : Fresh H' a v) : Fresh H a v := by
  rcases h with h | ⟨p, e, h⟩
  · exact .inl h
  · exact .inr ⟨p, e, E.so p h⟩
end Ev
namespace Ev
open PySem PySem.Spec PyProof.Rows L2 Gd
section
variable {X : Cx} {e : Expr}
theorem pe_weak {t t' : TE} (h : PE X e t) (w : ∀ σ H Q, t' σ H Q → t σ H Q) : PE X e t' := ⟨fun pins s σ H Q I q => h.run pins s σ H Q I (w σ H Q q)⟩
theorem pt_weak {t t' : TT} (h : PT X e t) (w : ∀ σ H Q, t' σ H Q → t σ H Q) : PT X e t' := ⟨fun pins s σ H Q I q => h.run pins s σ H Q I (w σ H Q q)⟩
theorem pw_weak {t t' : TT} (h : PW X e t) (w : ∀ σ H Q, t' σ H Q → t σ H Q) : PW X e t' := ⟨fun whole pins s σ H Q I q => h.run whole pins s σ H Q I (w σ H Q q)⟩
theorem pa_weak {es : List Expr} {t t' : TA} (h : PA X es t) (w : ∀ σ H Q, t' σ H Q → t σ H Q) : PA X es t' := ⟨fun pos pins s σ H Q I q => h.run pos pins s σ H Q I (w σ H Q q)⟩
theorem ps_weak {st : Stmt} {t t' : TS} (h : PS X st t) (w : ∀ D σ H, t' D σ H → t D σ H) : PS X st t' := ⟨fun pins s σ H D I q => h.run pins s σ H D I (w D σ H q)⟩
theorem pss_weak {st : List Stmt} {t t' : TS} (h : PSs X st t) (w : ∀ D σ H, t' D σ H → t D σ H) : PSs X st t' := ⟨fun pins s σ H D I q => h.run pins s σ H D I (w D σ H q)⟩
def rOr (r r' : R2) : R2 := fun x y H Q => r x y H Q ∨ r' x y H Q
theorem opr_or {f : Value → Value → Sem Value} {r r' : R2} (h : OpR X f r) (h' : OpR X f r') : OpR X f (rOr r r') := by
  rintro pins s σ H x y v u Q I rx ry (q | q)
  · exact h pins s σ H x y v u Q I rx ry q
  · exact h' pins s σ H x y v u Q I rx ry q
def rOrN (r r' : List V → Hp → VK → Prop) : List V → Hp → VK → Prop := fun x H Q => r x H Q ∨ r' x H Q
theorem cr_or {f : Value} {r r' : List V → Hp → VK → Prop} (h : CallR X f r) (h' : CallR X f r') : CallR X f (rOrN r r') := by
  rintro pins s σ H x v Q I rx (q | q)
  · exact h pins s σ H x v Q I rx q
  · exact h' pins s σ H x v Q I rx q
end
/-! ### expressions as functions -/
abbrev FE := Rho → Sto → R A
abbrev FA := Rho → Sto → R (List A)
abbrev FT := Rho → Sto → R Bool
abbrev F1 := A → Sto → R A
abbrev F2 := A → A → Sto → R A
abbrev FN := List A → Sto → R A
/-- what is reached behind: a value, the store -/
def Post (K : PySem.W.Frag) (μ : Nat → Addr) (n : Nat) (H : Hp) (a : A) (st' : Sto) (Q : VK) : Prop :=
  ∀ v μ' H', RS K μ' st' H' → Ext μ n H μ' st'.length H' → Rep K μ' st'.length H' a v → Fresh H a v → Q v H'
def tOf (K : PySem.W.Frag) (f : FE) : TE := fun σ H Q => ∃ μ st ρ a st', RS K μ st H ∧ RE K μ st.length H σ ρ ∧ f ρ st = .ok a st' ∧ Post K μ st.length H a st' Q
/-- some arguments, one after another -/
def aOf (K : PySem.W.Frag) (f : FA) : TA := fun σ H Q => ∃ μ st ρ as st', RS K μ st H ∧ RE K μ st.length H σ ρ ∧ f ρ st = .ok as st' ∧
  ∀ vs μ' H', RS K μ' st' H' → Ext μ st.length H μ' st'.length H' → Paired (Rep K μ' st'.length H') as vs → Q vs H'
/-- .. none of them a new list -/
def bOf (K : PySem.W.Frag) (f : FA) : TA := fun σ H Q => ∃ μ st ρ as st', RS K μ st H ∧ RE K μ st.length H σ ρ ∧ f ρ st = .ok as st' ∧
  ∀ vs μ' H', RS K μ' st' H' → Ext μ st.length H μ' st'.length H' → Paired (RN K μ' st'.length H') as vs → Q vs H'
def uOf (K : PySem.W.Frag) (f : FT) : TT := fun σ H Q => ∃ μ st ρ b st', RS K μ st H ∧ RE K μ st.length H σ ρ ∧ f ρ st = .ok b st' ∧
  ∀ μ' H', RS K μ' st' H' → Ext μ st.length H μ' st'.length H' → Q b H'
theorem Post.ok {K : PySem.W.Frag} {μ : Nat → Addr} {H : Hp} {a : A} {st : Sto} {Q : VK} {v : V} (h : Post K μ st.length H a st Q) (S : RS K μ st H) (r : Rep K μ st.length H a v) (hn : a.nt) : Q v H :=
  h v μ H S Ext.refl r (.of hn)
theorem Post.from {K : PySem.W.Frag} {μ μ' : Nat → Addr} {n n' : Nat} {H H' : Hp} {a : A} {st : Sto} {Q : VK} (h : Post K μ n H a st Q) (E : Ext μ n H μ' n' H') : Post K μ' n' H' a st Q :=
  fun v μ2 H2 S2 E2 r f => h v μ2 H2 S2 (E.trans E2) r (f.back E)
/-- a new list is laid -/
theorem Post.tmp {K : PySem.W.Frag} {μ : Nat → Addr} {H : Hp} {xs : List A} {st : Sto} {Q : VK} {p : Addr} {vs : List V} (h : Post K μ st.length H (.tmp xs) st Q) (S : RS K μ st H) (hp : H p = none) (r : RepL K μ st.length H xs vs) : Q (.ref p) (upd H p (.lst vs)) := by
  obtain ⟨S', E'⟩ := S.new (o := .lst vs) hp
  exact h _ μ _ S' E' ⟨p, vs, rfl, upd_same, S.ne_free hp, r.ext S E'⟩ (.inr ⟨p, rfl, hp⟩)
theorem Post.tup {K : PySem.W.Frag} {μ : Nat → Addr} {H : Hp} {xs : List A} {st : Sto} {Q : VK} {vs : List V} (h : Post K μ st.length H (.tup xs) st Q) (S : RS K μ st H) (r : RepL K μ st.length H xs vs) : NewT H vs Q := fun p ob hob hp => by
  obtain ⟨S', E'⟩ := S.new (o := .frz ob (.tup vs)) hp
  exact h _ μ _ S' E' ⟨p, vs, rfl, .inl ⟨ob, upd_same, hob⟩, r.ext S E'⟩ (.of trivial)
def fVar (i : Nat) : FE := fun ρ st => match ρ[i]? with
  | some (some a) => .ok a st
  | _ => .no
def fC (a : A) : FE := fun _ st => .ok a st
def locd : A → Sto → R A
  | .tmp xs, st => .ok (.loc st.length) (st ++ [.lst xs])
  | .dtm xs, st => .ok (.loc st.length) (st ++ [.dic xs])
  | a, st => .ok a st
def fB (f : FE) : FE := fun ρ st => match f ρ st with
  | .ok a st1 => locd a st1
  | .no => .no
def f1 (g : F1) (f : FE) : FE := fun ρ st => match f ρ st with
  | .ok a st1 => g a st1
  | .no => .no
def f2 (g : F2) (fa fb : FE) : FE := fun ρ st => match fa ρ st with
  | .ok a st1 => (match fb ρ st1 with
    | .ok b st2 => g a b st2
    | .no => .no)
  | .no => .no
def aN : FA := fun _ st => .ok [] st
def aC (f : FE) (g : FA) : FA := fun ρ st => match f ρ st with
  | .ok a st1 => (match g ρ st1 with
    | .ok as st2 => .ok (a :: as) st2
    | .no => .no)
  | .no => .no
def fN (g : FN) (f : FA) : FE := fun ρ st => match f ρ st with
  | .ok as st1 => g as st1
  | .no => .no
def tBn (K : PySem.W.Frag) (f : FE) : TE := fun σ H Q => ∃ μ st ρ a st', RS K μ st H ∧ RE K μ st.length H σ ρ ∧ fB f ρ st = .ok a st' ∧ 
    ∀ v μ' H', RS K μ' st' H' → Ext μ st.length H μ' st'.length H' → RN K μ' st'.length H' a v → Q v H'
section
variable {X : Cx} {K : PySem.W.Frag} {e a b : Expr} {es : List Expr} {fa fb f : FE} {g : FA} {pos : Pos}
theorem locd_nt {a b : A} {st st' : Sto} (h : locd a st = .ok b st') : b.nt := by
  cases a <;> (cases h; trivial)
theorem dx_var {i : Nat} {x : Str} (hN : X.N[i]? = some x) (hv : Vis X.env.scope x) (hd : (x == ("__debug__" : Str)) = false := by decide) (hcd : (x == ("__classdict__" : Str)) = false := by decide) : PE X (.Name x pos) (tOf K (fVar i)) := by
  refine pe_weak (pe_var hN hv hd hcd) ?_
  rintro σ H Q ⟨μ, st, ρ, a, st', S, E, h, q⟩
  unfold fVar at h
  split at h
  · rename_i a' h'
    cases h
    obtain ⟨hn, v, h1, h2⟩ := E.at_ i _ h'
    exact ⟨v, h1, q.ok S h2 hn⟩
  · cases h
theorem dx_c {t : TE} {c : A} {v : V} (h : PE X e (tC v)) (hr : ∀ μ n H, Rep K μ n H c v) (hn : c.nt := by trivial) : PE X e (tOf K (fC c)) := by
  refine pe_weak h ?_
  rintro σ H Q ⟨μ, st, ρ, a, st', S, E, h, q⟩
  cases h
  exact q.ok S (hr _ _ _) hn
theorem dx_int {i j pos} : PE X (.Constant (.int i) j pos) (tOf K (fC (.int i))) := dx_c (t := fun _ _ _ => True) pe_int fun _ _ _ => rfl
theorem dx_bl {i j pos} : PE X (.Constant (.bool i) j pos) (tOf K (fC (.bl i))) := dx_c (t := fun _ _ _ => True) pe_bl fun _ _ _ => rfl
theorem dx_non {j pos} : PE X (.Constant .none j pos) (tOf K (fC .non)) := dx_c (t := fun _ _ _ => True) pe_non fun _ _ _ => rfl
theorem dx_str {i j pos} : PE X (.Constant (.str i) j pos) (tOf K (fC (.str i))) := dx_c (t := fun _ _ _ => True) pe_str fun _ _ _ => rfl
/-- a new list becomes one of the store -/
theorem Post.locd {μ0 μ : Nat → Addr} {n0 : Nat} {H0 H : Hp} {a b : A} {st st' : Sto} {v : V} (S : RS K μ st H) (E : Ext μ0 n0 H0 μ st.length H) (r : Rep K μ st.length H a v) (f : Fresh H0 a v) (h : Ev.locd a st = .ok b st') :
    ∃ μ', RS K μ' st' H ∧ Ext μ0 n0 H0 μ' st'.length H ∧ Rep K μ' st'.length H b v ∧ b.nt := by
  have main : ∀ (o : O) (p : Addr), (∀ l, l < st.length → μ l ≠ p) → RepO K μ st.length H p o → H0 p = none → 
      ∃ μ', RS K μ' (st ++ [o]) H ∧ Ext μ0 n0 H0 μ' (st ++ [o]).length H ∧ Rep K μ' (st ++ [o]).length H (.loc st.length) (.ref p) ∧ (A.loc st.length).nt := by
    intro o p ne ro fr
    have ln : (st ++ [o]).length = st.length + 1 := by rw [List.length_append, List.length_singleton]
    refine ⟨_, S.snoc ne ro, ?_, ⟨by rw [ln]; omega, by simp⟩, trivial⟩
    rw [ln]
    refine ⟨Nat.le_trans E.le (by omega), fun l hl => ?_, E.fr, E.so, fun l h1 h2 => ?_⟩
    · have := E.le
      show (if l = st.length then p else μ l) = μ0 l
      rw [if_neg (by omega)]
      exact E.ag l hl
    · show H0 (if l = st.length then p else μ l) = none
      by_cases h3 : l = st.length
      · rw [if_pos h3]
        exact fr
      · rw [if_neg h3]
        exact E.nw l h1 (by omega)
  cases a with
  | tmp xs =>
    cases h
    obtain ⟨p, vs, rfl, h1, h2, h3⟩ := r
    rcases f with f | ⟨q, e, f⟩
    · exact f.elim
    cases e
    exact main _ p h2 ⟨vs, h1, h3⟩ f
  | dtm xs =>
    cases h
    obtain ⟨p, vs, rfl, h1, h2, h3⟩ := r
    rcases f with f | ⟨q, e, f⟩
    · exact f.elim
    cases e
    exact main _ p h2 ⟨vs, h1, h3⟩ f
  | _ => cases h; exact ⟨μ, S, E, r, trivial⟩
/-- a value that may be kept -/
theorem dx_b (h : PE X e (tOf K f)) : PE X e (tOf K (fB f)) := by
  refine pe_weak h ?_
  rintro σ H Q ⟨μ, st, ρ, a, st', S, E, h, q⟩
  unfold fB at h
  split at h
  · rename_i a1 st1 h1
    refine ⟨μ, st, ρ, a1, st1, S, E, h1, fun v μ1 H1 S1 E1 r1 f1 => ?_⟩
    obtain ⟨μ2, S2, E2, r2, n2⟩ := Post.locd S1 E1 r1 f1 h
    exact q v μ2 H1 S2 E2 r2 (.of n2)
  · cases h
/-- the nt part of it -/
theorem dx_bn (h : PE X e (tOf K f)) : PE X e (tBn K f) := by
  refine pe_weak h ?_
  rintro σ H Q ⟨μ, st, ρ, a, st', S, E, h, q⟩
  unfold fB at h
  split at h
  · rename_i a1 st1 h1
    refine ⟨μ, st, ρ, a1, st1, S, E, h1, fun v μ1 H1 S1 E1 r1 f1 => ?_⟩
    obtain ⟨μ2, S2, E2, r2, n2⟩ := Post.locd S1 E1 r1 f1 h
    exact q v μ2 H1 S2 E2 ⟨n2, r2⟩
  · cases h
theorem RN.ext {μ μ' : Nat → Addr} {st : Sto} {H H' : Hp} {n' : Nat} {a : A} {v : V} (h : RN K μ st.length H a v) (S : RS K μ st H) (E : Ext μ st.length H μ' n' H') : RN K μ' n' H' a v := ⟨h.1, h.2.ext S E⟩
theorem pdR.ext {μ μ' : Nat → Addr} {st : Sto} {H H' : Hp} {n' : Nat} {as : List A} {vs : List V} (h : Paired (Rep K μ st.length H) as vs) (S : RS K μ st H) (E : Ext μ st.length H μ' n' H') : Paired (Rep K μ' n' H') as vs := h.mono fun _ _ r => r.ext S E
theorem pdN.ext {μ μ' : Nat → Addr} {st : Sto} {H H' : Hp} {n' : Nat} {as : List A} {vs : List V} (h : Paired (RN K μ st.length H) as vs) (S : RS K μ st H) (E : Ext μ st.length H μ' n' H') : Paired (RN K μ' n' H') as vs := h.mono fun _ _ r => r.ext S E
/-! arguments -/
theorem da_nil : PA X [] (aOf K aN) := by
  refine pa_weak pa_nil ?_
  rintro σ H Q ⟨μ, st, ρ, a, st', S, E, h, q⟩
  cases h
  exact q [] μ H S Ext.refl .nil
theorem da_cons (he : PE X e (tOf K f)) (hr : PA X es (aOf K g)) (hs : starEach (e :: es) X.env = (false, eval e X.env) :: starEach es X.env := by rfl) : PA X (e :: es) (aOf K (aC f g)) := by
  refine pa_weak (pa_cons he hr hs) ?_
  rintro σ H Q ⟨μ, st, ρ, a, st', S, E, h, q⟩
  unfold aC at h
  split at h
  · rename_i a1 st1 h1
    split at h
    · rename_i as st2 h2
      cases h
      refine ⟨μ, st, ρ, a1, st1, S, E, h1, fun v μ1 H1 S1 E1 r1 f1 => ?_⟩
      refine ⟨μ1, st1, ρ, as, st', S1, E.ext S E1, h2, fun vs μ2 H2 S2 E2 r2 => ?_⟩
      exact q (v :: vs) μ2 H2 S2 (E1.trans E2) (.cons (r1.ext S1 E2) r2)
    · cases h
  · cases h
theorem db_nil : PA X [] (bOf K aN) := by
  refine pa_weak pa_nil ?_
  rintro σ H Q ⟨μ, st, ρ, a, st', S, E, h, q⟩
  cases h
  exact q [] μ H S Ext.refl .nil
theorem db_cons (he : PE X e (tOf K f)) (hr : PA X es (bOf K g)) (hs : starEach (e :: es) X.env = (false, eval e X.env) :: starEach es X.env := by rfl) : PA X (e :: es) (bOf K (aC (fB f) g)) := by
  refine pa_weak (pa_cons (dx_bn he) hr hs) ?_
  rintro σ H Q ⟨μ, st, ρ, a, st', S, E, h, q⟩
  unfold aC at h
  split at h
  · rename_i a1 st1 h1
    split at h
    · rename_i as st2 h2
      cases h
      refine ⟨μ, st, ρ, a1, st1, S, E, h1, fun v μ1 H1 S1 E1 r1 => ?_⟩
      refine ⟨μ1, st1, ρ, as, st', S1, E.ext S E1, h2, fun vs μ2 H2 S2 E2 r2 => ?_⟩
      exact q (v :: vs) μ2 H2 S2 (E1.trans E2) (.cons (r1.ext S1 E2) r2)
    · cases h
  · cases h
/-! operators and calls, by values -/
def Op2 (K : PySem.W.Frag) (r : R2) (g : F2) : Prop := ∀ {μ st H a b c st' v u Q}, RS K μ st H → Rep K μ st.length H a v → Rep K μ st.length H b u → g a b st = .ok c st' → Post K μ st.length H c st' Q → r v u H Q
def OpN (K : PySem.W.Frag) (r : List V → Hp → VK → Prop) (g : FN) : Prop := ∀ {μ st H as c st' vs Q}, RS K μ st H → Paired (Rep K μ st.length H) as vs → g as st = .ok c st' → Post K μ st.length H c st' Q → r vs H Q
theorem w_op {r : R2} {gg : F2} (hg : Op2 K r gg) {σ : L2.St} {H : Hp} {Q : VK} (h : tOf K (f2 gg fa fb) σ H Q) : tOp r (tOf K fa) (tOf K fb) σ H Q := by
  obtain ⟨μ, st, ρ, a, st', S, E, h, q⟩ := h
  unfold f2 at h
  split at h
  · rename_i a1 st1 h1
    split at h
    · rename_i b1 st2 h2
      refine ⟨μ, st, ρ, a1, st1, S, E, h1, fun v μ1 H1 S1 E1 r1 _ => ?_⟩
      refine ⟨μ1, st1, ρ, b1, st2, S1, E.ext S E1, h2, fun u μ2 H2 S2 E2 r2 _ => ?_⟩
      exact hg S2 (r1.ext S1 E2) r2 h (q.from (E1.trans E2))
    · cases h
  · cases h
theorem dx_op {op : Operator} {r : R2} {gg : F2} (ho : OpR X (binaryOp op) r) (hg : Op2 K r gg) (ha : PE X a (tOf K fa)) (hb : PE X b (tOf K fb)) : PE X (.BinOp a op b pos) (tOf K (f2 gg fa fb)) :=
  pe_weak (pe_op ho ha hb) fun _ _ _ h => w_op hg h
theorem dx_cmp {op : CmpOp} {r : R2} {gg : F2} (ho : OpR X (compareOp op) r) (hg : Op2 K r gg) (ha : PE X a (tOf K fa)) (hb : PE X b (tOf K fb)) (hm : behindInMarks op b = false) : PE X (.Compare a [op] [b] pos) (tOf K (f2 gg fa fb)) :=
  pe_weak (pe_cmpR ho ha hb hm) fun _ _ _ h => w_op hg h
theorem dx_ix {r : R2} {gg : F2} (hr : IxR X r) (hg : Op2 K r gg) (ha : PE X a (tOf K fa)) (hb : PE X b (tOf K fb)) (hs : PlainIx b) : PE X (.Subscript a b pos) (tOf K (f2 gg fa fb)) :=
  pe_weak (pe_ix hr ha hb hs) fun _ _ _ h => w_op hg h
theorem w_call {r : List V → Hp → VK → Prop} {gg : FN} (hg : OpN K r gg) {σ : L2.St} {H : Hp} {Q : VK} (h : tOf K (fN gg g) σ H Q) : tCB r (aOf K g) σ H Q := by
  obtain ⟨μ, st, ρ, a, st', S, E, h, q⟩ := h
  unfold fN at h
  split at h
  · rename_i as st1 h1
    exact ⟨μ, st, ρ, as, st1, S, E, h1, fun vs μ1 H1 S1 E1 r1 => hg S1 r1 h (q.from E1)⟩
  · cases h
theorem dx_callB {x : Str} {id : String} {p : Pos} {r : List V → Hp → VK → Prop} {gg : FN} (hc : CallR X (.builtin id) r) (hg : OpN K r gg) (ha : PA X (e :: es) (aOf K g)) (hm : X.mg x = none) (hv : bootBuiltins x = some (.builtin id)) (hgl : Gl X x := by rfl) (hn : x ≠ "__name__" := by decide) (hdb : (x == ("__debug__" : Str)) = false := by decide)
    (he : starEach (e :: es) X.env = (false, eval e X.env) :: starEach es X.env := by rfl) (hpl : (backTo pos (starEach es X.env)).any (·.1) = false := by rfl) : PE X (.Call (.Name x p) (e :: es) [] pos) (tOf K (fN gg g)) :=
  pe_weak (pe_callB hc hgl hm hv ha hn hdb he hpl) fun _ _ _ h => w_call hg h
theorem dx_callTy {x : Str} {T : String} {p : Pos} {r : List V → Hp → VK → Prop} {gg : FN} (hc : CallR X (.type T) r) (hg : OpN K r gg) (ha : PA X (e :: es) (aOf K g)) (hm : X.mg x = none) (hv : bootBuiltins x = some (.type T)) (hgl : Gl X x := by rfl) (hn : x ≠ "__name__" := by decide) (hdb : (x == ("__debug__" : Str)) = false := by decide)
    (he : starEach (e :: es) X.env = (false, eval e X.env) :: starEach es X.env := by rfl) (hpl : (backTo pos (starEach es X.env)).any (·.1) = false := by rfl) : PE X (.Call (.Name x p) (e :: es) [] pos) (tOf K (fN gg g)) :=
  pe_weak (pe_callTy hc hgl hm hv ha hn hdb he hpl) fun _ _ _ h => w_call hg h
/-- an own def's promise -/
def spOf (K : PySem.W.Frag) (c : FN) : Sp := fun vs H Q _ => ∃ μ st as a st', RS K μ st H ∧ Paired (RN K μ st.length H) as vs ∧ c as st = .ok a st' ∧ Post K μ st.length H a st' Q
theorem dx_call {x : Str} {p : Pos} {k : Nat} {ps : List Str} {c : FN} (C : Cal X.prog X.w X.K X.mg X.base k x ps (spOf K c)) (still : Still X.A) (hr : Room k X.A) (ha : PA X (e :: es) (bOf K g)) (hg : Gl X x := by rfl) (hdb : (x == ("__debug__" : Str)) = false := by decide)
    (he : starEach (e :: es) X.env = (false, eval e X.env) :: starEach es X.env := by rfl) (hpl : (backTo pos (starEach es X.env)).any (·.1) = false := by rfl) : PE X (.Call (.Name x p) (e :: es) [] pos) (tOf K (fN c g)) := by
  refine pe_weak (pe_cal C still hr ha hg hdb he hpl) ?_
  rintro σ H Q ⟨μ, st, ρ, a, st', S, E, h, q⟩
  unfold fN at h
  split at h
  · rename_i as st1 h1
    refine ⟨μ, st, ρ, as, st1, S, E, h1, fun vs μ1 H1 S1 E1 r1 => ?_⟩
    show spOf K c (vs ++ []) H1 Q E0
    rw [List.append_nil]
    exact ⟨μ1, st1, as, a, st', S1, r1, h, q.from E1⟩
  · cases h
end
end Ev
namespace Ev
open PySem PySem.Spec PyProof.Rows L2 Gd
/-! ### tests -/
def uNot (f : FT) : FT := fun ρ st => match f ρ st with
  | .ok b st1 => .ok (!b) st1
  | .no => .no
def uAnd (f g : FT) : FT := fun ρ st => match f ρ st with
  | .ok true st1 => g ρ st1
  | .ok false st1 => .ok false st1
  | .no => .no
def uOr (f g : FT) : FT := fun ρ st => match f ρ st with
  | .ok true st1 => .ok true st1
  | .ok false st1 => g ρ st1
  | .no => .no
def uB (f : FE) : FT := fun ρ st => match f ρ st with
  | .ok (.bl b) st1 => .ok b st1
  | _ => .no
/-- a value's truth -/
def tru (a : A) (st : Sto) : Option Bool := match a with
  | .non => some false
  | .bl b => some b
  | .int i => some (i != 0)
  | .str y => if y.length ≤ sizeLine then some ((y.length : Int) != 0) else none
  | .tup xs => some (!xs.isEmpty)
  | .pr _ _ => some true
  | .tmp xs => some (!xs.isEmpty)
  | .frz xs => some (!xs.isEmpty)
  | .dtm xs => some (!xs.isEmpty)
  | .loc l => match st[l]? with
    | some (.lst xs) => some (!xs.isEmpty)
    | some (.dic xs) => some (!xs.isEmpty)
    | none => none
def uT (f : FE) : FT := fun ρ st => match f ρ st with
  | .ok a st1 => (match tru a st1 with
    | some b => .ok b st1
    | none => .no)
  | .no => .no
def fIf (c : FT) (f g : FE) : FE := fun ρ st => match c ρ st with
  | .ok true st1 => f ρ st1
  | .ok false st1 => g ρ st1
  | .no => .no
/-- and, or of truth values, as a value -/
def fAnd (f g : FE) : FE := fun ρ st => match f ρ st with
  | .ok (.bl true) st1 => g ρ st1
  | .ok (.bl false) st1 => .ok (.bl false) st1
  | _ => .no
def fOr (f g : FE) : FE := fun ρ st => match f ρ st with
  | .ok (.bl true) st1 => .ok (.bl true) st1
  | .ok (.bl false) st1 => g ρ st1
  | _ => .no
def fNot (f : FE) : FE := fun ρ st => match f ρ st with
  | .ok (.bl b) st1 => .ok (.bl (!b)) st1
  | _ => .no
section
variable {X : Cx} {K : PySem.W.Frag} {e a b c : Expr} {es rest : List Expr} {fa fb f : FE} {u v : FT} {pos : Pos}
theorem tru_v {μ : Nat → Addr} {st : Sto} {H : Hp} {a : A} {x : V} {k : Bool} (S : RS K μ st H) (r : Rep K μ st.length H a x) (h : tru a st = some k) : TruV K x H k := by
  have em : ∀ {xs : List A} {vs : List V}, RepL K μ st.length H xs vs → (!xs.isEmpty) = !vs.isEmpty := fun h => by cases repL_iff.mp h <;> rfl
  have emD : ∀ {xs : List (Key × A)} {vs : List (Key × V)}, RepD K μ st.length H xs vs → (!xs.isEmpty) = !vs.isEmpty := fun h => by cases repD_iff.mp h <;> rfl
  cases a with
  | non => cases (show x = .non from r); cases h; rfl
  | bl b => cases (show x = .bl b from r); cases h; rfl
  | int b => cases (show x = .int b from r); cases h; rfl
  | str y =>
    cases (show x = .str y from r)
    unfold tru at h
    by_cases hy : y.length ≤ sizeLine
    · simp only [hy, if_true] at h
      cases h
      exact ⟨hy, rfl⟩
    · simp only [hy, if_false] at h
      cases h
  | tup xs =>
    obtain ⟨p, vs, rfl, h1, h2⟩ := r
    cases h
    exact .inr (.inl ⟨vs, h1.sq, em h2⟩)
  | pr a b =>
    obtain ⟨p, x, y, rfl, h1, _⟩ := r
    cases h
    exact .inr (.inl ⟨_, .inl (.inl h1), rfl⟩)
  | tmp xs =>
    obtain ⟨p, vs, rfl, h1, _, h2⟩ := r
    cases h
    exact .inl ⟨vs, .inl (.inl h1), em h2⟩
  | frz xs =>
    obtain ⟨p, vs, rfl, h1, h2⟩ := r
    cases h
    refine .inl ⟨vs, ?_, em h2⟩
    rcases h1 with ⟨o, h1⟩ | h1
    · exact .inl (.inr ⟨o, h1⟩)
    · exact .inr h1
  | dtm xs =>
    obtain ⟨p, vs, rfl, h1, _, h2⟩ := r
    cases h
    exact .inr (.inr ⟨vs, h1, emD h2⟩)
  | loc l =>
    obtain ⟨h1, rfl⟩ := r
    unfold tru at h
    simp only at h
    have z := S.at_ l st[l] (List.getElem?_eq_getElem h1)
    rw [List.getElem?_eq_getElem h1] at h
    generalize st[l] = o at h z
    cases o with
    | lst xs =>
      cases h
      obtain ⟨vs, h2, h3⟩ := z
      exact .inl ⟨vs, .inl (.inl h2), em h3⟩
    | dic xs =>
      cases h
      obtain ⟨vs, h2, h3⟩ := z
      exact .inr (.inr ⟨vs, h2, emD h3⟩)
theorem dt_truth (hK : X.K = K) (h : PE X e (tOf K f)) (he : ∀ whole, isTrue e X.env whole = (do let v ← whole; standAt e.pos; holding [v] (truthy v)) := by intro _; rfl) : PT X e (uOf K (uT f)) := by
  refine pt_weak (pt_truth h he) ?_
  rintro σ H Q ⟨μ, st, ρ, b, st', S, E, h, q⟩
  unfold uT at h
  split at h
  · rename_i a1 st1 h1
    split at h
    · rename_i k h2
      cases h
      refine ⟨μ, st, ρ, a1, st', S, E, h1, fun v μ1 H1 S1 E1 r1 f1 => ⟨b, ?_, q μ1 H1 S1 E1⟩⟩
      rw [hK]
      exact tru_v S1 r1 h2
    · cases h
  · cases h
theorem w_bool {σ : L2.St} {H : Hp} {Q : Bool → Hp → Prop} (h : uOf K (uB f) σ H Q) : tOf K f σ H fun x H' => ∃ k, x = .bl k ∧ Q k H' := by
  obtain ⟨μ, st, ρ, b, st', S, E, h, q⟩ := h
  unfold uB at h
  split at h
  · rename_i b1 st1 h1
    cases h
    exact ⟨μ, st, ρ, _, _, S, E, h1, fun v μ1 H1 S1 E1 r1 f1 => ⟨_, r1, q μ1 H1 S1 E1⟩⟩
  · cases h
theorem dt_cmp {op : CmpOp} {r : R2} {gg : F2} (ho : OpR X (compareOp op) r) (hg : Op2 K r gg) (ha : PE X a (tOf K fa)) (hb : PE X b (tOf K fb)) (hm : behindInMarks op b = false) : PT X (.Compare a [op] [b] pos) (uOf K (uB (f2 gg fa fb))) := by
  refine pt_weak (pt_cmpR ho ha hb hm) fun σ H Q h => ?_
  exact w_op hg (w_bool h)
theorem dt_not (h : PT X a (uOf K u)) : PT X (.UnaryOp .Not a pos) (uOf K (uNot u)) := by
  refine pt_weak (pt_not h) ?_
  rintro σ H Q ⟨μ, st, ρ, b, st', S, E, h, q⟩
  unfold uNot at h
  split at h
  · rename_i b1 st1 h1
    cases h
    exact ⟨μ, st, ρ, _, _, S, E, h1, fun μ1 H1 S1 E1 => q μ1 H1 S1 E1⟩
  · cases h
theorem w_and {σ : L2.St} {H : Hp} {Q : Bool → Hp → Prop} (h : uOf K (uAnd u v) σ H Q) : tAnd (uOf K u) (uOf K v) σ H Q := by
  obtain ⟨μ, st, ρ, b, st', S, E, h, q⟩ := h
  unfold uAnd at h
  split at h
  · rename_i st1 h1
    exact ⟨μ, st, ρ, _, _, S, E, h1, fun μ1 H1 S1 E1 => iteT ⟨μ1, _, ρ, b, st', S1, E.ext S E1, h, fun μ2 H2 S2 E2 => q μ2 H2 S2 (E1.trans E2)⟩⟩
  · rename_i st1 h1
    cases h
    exact ⟨μ, st, ρ, _, _, S, E, h1, fun μ1 H1 S1 E1 => iteF (q μ1 H1 S1 E1)⟩
  · cases h
theorem w_or {σ : L2.St} {H : Hp} {Q : Bool → Hp → Prop} (h : uOf K (uOr u v) σ H Q) : tOr (uOf K u) (uOf K v) σ H Q := by
  obtain ⟨μ, st, ρ, b, st', S, E, h, q⟩ := h
  unfold uOr at h
  split at h
  · rename_i st1 h1
    cases h
    exact ⟨μ, st, ρ, _, _, S, E, h1, fun μ1 H1 S1 E1 => iteT (q μ1 H1 S1 E1)⟩
  · rename_i st1 h1
    exact ⟨μ, st, ρ, _, _, S, E, h1, fun μ1 H1 S1 E1 => iteF ⟨μ1, _, ρ, b, st', S1, E.ext S E1, h, fun μ2 H2 S2 E2 => q μ2 H2 S2 (E1.trans E2)⟩⟩
  · cases h
theorem dw_and1 (h : PT X a (uOf K u)) : PW X (.BoolOp .And [a] pos) (uOf K u) := pw_and1 h
theorem dw_or1 (h : PT X a (uOf K u)) : PW X (.BoolOp .Or [a] pos) (uOf K u) := pw_or1 h
theorem dw_and (h : PT X a (uOf K u)) (h2 : PW X (.BoolOp .And (b :: rest) pos) (uOf K v)) : PW X (.BoolOp .And (a :: b :: rest) pos) (uOf K (uAnd u v)) := pw_weak (pw_and h h2) fun _ _ _ h => w_and h
theorem dw_or (h : PT X a (uOf K u)) (h2 : PW X (.BoolOp .Or (b :: rest) pos) (uOf K v)) : PW X (.BoolOp .Or (a :: b :: rest) pos) (uOf K (uOr u v)) := pw_weak (pw_or h h2) fun _ _ _ h => w_or h
theorem dx_ifExp (h : PT X c (uOf K u)) (ha : PE X a (tOf K fa)) (hb : PE X b (tOf K fb)) : PE X (.IfExp c a b pos) (tOf K (fIf u fa fb)) := by
  refine pe_weak (pe_ifExp h ha hb) ?_
  rintro σ H Q ⟨μ, st, ρ, b, st', S, E, h, q⟩
  unfold fIf at h
  split at h
  · rename_i st1 h1
    exact ⟨μ, st, ρ, _, _, S, E, h1, fun μ1 H1 S1 E1 => iteT ⟨μ1, _, ρ, b, st', S1, E.ext S E1, h, q.from E1⟩⟩
  · rename_i st1 h1
    exact ⟨μ, st, ρ, _, _, S, E, h1, fun μ1 H1 S1 E1 => iteF ⟨μ1, _, ρ, b, st', S1, E.ext S E1, h, q.from E1⟩⟩
  · cases h
theorem dx_and (ha : PE X a (tOf K fa)) (hb : PE X (.BoolOp .And (b :: rest) pos) (tOf K fb)) : PE X (.BoolOp .And (a :: b :: rest) pos) (tOf K (fAnd fa fb)) := by
  refine pe_weak (pe_and ha hb) ?_
  rintro σ H Q ⟨μ, st, ρ, z, st', S, E, h, q⟩
  unfold fAnd at h
  split at h
  · rename_i st1 h1
    exact ⟨μ, st, ρ, _, _, S, E, h1, fun x μ1 H1 S1 E1 r1 f1 => ⟨_, r1, iteT ⟨μ1, _, ρ, z, st', S1, E.ext S E1, h, q.from E1⟩⟩⟩
  · rename_i st1 h1
    cases h
    exact ⟨μ, st, ρ, _, _, S, E, h1, fun x μ1 H1 S1 E1 r1 f1 => ⟨_, r1, iteF (q _ μ1 H1 S1 E1 rfl (.of trivial))⟩⟩
  · cases h
theorem dx_or (ha : PE X a (tOf K fa)) (hb : PE X (.BoolOp .Or (b :: rest) pos) (tOf K fb)) : PE X (.BoolOp .Or (a :: b :: rest) pos) (tOf K (fOr fa fb)) := by
  refine pe_weak (pe_or ha hb) ?_
  rintro σ H Q ⟨μ, st, ρ, z, st', S, E, h, q⟩
  unfold fOr at h
  split at h
  · rename_i st1 h1
    cases h
    exact ⟨μ, st, ρ, _, _, S, E, h1, fun x μ1 H1 S1 E1 r1 f1 => ⟨_, r1, iteT (q _ μ1 H1 S1 E1 rfl (.of trivial))⟩⟩
  · rename_i st1 h1
    exact ⟨μ, st, ρ, _, _, S, E, h1, fun x μ1 H1 S1 E1 r1 f1 => ⟨_, r1, iteF ⟨μ1, _, ρ, z, st', S1, E.ext S E1, h, q.from E1⟩⟩⟩
  · cases h
theorem dx_not (ha : PE X a (tOf K fa)) : PE X (.UnaryOp .Not a pos) (tOf K (fNot fa)) := by
  refine pe_weak (pe_not ha) ?_
  rintro σ H Q ⟨μ, st, ρ, z, st', S, E, h, q⟩
  unfold fNot at h
  split at h
  · rename_i b1 st1 h1
    cases h
    exact ⟨μ, st, ρ, _, _, S, E, h1, fun x μ1 H1 S1 E1 r1 f1 => ⟨_, r1, q _ μ1 H1 S1 E1 rfl (.of trivial)⟩⟩
  · cases h
/-! displays -/
def mkTup (as : List A) (st : Sto) : R A := if as.length ≤ sizeLine then .ok (.tup as) st else .no
def mkLst (as : List A) (st : Sto) : R A := if as.length ≤ sizeLine then .ok (.tmp as) st else .no
theorem dx_tup {x1} {g : FA} (h : PA X es (bOf K g)) : PE X (.Tuple es x1 pos) (tOf K (fN mkTup g)) := by
  refine pe_weak (pe_tupX h) ?_
  rintro σ H Q ⟨μ, st, ρ, z, st', S, E, h, q⟩
  unfold fN at h
  split at h
  · rename_i as st1 h1
    unfold mkTup at h
    split at h
    · rename_i hl
      cases h
      exact ⟨μ, st, ρ, as, st', S, E, h1, fun vs μ1 H1 S1 E1 r1 => ⟨by rw [← r1.length]; exact hl, (q.from E1).tup S1 (repL_iff.mpr r1)⟩⟩
    · cases h
  · cases h
theorem dx_lst {g : FA} (h : PA X es (bOf K g)) : PE X (.List es pos) (tOf K (fN mkLst g)) := by
  refine pe_weak (pe_lst h) ?_
  rintro σ H Q ⟨μ, st, ρ, z, st', S, E, h, q⟩
  unfold fN at h
  split at h
  · rename_i as st1 h1
    unfold mkLst at h
    split at h
    · rename_i hl
      cases h
      exact ⟨μ, st, ρ, as, st', S, E, h1, fun vs μ1 H1 S1 E1 r1 => ⟨by rw [← r1.length]; exact hl, fun p hp => (q.from E1).tmp S1 hp (repL_iff.mpr r1)⟩⟩
    · cases h
  · cases h
end
end Ev
namespace Ev
open PySem PySem.Spec PyProof.Rows L2 Gd
/-! ### statements -/
inductive SR where
  | nx (ρ : Rho) (st : Sto) | rt (a : A) (st : Sto) | bk (ρ : Rho) (st : Sto) | ct (ρ : Rho) (st : Sto) | no
abbrev FS := Rho → Sto → SR
abbrev FG := A → Rho → Sto → R Rho
abbrev FGs := List A → Rho → Sto → R Rho
def Reach (K : PySem.W.Frag) (μ : Nat → Addr) (n : Nat) (H : Hp) (ρ' : Rho) (st' : Sto) (Q : L2.St → Hp → Prop) : Prop :=
  ∀ σ' μ' H', RS K μ' st' H' → RE K μ' st'.length H' σ' ρ' → Ext μ n H μ' st'.length H' → Q σ' H'
def SPost (K : PySem.W.Frag) (μ : Nat → Addr) (n : Nat) (H : Hp) (D : Ends) : SR → Prop
  | .nx ρ' st' => Reach K μ n H ρ' st' D.nx
  | .rt a st' => Post K μ n H a st' D.rt
  | .bk ρ' st' => Reach K μ n H ρ' st' D.bk
  | .ct ρ' st' => Reach K μ n H ρ' st' D.ct
  | .no => False
def sOf (K : PySem.W.Frag) (g : FS) : TS := fun D σ H => ∃ μ st ρ, RS K μ st H ∧ RE K μ st.length H σ ρ ∧ SPost K μ st.length H D (g ρ st)
def gOf (K : PySem.W.Frag) (g : FG) : TG := fun v σ H Q => ∃ μ st ρ a ρ' st', RS K μ st H ∧ RE K μ st.length H σ ρ ∧ RN K μ st.length H a v ∧ g a ρ st = .ok ρ' st' ∧ Reach K μ st.length H ρ' st' Q
def gsOf (K : PySem.W.Frag) (g : FGs) : TGs := fun vs σ H Q => ∃ μ st ρ as ρ' st', RS K μ st H ∧ RE K μ st.length H σ ρ ∧ Paired (RN K μ st.length H) as vs ∧ g as ρ st = .ok ρ' st' ∧ Reach K μ st.length H ρ' st' Q
section
variable {K : PySem.W.Frag} {μ μ' : Nat → Addr} {n n' : Nat} {H H' : Hp} {D : Ends} {r : SR} {ρ : Rho} {st : Sto} {Q : L2.St → Hp → Prop}
theorem Reach.from (h : Reach K μ n H ρ st Q) (E : Ext μ n H μ' n' H') : Reach K μ' n' H' ρ st Q := fun σ μ2 H2 S2 R2 E2 => h σ μ2 H2 S2 R2 (E.trans E2)
theorem Reach.ok {σ : L2.St} (h : Reach K μ st.length H ρ st Q) (S : RS K μ st H) (R : RE K μ st.length H σ ρ) : Q σ H := h σ μ H S R Ext.refl
theorem SPost.from (h : SPost K μ n H D r) (E : Ext μ n H μ' n' H') : SPost K μ' n' H' D r := by
  cases r with
  | nx ρ st => exact Reach.from h E
  | rt a st => exact Post.from h E
  | bk ρ st => exact Reach.from h E
  | ct ρ st => exact Reach.from h E
  | no => exact h
end
def sSeq (g h : FS) : FS := fun ρ st => match g ρ st with
  | .nx ρ' st' => h ρ' st'
  | .rt a st' => .rt a st'
  | .bk ρ' st' => .bk ρ' st'
  | .ct ρ' st' => .ct ρ' st'
  | .no => .no
def sNil : FS := fun ρ st => .nx ρ st
def sBrk : FS := fun ρ st => .bk ρ st
def sCnt : FS := fun ρ st => .ct ρ st
def sExp (f : FE) : FS := fun ρ st => match f ρ st with
  | .ok _ st1 => .nx ρ st1
  | .no => .no
def sRet (f : FE) : FS := fun ρ st => match f ρ st with
  | .ok a st1 => .rt a st1
  | .no => .no
def sIf (u : FT) (g h : FS) : FS := fun ρ st => match u ρ st with
  | .ok true st1 => g ρ st1
  | .ok false st1 => h ρ st1
  | .no => .no
def gSet (i : Nat) : FG := fun a ρ st => .ok (ρ.set i (some a)) st
def gN : FGs := fun as ρ st => match as with
  | [] => .ok ρ st
  | _ :: _ => .no
def gC (g : FG) (gs : FGs) : FGs := fun as ρ st => match as with
  | [] => .no
  | a :: r => (match g a ρ st with
    | .ok ρ1 st1 => gs r ρ1 st1
    | .no => .no)
def gTupF (n : Nat) (gs : FGs) : FG := fun a ρ st => match a with
  | .tup xs => if xs.length = n then gs xs ρ st else .no
  | .pr a b => if 2 = n then gs [a, b] ρ st else .no
  | _ => .no
def sAsg (f : FE) (g : FG) : FS := fun ρ st => match fB f ρ st with
  | .ok a st1 => (match g a ρ st1 with
    | .ok ρ2 st2 => .nx ρ2 st2
    | .no => .no)
  | .no => .no
def sPar (i j : Nat) (g : FA) : FS := fun ρ st => match g ρ st with
  | .ok [a, b] st1 => .nx ((ρ.set i (some a)).set j (some b)) st1
  | _ => .no
section
variable {X : Cx} {K : PySem.W.Frag} {e a b c : Expr} {es : List Expr} {s : Stmt} {ss : List Stmt} {f : FE} {u : FT} {g h : FS} {pos : Pos} {gg : FG} {gs : FGs}
theorem dss_nil : PSs X [] (sOf K sNil) := pss_weak pss_nil fun D σ H ⟨μ, st, ρ, S, E, q⟩ => Reach.ok q S E
theorem dss_cons (h1 : PS X s (sOf K g)) (h2 : PSs X ss (sOf K h)) : PSs X (s :: ss) (sOf K (sSeq g h)) := by
  refine pss_weak (pss_cons h1 h2) ?_
  rintro D σ H ⟨μ, st, ρ, S, E, q⟩
  refine ⟨μ, st, ρ, S, E, ?_⟩
  unfold sSeq at q
  generalize g ρ st = r at q
  cases r with
  | nx ρ1 st1 => exact fun σ1 μ1 H1 S1 R1 E1 => ⟨μ1, st1, ρ1, S1, R1, SPost.from q E1⟩
  | rt a st => exact q
  | bk ρ st => exact q
  | ct ρ st => exact q
  | no => exact q
theorem dss_one (h1 : PS X s (sOf K g)) : PSs X [s] (sOf K g) := pss_one h1
theorem ds_pass : PS X (.Pass pos) (sOf K sNil) := ps_weak ps_pass fun D σ H ⟨μ, st, ρ, S, E, q⟩ => Reach.ok q S E
theorem ds_brk : PS X (.Break pos) (sOf K sBrk) := ps_weak ps_break fun D σ H ⟨μ, st, ρ, S, E, q⟩ => Reach.ok q S E
theorem ds_cnt : PS X (.Continue pos) (sOf K sCnt) := ps_weak ps_continue fun D σ H ⟨μ, st, ρ, S, E, q⟩ => Reach.ok q S E
theorem ds_exp (he : PE X e (tOf K f)) (hs : swapsWith e none pos.line X.env = pure false := by rfl) : PS X (.Expr e pos) (sOf K (sExp f)) := by
  refine ps_weak (ps_expr he hs) ?_
  rintro D σ H ⟨μ, st, ρ, S, E, q⟩
  unfold sExp at q
  split at q
  · rename_i a1 st1 h1
    exact ⟨μ, st, ρ, a1, st1, S, E, h1, fun v μ1 H1 S1 E1 r1 f1 => q σ μ1 H1 S1 (E.ext S E1) E1⟩
  · exact q.elim
theorem ds_ret (he : PE X e (tOf K f)) : PS X (.Return (some e) pos) (sOf K (sRet f)) := by
  refine ps_weak (ps_ret he) ?_
  rintro D σ H ⟨μ, st, ρ, S, E, q⟩
  unfold sRet at q
  split at q
  · rename_i a1 st1 h1
    exact ⟨μ, st, ρ, a1, st1, S, E, h1, q⟩
  · exact q.elim
def sRetN : FS := fun _ st => .rt .non st
theorem ds_retN : PS X (.Return none pos) (sOf K sRetN) := ps_weak ps_retN fun D σ H ⟨μ, st, ρ, S, E, q⟩ => Post.ok q S rfl trivial
theorem ds_if {as bs : List Stmt} (hc : PT X c (uOf K u)) (ha : PSs X as (sOf K g)) (hb : PSs X bs (sOf K h)) : PS X (.If c as bs pos) (sOf K (sIf u g h)) := by
  refine ps_weak (ps_if hc ha hb) ?_
  rintro D σ H ⟨μ, st, ρ, S, E, q⟩
  unfold sIf at q
  split at q
  · rename_i st1 h1
    exact ⟨μ, st, ρ, _, _, S, E, h1, fun μ1 H1 S1 E1 => iteT ⟨μ1, st1, ρ, S1, E.ext S E1, q.from E1⟩⟩
  · rename_i st1 h1
    exact ⟨μ, st, ρ, _, _, S, E, h1, fun μ1 H1 S1 E1 => iteF ⟨μ1, st1, ρ, S1, E.ext S E1, q.from E1⟩⟩
  · exact q.elim
theorem pg_weak {t t' : TG} (h : PG X e t) (w : ∀ v σ H Q, t' v σ H Q → t v σ H Q) : PG X e t' := ⟨fun pins s σ H v u Q I r q => h.run pins s σ H v u Q I r (w v σ H Q q)⟩
theorem pgs_weak {t t' : TGs} (h : PGs X es t) (w : ∀ v σ H Q, t' v σ H Q → t v σ H Q) : PGs X es t' := ⟨fun pins s σ H v u Q I r q => h.run pins s σ H v u Q I r (w v σ H Q q)⟩
theorem dg_name {i : Nat} {x : Str} (hN : X.N.Nodup) (hi : X.N[i]? = some x) (hx : Loc X.env.scope x) (hf : X.fn x = true ∨ X.env.scope.names.lookup x = some .local := by first | exact .inl rfl | exact .inr rfl | assumption) : PG X (.Name x pos) (gOf K (gSet i)) := by
  refine pg_weak (pg_name hN hi hx hf) ?_
  rintro v σ H Q ⟨μ, st, ρ, a, ρ', st', S, E, r, h, q⟩
  cases h
  exact q.ok S (E.set r.1 r.2)
theorem dgs_nil : PGs X [] (gsOf K gN) := by
  refine pgs_weak pgs_nil ?_
  rintro v σ H Q ⟨μ, st, ρ, as, ρ', st', S, E, r, h, q⟩
  cases r with
  | nil => cases h; exact ⟨rfl, q.ok S E⟩
  | cons _ _ => cases h
theorem dgs_cons (h1 : PG X e (gOf K gg)) (h2 : PGs X es (gsOf K gs)) (hs : (assignEach (e :: es) X.env).map (·.2) = assign e X.env :: (assignEach es X.env).map (·.2) := by rfl) : PGs X (e :: es) (gsOf K (gC gg gs)) := by
  refine pgs_weak (pgs_cons h1 h2 hs) ?_
  rintro vs σ H Q ⟨μ, st, ρ, as, ρ', st', S, E, r, h, q⟩
  cases r with
  | nil => cases h
  | cons r1 r2 =>
    rename_i a1 as1 v1 vs1
    unfold gC at h
    simp only at h
    split at h
    · rename_i ρ1 st1 h1
      refine ⟨_, _, rfl, μ, st, ρ, _, ρ1, st1, S, E, r1, h1, fun σ1 μ1 H1 S1 R1 E1 => ?_⟩
      exact ⟨μ1, st1, ρ1, _, ρ', st', S1, R1, r2.mono (fun _ _ z => RN.ext z S E1), h, q.from E1⟩
    · cases h
theorem dg_tup {k m : Nat} (hK : X.K = K) (hc : X.calm = true) (h : PGs X es (gsOf K gs)) (hn : (assignEach es X.env).length = m := by rfl) (hst : (assignEach es X.env).findIdx? (·.1) = none := by rfl) : PG X (.Tuple es k pos) (gOf K (gTupF m gs)) := by
  refine pg_weak (pg_tup hc h hn hst) ?_
  rintro v σ H Q ⟨μ, st, ρ, a, ρ', st', S, E, r, h, q⟩
  unfold gTupF at h
  split at h
  · rename_i xs
    split at h
    · rename_i hl
      obtain ⟨_, p, vs, rfl, h1, h2⟩ := r
      have h2 := repL_iff.mp h2
      exact ⟨p, vs, rfl, hK ▸ h1.sq, by rw [← h2.length]; exact hl, μ, st, ρ, xs, ρ', st', S, E, h2, h, q⟩
    · cases h
  · rename_i a b
    split at h
    · rename_i hl
      obtain ⟨_, p, x, y, rfl, h1, h2, h3⟩ := r
      exact ⟨p, _, rfl, .inl (.inl h1), hl, μ, st, ρ, [a, b], ρ', st', S, E, .cons h2 (.cons h3 .nil), h, q⟩
    · cases h
  · cases h
theorem ds_asg {tg : Expr} (he : PE X e (tOf K f)) (hg : PG X tg (gOf K gg)) (hs : swapsWithSole [tg] e pos.line X.env = pure false := by rfl) (hw : swappedStores [tg] e X.env = pure none := by rfl)
    (h1 : (assignEach [tg] X.env).map (·.2) = [assign tg X.env] := by rfl) : PS X (.Assign [tg] e pos) (sOf K (sAsg f gg)) := by
  refine ps_weak (ps_asg (dx_bn he) hg hs hw h1) ?_
  rintro D σ H ⟨μ, st, ρ, S, E, q⟩
  unfold sAsg at q
  split at q
  · rename_i a1 st1 h1
    split at q
    · rename_i ρ2 st2 h2
      exact ⟨μ, st, ρ, a1, st1, S, E, h1, fun v μ1 H1 S1 E1 r1 => ⟨μ1, st1, ρ, a1, ρ2, st2, S1, E.ext S E1, r1, h2, Reach.from q E1⟩⟩
    · exact q.elim
  · exact q.elim
theorem ds_set {i : Nat} {x : Str} {pos' : Pos} (hN : X.N.Nodup) (hi : X.N[i]? = some x) (hx : Loc X.env.scope x) (he : PE X e (tOf K f)) (hs : swapsWith e (some (.Name x pos')) pos.line X.env = pure false := by rfl) (hf : X.fn x = true ∨ X.env.scope.names.lookup x = some .local := by first | exact .inl rfl | exact .inr rfl | assumption) :
    PS X (.Assign [.Name x pos'] e pos) (sOf K (sAsg f (gSet i))) := by
  refine ps_weak (ps_set hN hi hx (dx_bn he) hs hf) ?_
  rintro D σ H ⟨μ, st, ρ, S, E, q⟩
  unfold sAsg at q
  split at q
  · rename_i a1 st1 h1
    exact ⟨μ, st, ρ, a1, st1, S, E, h1, fun v μ1 H1 S1 E1 r1 => q _ μ1 H1 S1 ((E.ext S E1).set r1.1 r1.2) E1⟩
  · exact q.elim
theorem ds_par {i j : Nat} {x y : Str} {ga : FA} {px py pt : Pos} {kt k2 pt2} (hc : X.calm = true) (hN : X.N.Nodup) (hi : X.N[i]? = some x) (hj : X.N[j]? = some y) (hij : i ≠ j)
    (hx : X.env.scope.names.lookup x = some .local) (hy : X.env.scope.names.lookup y = some .local) (ha : PA X [a, b] (bOf K ga))
    (hw : swappedStores [.Tuple [.Name x px, .Name y py] kt pt] (.Tuple [a, b] k2 pt2) X.env = pure (some [x, y]))
    (hs : swapsWithSole [.Tuple [.Name x px, .Name y py] kt pt] (.Tuple [a, b] k2 pt2) pos.line X.env = pure false := by rfl) :
    PS X (.Assign [.Tuple [.Name x px, .Name y py] kt pt] (.Tuple [a, b] k2 pt2) pos) (sOf K (sPar i j ga)) := by
  refine ps_weak (ps_par hc hN hi hj hij hx hy ha hw hs) ?_
  rintro D σ H ⟨μ, st, ρ, S, E, q⟩
  unfold sPar at q
  split at q
  · rename_i a1 b1 st1 h1
    refine ⟨μ, st, ρ, [a1, b1], st1, S, E, h1, fun vs μ1 H1 S1 E1 r1 => ?_⟩
    cases r1 with
    | cons r1 r2 =>
      cases r2 with
      | cons r2 r3 =>
        cases r3
        exact ⟨_, _, rfl, q _ μ1 H1 S1 (((E.ext S E1).set r1.1 r1.2).set r2.1 r2.2) E1⟩
  · exact q.elim
end
/-! ### loops -/
open Classical in
noncomputable def loopF (body : FS) (g : FG) (G : Sto → Prop) : List A → FS
  | [], ρ, st => if G st then .nx ρ st else .no
  | x :: xs, ρ, st => if G st then (match g x ρ st with
    | .ok ρ1 st1 => (match body ρ1 st1 with
      | .nx ρ2 st2 => loopF body g G xs ρ2 st2
      | .ct ρ2 st2 => loopF body g G xs ρ2 st2
      | .bk ρ2 st2 => .nx ρ2 st2
      | .rt a st2 => .rt a st2
      | .no => .no)
    | .no => .no) else .no
abbrev FI := Rho → Sto → R (List A × (Sto → Prop))
def iOf (K : PySem.W.Frag) (f : FI) : TI := fun σ H Z => ∃ μ st ρ xs G st', RS K μ st H ∧ RE K μ st.length H σ ρ ∧ f ρ st = .ok (xs, G) st' ∧
  ∀ J μ' H' (GH : Hp → Prop) Y, RS K μ' st' H' → Ext μ st.length H μ' st'.length H' → Walk J xs.length GH Y →
    (∀ μ2 st2 H2, RS K μ2 st2 H2 → Ext μ' st'.length H' μ2 st2.length H2 → G st2 → GH H2) →
    (∀ i x H2 H3 μ2 st2 a, xs[i]? = some a → RS K μ2 st2 H2 → Ext μ' st'.length H' μ2 st2.length H2 → G st2 → Y i H2 x H3 → RS K μ2 st2 H3 ∧ Ext μ2 st2.length H2 μ2 st2.length H3 ∧ RN K μ2 st2.length H3 a x) →
    Z J H'
noncomputable def sFor (f : FI) (g : FG) (body : FS) : FS := fun ρ st => match f ρ st with
  | .ok (xs, G) st1 => loopF body g G xs ρ st1
  | .no => .no
def whileF (u : FT) (body : FS) : Nat → FS
  | 0, _, _ => .no
  | n + 1, ρ, st => (match u ρ st with
    | .ok true st1 => (match body ρ st1 with
      | .nx ρ2 st2 => whileF u body n ρ2 st2
      | .ct ρ2 st2 => whileF u body n ρ2 st2
      | .bk ρ2 st2 => .nx ρ2 st2
      | .rt a st2 => .rt a st2
      | .no => .no)
    | .ok false st1 => .nx ρ st1
    | .no => .no)
theorem whileF_mono (u : FT) (body : FS) : ∀ {n : Nat} {ρ : Rho} {st : Sto}, whileF u body n ρ st ≠ .no → ∀ m, n ≤ m → whileF u body m ρ st = whileF u body n ρ st
  | 0, _, _, h, _, _ => absurd rfl h
  | n + 1, ρ, st, h, 0, l => absurd l (by omega)
  | n + 1, ρ, st, h, m + 1, l => by
    unfold whileF at h ⊢
    split
    · rename_i st1 h1
      rw [h1] at h
      simp only at h
      split
      · rename_i ρ2 st2 h2
        rw [h2] at h
        exact whileF_mono u body h m (by omega)
      · rename_i ρ2 st2 h2
        rw [h2] at h
        exact whileF_mono u body h m (by omega)
      · rfl
      · rfl
      · rfl
    · rfl
    · rfl
open Classical in
noncomputable def sWhile (u : FT) (body : FS) : FS := fun ρ st => if h : ∃ n, whileF u body n ρ st ≠ .no then whileF u body (choose h) ρ st else .no
theorem sWhile_of {u : FT} {body : FS} {n : Nat} {ρ : Rho} {st : Sto} {r : SR} (h : whileF u body n ρ st = r) (hr : r ≠ .no) : sWhile u body ρ st = r := by
  have ex : ∃ n, whileF u body n ρ st ≠ .no := ⟨n, by rw [h]; exact hr⟩
  unfold sWhile
  rw [dif_pos ex]
  have h2 := Classical.choose_spec ex
  rcases Nat.le_total n (Classical.choose ex) with l | l
  · rw [whileF_mono u body (by rw [h]; exact hr) _ l, h]
  · rw [← whileF_mono u body h2 _ l, h]
/-- one turn -/
theorem sWhile_eq (u : FT) (body : FS) (ρ : Rho) (st : Sto) : sWhile u body ρ st = (match u ρ st with
    | .ok true st1 => (match body ρ st1 with
      | .nx ρ2 st2 => sWhile u body ρ2 st2
      | .ct ρ2 st2 => sWhile u body ρ2 st2
      | .bk ρ2 st2 => .nx ρ2 st2
      | .rt a st2 => .rt a st2
      | .no => .no)
    | .ok false st1 => .nx ρ st1
    | .no => .no) := by
  have one : ∀ n, whileF u body (n + 1) ρ st = (match u ρ st with
    | .ok true st1 => (match body ρ st1 with
      | .nx ρ2 st2 => whileF u body n ρ2 st2
      | .ct ρ2 st2 => whileF u body n ρ2 st2
      | .bk ρ2 st2 => .nx ρ2 st2
      | .rt a st2 => .rt a st2
      | .no => .no)
    | .ok false st1 => .nx ρ st1
    | .no => .no) := fun n => rfl
  have tail : ∀ (ρ2 : Rho) (st2 : Sto), (∀ n, whileF u body (n + 1) ρ st = whileF u body n ρ2 st2) → sWhile u body ρ st = sWhile u body ρ2 st2 := by
    intro ρ2 st2 h
    by_cases ex : ∃ n, whileF u body n ρ2 st2 ≠ .no
    · obtain ⟨n, hn⟩ := ex
      rw [sWhile_of rfl hn, ← h n]
      exact sWhile_of rfl (by rw [h n]; exact hn)
    · have ex' : ¬ ∃ n, whileF u body n ρ st ≠ .no := fun ⟨n, hn⟩ => by
        cases n with
        | zero => exact hn rfl
        | succ n => exact ex ⟨n, by rw [← h n]; exact hn⟩
      unfold sWhile
      rw [dif_neg ex, dif_neg ex']
  have stop : ∀ r : SR, (∀ n, whileF u body (n + 1) ρ st = r) → sWhile u body ρ st = r := by
    intro r h
    by_cases hr : r = .no
    · have ex' : ¬ ∃ n, whileF u body n ρ st ≠ .no := fun ⟨n, hn⟩ => by
        cases n with
        | zero => exact hn rfl
        | succ n => exact hn (by rw [h n, hr])
      unfold sWhile
      rw [dif_neg ex', hr]
    · exact sWhile_of (h 0) hr
  split
  · rename_i st1 h1
    simp only [h1] at one
    split
    · rename_i ρ2 st2 h2
      simp only [h2] at one
      exact tail _ _ one
    · rename_i ρ2 st2 h2
      simp only [h2] at one
      exact tail _ _ one
    · rename_i ρ2 st2 h2
      simp only [h2] at one
      exact stop _ one
    · rename_i ρ2 st2 h2
      simp only [h2] at one
      exact stop _ one
    · rename_i h2
      simp only [h2] at one
      exact stop _ one
  · rename_i st1 h1
    simp only [h1] at one
    exact stop _ one
  · rename_i h1
    simp only [h1] at one
    exact stop _ one
section
variable {X : Cx} {K : PySem.W.Frag} {e a b c tg iter : Expr} {es : List Expr} {body : List Stmt} {f : FE} {u : FT} {g h : FS} {pos : Pos} {gg : FG} {fi : FI}
theorem ds_for (hp : PassesOwn (model X.prog X.w) X.A X.env X.xe) (hc : X.calm = true) (hi : PI X tg iter (iOf K fi)) (hg : PG X tg (gOf K gg)) (hb : PSs X body (sOf K g))
    (hs : ∀ x, foldedSetIterable iter X.env x = pure x := by intro _; rfl) : PS X (.For tg iter body [] pos) (sOf K (sFor fi gg g)) := by
  refine ps_weak (ps_for hp hc hi hg hb hs) ?_
  rintro D σ H ⟨μ, st, ρ, S, E, q⟩
  unfold sFor at q
  split at q
  · rename_i xs G st1 h1
    refine ⟨μ, st, ρ, xs, G, st1, S, E, h1, fun J μ1 H1 GH Y S1 E1 w hG hY => ?_⟩
    refine for_it w (fun i σ2 H2 => ∃ μ2 st2 ρ2, RS K μ2 st2 H2 ∧ RE K μ2 st2.length H2 σ2 ρ2 ∧ Ext μ1 st1.length H1 μ2 st2.length H2 ∧ SPost K μ2 st2.length H2 D (loopF g gg G (xs.drop i) ρ2 st2))
      ⟨μ1, st1, ρ, S1, E.ext S E1, Ext.refl, SPost.from q E1⟩ ?_ ?_ ?_
    · rintro i σ2 H2 hi ⟨μ2, st2, ρ2, S2, R2, E2, q2⟩
      refine hG μ2 st2 H2 S2 E2 ?_
      cases hd : xs.drop i with
      | nil =>
        rw [hd] at q2
        unfold loopF at q2
        split at q2
        · assumption
        · exact q2.elim
      | cons x r =>
        rw [hd] at q2
        unfold loopF at q2
        split at q2
        · assumption
        · exact q2.elim
    · rintro i x σ2 H2 H3 hi ⟨μ2, st2, ρ2, S2, R2, E2, q2⟩ y
      rw [List.drop_eq_getElem_cons hi] at q2
      unfold loopF at q2
      split at q2
      · rename_i hGs
        obtain ⟨S3, E3, r3⟩ := hY i x H2 H3 μ2 st2 xs[i] (List.getElem?_eq_getElem hi) S2 E2 hGs y
        split at q2
        · rename_i ρ4 st4 h4
          refine ⟨μ2, st2, ρ2, xs[i], ρ4, st4, S3, R2.ext S2 E3, r3, h4, fun σ5 μ5 H5 S5 R5 E5 => ?_⟩
          refine ⟨μ5, st4, ρ4, S5, R5, ?_⟩
          have q5 := SPost.from q2 (E3.trans E5)
          split at q5
          · rename_i ρ6 st6 h6
            rw [h6]
            exact fun σ6 μ6 H6 S6 R6 E6 => ⟨μ6, st6, ρ6, S6, R6, ((E2.trans E3).trans E5).trans E6, SPost.from q5 E6⟩
          · rename_i ρ6 st6 h6
            rw [h6]
            exact fun σ6 μ6 H6 S6 R6 E6 => ⟨μ6, st6, ρ6, S6, R6, ((E2.trans E3).trans E5).trans E6, SPost.from q5 E6⟩
          · rename_i ρ6 st6 h6
            rw [h6]
            exact q5
          · rename_i a6 st6 h6
            rw [h6]
            exact q5
          · exact q5.elim
        · exact q2.elim
      · exact q2.elim
    · rintro σ2 H2 ⟨μ2, st2, ρ2, S2, R2, E2, q2⟩
      rw [List.drop_length] at q2
      unfold loopF at q2
      split at q2
      · exact Reach.ok q2 S2 R2
      · exact q2.elim
  · exact q.elim
theorem ds_while (hp : PassesOwn (model X.prog X.w) X.A X.env X.xe) (hc : PT X c (uOf K u)) (hb : PSs X body (sOf K g)) : PS X (.While c body [] pos) (sOf K (sWhile u g)) := by
  refine ps_weak (ps_while hp hc hb) ?_
  rintro D σ H ⟨μ, st, ρ, S, E, q⟩
  unfold sWhile at q
  split at q
  · rename_i ex
    generalize Classical.choose ex = n at q
    refine ⟨fun m σ2 H2 => ∃ μ2 st2 ρ2, RS K μ2 st2 H2 ∧ RE K μ2 st2.length H2 σ2 ρ2 ∧ SPost K μ2 st2.length H2 D (whileF u g m ρ2 st2), ⟨n, μ, st, ρ, S, E, q⟩, ?_⟩
    rintro m σ2 H2 ⟨μ2, st2, ρ2, S2, R2, q2⟩
    cases m with
    | zero => exact q2.elim
    | succ m =>
      unfold whileF at q2
      split at q2
      · rename_i st3 h3
        refine ⟨μ2, st2, ρ2, true, st3, S2, R2, h3, fun μ3 H3 S3 E3 => iteT ?_⟩
        refine ⟨fun σ4 H4 => ∃ μ4 st4 ρ4, RS K μ4 st4 H4 ∧ RE K μ4 st4.length H4 σ4 ρ4 ∧ SPost K μ4 st4.length H4 D (whileF u g m ρ4 st4), fun σ' H' w => ⟨m, Nat.lt_succ_self m, w⟩, ?_⟩
        refine ⟨μ3, st3, ρ2, S3, R2.ext S2 E3, ?_⟩
        have q5 := SPost.from q2 E3
        split at q5
        · rename_i ρ6 st6 h6
          rw [h6]
          exact fun σ6 μ6 H6 S6 R6 E6 => ⟨μ6, st6, ρ6, S6, R6, SPost.from q5 E6⟩
        · rename_i ρ6 st6 h6
          rw [h6]
          exact fun σ6 μ6 H6 S6 R6 E6 => ⟨μ6, st6, ρ6, S6, R6, SPost.from q5 E6⟩
        · rename_i ρ6 st6 h6
          rw [h6]
          exact q5
        · rename_i a6 st6 h6
          rw [h6]
          exact q5
        · exact q5.elim
      · rename_i st3 h3
        exact ⟨μ2, st2, ρ2, false, st3, S2, R2, h3, fun μ3 H3 S3 E3 => iteF (q2 σ2 μ3 H3 S3 (R2.ext S2 E3) E3)⟩
      · exact q2.elim
  · exact q.elim
end
end Ev
namespace Ev
open PySem PySem.Spec PyProof.Rows L2 Gd
/-! ### what is walked -/
def lstOf (a : A) (st : Sto) : Option (List A) := match a with
  | .tmp xs => some xs
  | .frz xs => some xs
  | .loc l => match st[l]? with
    | some (.lst xs) => some xs
    | _ => none
  | _ => none
/-- the place where a list is to stay -/
def stillOf (a : A) (xs : List A) : Sto → Prop := match a with
  | .loc l => fun st => st[l]? = some (.lst xs)
  | _ => fun _ => True
def seqOf (a : A) (st : Sto) : Option (List A) := match a with
  | .tup xs => some xs
  | .pr a b => some [a, b]
  | a => lstOf a st
section
variable {X : Cx} {K : PySem.W.Frag} {μ μ' : Nat → Addr} {n n' : Nat} {H H' : Hp} {st st' : Sto}
theorem lstOf_sq {a : A} {v : V} {xs : List A} (S : RS K μ st H) (r : Rep K μ st.length H a v) (h : lstOf a st = some xs) :
    ∃ p vs, v = .ref p ∧ SqL K H p vs ∧ RepL K μ st.length H xs vs ∧ (stillOf a xs st) ∧
      ∀ μ2 st2 H2, RS K μ2 st2 H2 → Ext μ st.length H μ2 st2.length H2 → stillOf a xs st2 → ∃ vs2, SqL K H2 p vs2 ∧ RepL K μ2 st2.length H2 xs vs2 := by
  cases a with
  | tmp ys =>
    obtain ⟨p, vs, rfl, h1, h2, h3⟩ := r
    cases h
    exact ⟨p, vs, rfl, .inl (.inl h1), h3, trivial, fun μ2 st2 H2 S2 E2 _ => ⟨vs, .inl (.inl (E2.fr _ _ h1 h2)), h3.ext S E2⟩⟩
  | frz ys =>
    obtain ⟨p, vs, rfl, h1, h3⟩ := r
    cases h
    refine ⟨p, vs, rfl, ?_, h3, trivial, fun μ2 st2 H2 S2 E2 _ => ⟨vs, ?_, h3.ext S E2⟩⟩
    · rcases h1 with ⟨o, h1⟩ | h1
      · exact .inl (.inr ⟨o, h1⟩)
      · exact .inr h1
    · rcases h1 with ⟨o, h1⟩ | h1
      · refine .inl (.inr ⟨o, E2.fr _ _ h1 fun l hl q => ?_⟩)
        obtain ⟨u, h4, _, h5, _⟩ := S.mt hl
        rw [q, h1] at h4
        exact h5 _ _ (Option.some.inj h4).symm
      · exact .inr h1
  | loc l =>
    obtain ⟨h1, rfl⟩ := r
    unfold lstOf at h
    simp only at h
    split at h
    · rename_i ys h2
      cases h
      obtain ⟨vs, h3, h4⟩ := S.at_ l _ h2
      refine ⟨μ l, vs, rfl, .inl (.inl h3), h4, h2, fun μ2 st2 H2 S2 E2 hs => ?_⟩
      obtain ⟨vs2, h5, h6⟩ := S2.at_ l _ hs
      rw [E2.ag l h1] at h5
      exact ⟨vs2, .inl (.inl h5), h6⟩
    · cases h
  | _ => cases h
theorem sqL_one {p : Addr} {xs ys : List V} {X : Cx} {pins σ s} (I : Inv X pins σ H s) (h : SqL X.K H p xs) (h' : SqL X.K H p ys) : xs = ys := I.list_inj h h'
def fIter (f : FE) : FI := fun ρ st => match f ρ st with
  | .ok a st1 => (match a with
    | .tup xs => .ok (xs, fun _ => True) st1
    | a => match lstOf a st1 with
      | some xs => .ok (xs, stillOf a xs) st1
      | none => .no)
  | .no => .no
def enumA (xs : List A) : List A := xs.zipIdx.map fun p => .pr (.int (p.2 : Int)) p.1
def fEnum (f : FE) : FI := fun ρ st => match fIter f ρ st with
  | .ok (xs, G) st1 => .ok (enumA xs, G) st1
  | .no => .no
def rgA (a b : Int) : List A := (List.range (b - a).toNat).map fun i => .int (a + (i : Nat))
def ends (i : Int) : Prop := -(2 ^ 62) ≤ i ∧ i < 2 ^ 62
instance (i : Int) : Decidable (ends i) := inferInstanceAs (Decidable (_ ∧ _))
def fRg1 (f : FE) : FI := fun ρ st => match f ρ st with
  | .ok (.int j) st1 => if ends j then .ok (rgA 0 j, fun _ => True) st1 else .no
  | _ => .no
def fRg2 (f g : FE) : FI := fun ρ st => match f ρ st with
  | .ok (.int i) st1 => (match g ρ st1 with
    | .ok (.int j) st2 => if ends i ∧ ends j then .ok (rgA i j, fun _ => True) st2 else .no
    | _ => .no)
  | _ => .no
theorem pi_weak {tg e : Expr} {t t' : TI} (h : PI X tg e t) (w : ∀ σ H Z, t' σ H Z → t σ H Z) : PI X tg e t' := ⟨fun pins s σ H Z I q => h.run pins s σ H Z I (w σ H Z q)⟩
theorem pi_or {tg e : Expr} {t t' : TI} (h : PI X tg e t) (h' : PI X tg e t') : PI X tg e (fun σ H Z => t σ H Z ∨ t' σ H Z) := ⟨fun pins s σ H Z I q => by
  rcases q with q | q
  · exact h.run pins s σ H Z I q
  · exact h'.run pins s σ H Z I q⟩
/-- the list at a as it stands at each turn, of n items -/
theorem walk_any {a : Addr} {n : Nat} : Walk (Itl K a) n (fun H => ∃ vs, SqL K H a vs ∧ vs.length = n) (fun i H x H' => H' = H ∧ ∀ vs, SqL K H a vs → vs[i]? = some x) :=
  ⟨fun i H hi ⟨vs, q, l⟩ => ⟨vs, vs[i], q, by simp [l, hi]⟩, fun H ⟨vs, q, l⟩ => ⟨vs, q, by omega⟩, fun _ _ _ _ _ _ y => y⟩
theorem walk_anyT {a : Addr} {n : Nat} : Walk (Itt K a) n (fun H => ∃ vs, SqT K H a vs ∧ vs.length = n) (fun i H x H' => H' = H ∧ ∀ vs, SqT K H a vs → vs[i]? = some x) :=
  ⟨fun i H hi ⟨vs, q, l⟩ => ⟨vs, vs[i], q, by simp [l, hi]⟩, fun H ⟨vs, q, l⟩ => ⟨vs, q, by omega⟩, fun _ _ _ _ _ _ y => y⟩
theorem walk_eany {a : Addr} {n : Nat} : Walk (Ite K a) n (fun H => ∃ vs, SqL K H a vs ∧ vs.length = n) (fun i H v H' => ∃ T x, v = .ref T ∧ H T = none ∧ H' = upd H T (.tup [.int (i : Nat), x]) ∧ ∀ vs, SqL K H a vs → vs[i]? = some x) :=
  ⟨fun i H hi ⟨vs, q, l⟩ => ⟨vs, vs[i], q, by simp [l, hi]⟩, fun H ⟨vs, q, l⟩ => ⟨vs, q, by omega⟩, fun _ _ _ _ _ _ y => y⟩
theorem walk_eanyT {a : Addr} {n : Nat} : Walk (IteT K a) n (fun H => ∃ vs, SqT K H a vs ∧ vs.length = n) (fun i H v H' => ∃ T x, v = .ref T ∧ H T = none ∧ H' = upd H T (.tup [.int (i : Nat), x]) ∧ ∀ vs, SqT K H a vs → vs[i]? = some x) :=
  ⟨fun i H hi ⟨vs, q, l⟩ => ⟨vs, vs[i], q, by simp [l, hi]⟩, fun H ⟨vs, q, l⟩ => ⟨vs, q, by omega⟩, fun _ _ _ _ _ _ y => y⟩
theorem tup_ext {p : Addr} {vs : List V} {μ2 : Nat → Addr} {n2 : Nat} {H2 : Hp} (S : RS K μ st H) (E : Ext μ st.length H μ2 n2 H2) (h : SqT K H p vs) : SqT K H2 p vs := by
  rcases h with h1 | h1
  · have ne := S.ne_tup h1
    rcases h1 with h1 | ⟨o, h1⟩
    · exact .inl (.inl (E.fr _ _ h1 ne))
    · exact .inl (.inr ⟨o, E.fr _ _ h1 ne⟩)
  · exact .inr h1
/-- at such a turn -/
theorem turn_at {xs : List A} {vs : List V} {i : Nat} {a : A} {x : V} {st2 : Sto} {μ2 : Nat → Addr} {H2 : Hp} (r : RepL K μ2 st2.length H2 xs vs) (h : xs[i]? = some a) (hx : vs[i]? = some x) : RN K μ2 st2.length H2 a x := by
  obtain ⟨y, h1, h2⟩ := pd_get (repL_iff.mp r) h
  rw [hx] at h1
  cases h1
  exact h2
theorem enum_at {xs : List A} {i : Nat} {b : A} (h : (enumA xs)[i]? = some b) : ∃ a, xs[i]? = some a ∧ b = .pr (.int (i : Int)) a := by
  unfold enumA at h
  rw [List.getElem?_map, List.getElem?_zipIdx] at h
  cases e : xs[i]? with
  | none => rw [e] at h; cases h
  | some z =>
    rw [e] at h
    simp at h
    exact ⟨z, rfl, h.symm⟩
theorem enum_len (xs : List A) : (enumA xs).length = xs.length := by unfold enumA; rw [List.length_map, List.length_zipIdx]
theorem pair_new {a b : A} {x y : V} {T : Addr} (S : RS K μ st H) (hT : H T = none) (ra : RN K μ st.length H a x) (rb : RN K μ st.length H b y) :
    RS K μ st (upd H T (.tup [x, y])) ∧ Ext μ st.length H μ st.length (upd H T (.tup [x, y])) ∧ RN K μ st.length (upd H T (.tup [x, y])) (.pr a b) (.ref T) := by
  obtain ⟨S', E'⟩ := S.new (o := .tup [x, y]) hT
  exact ⟨S', E', trivial, T, x, y, rfl, upd_same, ra.ext S E', rb.ext S E'⟩
section
variable {tg e : Expr} {f g : FE} {p pos : Pos}
theorem di_seq (hK : X.K = K) (h : PE X e (tOf K f)) : PI X tg e (iOf K (fIter f)) := by
  subst hK
  refine pi_weak (pi_or (pi_list h) (pi_tup h)) ?_
  rintro σ H Z ⟨μ, st, ρ, xs, G, st', S, E, h, q⟩
  unfold fIter at h
  split at h
  · rename_i a st1 h1
    split at h
    · rename_i ys
      cases h
      refine .inr ⟨μ, st, ρ, _, _, S, E, h1, ?_⟩
      rintro v μ1 H1 S1 E1 ⟨p, vs, rfl, h2, h3⟩ f1
      have h2 := h2.sq
      have hl := (repL_iff.mp h3).length
      refine ⟨p, rfl, ⟨vs, h2⟩, q _ μ1 H1 _ _ S1 E1 (walk_anyT (n := xs.length)) ?_ ?_⟩
      · exact fun μ2 st2 H2 S2 E2 _ => ⟨vs, tup_ext S1 E2 h2, hl.symm⟩
      · rintro i x H2 H3 μ2 st2 a hi S2 E2 _ ⟨rfl, hy⟩
        exact ⟨S2, Ext.refl, turn_at (h3.ext S1 E2) hi (hy vs (tup_ext S1 E2 h2))⟩
    · split at h
      · rename_i ys h2
        cases h
        refine .inl ⟨μ, st, ρ, _, _, S, E, h1, ?_⟩
        intro v μ1 H1 S1 E1 r1 f1
        obtain ⟨p, vs, rfl, h3, h4, h5, h6⟩ := lstOf_sq S1 r1 h2
        refine ⟨p, rfl, ⟨vs, h3⟩, q _ μ1 H1 _ _ S1 E1 (walk_any (n := xs.length)) ?_ ?_⟩
        · intro μ2 st2 H2 S2 E2 hG
          obtain ⟨vs2, h7, h8⟩ := h6 μ2 st2 H2 S2 E2 hG
          exact ⟨vs2, h7, (repL_iff.mp h8).length.symm⟩
        · rintro i x H2 H3 μ2 st2 a hi S2 E2 hG ⟨rfl, hy⟩
          obtain ⟨vs2, h7, h8⟩ := h6 μ2 st2 _ S2 E2 hG
          exact ⟨S2, Ext.refl, turn_at h8 hi (hy vs2 h7)⟩
      · cases h
  · cases h
theorem da_one (he : PE X e (tOf K f)) (hs : starEach [e] X.env = (false, eval e X.env) :: starEach [] X.env := by rfl) : PA X [e] (tCons (tOf K f) tNil) := pa_cons he pa_nil hs
theorem di_enum {elts : List Expr} {kk : Nat} {tpos : Pos} (hK : X.K = K) (hm : X.mg "enumerate" = none) (h : PE X e (tOf K f)) (hg : Gl X "enumerate" := by rfl) (hs : starEach [e] X.env = [(false, eval e X.env)] := by rfl) :
    PI X (.Tuple elts kk tpos) (.Call (.Name "enumerate" p) [e] [] pos) (iOf K (fEnum f)) := by
  subst hK
  refine pi_weak (pi_or (pi_enum hg hm (pa_cons h pa_nil hs) hs) (pi_enumT rfl hg hm (pa_cons h pa_nil hs) hs)) ?_
  rintro σ H Z ⟨μ, st, ρ, xs, G, st', S, E, h, q⟩
  unfold fEnum fIter at h
  split at h
  · rename_i ys G1 st1 h0
    cases h
    split at h0
    · rename_i a st1 h1
      split at h0
      · rename_i zs
        cases h0
        refine .inr ⟨μ, st, ρ, _, _, S, E, h1, ?_⟩
        rintro v μ1 H1 S1 E1 ⟨p, vs, rfl, h2, h3⟩ f1
        have h2 := h2.sq
        have hl := (repL_iff.mp h3).length
        refine ⟨p, vs, rfl, h2, q _ μ1 H1 _ _ S1 E1 (walk_eanyT (n := (enumA ys).length)) ?_ ?_⟩
        · exact fun μ2 st2 H2 S2 E2 _ => ⟨vs, tup_ext S1 E2 h2, by rw [enum_len]; exact hl.symm⟩
        · rintro i x H2 H3 μ2 st2 b hi S2 E2 _ ⟨T, y, rfl, hT, rfl, hy⟩
          obtain ⟨a, ha, rfl⟩ := enum_at hi
          exact pair_new S2 hT ⟨trivial, rfl⟩ (turn_at (h3.ext S1 E2) ha (hy vs (tup_ext S1 E2 h2)))
      · split at h0
        · rename_i zs h2
          cases h0
          refine .inl ⟨μ, st, ρ, _, _, S, E, h1, ?_⟩
          intro v μ1 H1 S1 E1 r1 f1
          obtain ⟨p, vs, rfl, h3, h4, h5, h6⟩ := lstOf_sq S1 r1 h2
          refine ⟨p, vs, rfl, h3, q _ μ1 H1 _ _ S1 E1 (walk_eany (n := (enumA ys).length)) ?_ ?_⟩
          · intro μ2 st2 H2 S2 E2 hG
            obtain ⟨vs2, h7, h8⟩ := h6 μ2 st2 H2 S2 E2 hG
            exact ⟨vs2, h7, by rw [enum_len]; exact (repL_iff.mp h8).length.symm⟩
          · rintro i x H2 H3 μ2 st2 b hi S2 E2 hG ⟨T, y, rfl, hT, rfl, hy⟩
            obtain ⟨vs2, h7, h8⟩ := h6 μ2 st2 _ S2 E2 hG
            obtain ⟨a, ha, rfl⟩ := enum_at hi
            exact pair_new S2 hT ⟨trivial, rfl⟩ (turn_at h8 ha (hy vs2 h7))
        · cases h0
    · cases h0
  · cases h
theorem rgA_at {a b : Int} {i : Nat} {x : A} (h : (rgA a b)[i]? = some x) : x = .int (a + (i : Nat)) := by
  unfold rgA at h
  rw [List.getElem?_map] at h
  obtain ⟨j, h1, h2⟩ := Option.map_eq_some_iff.mp h
  have := (List.getElem?_eq_some_iff.mp h1)
  obtain ⟨h3, h4⟩ := this
  rw [List.getElem_range] at h4
  rw [← h2, ← h4]
theorem rgA_len (a b : Int) : (rgA a b).length = (b - a).toNat := by unfold rgA; rw [List.length_map, List.length_range]
theorem di_rg1 (hm : X.mg "range" = none) (h : PE X e (tOf K f)) (hg : Gl X "range" := by rfl) (hs : starEach [e] X.env = [(false, eval e X.env)] := by rfl) : PI X tg (.Call (.Name "range" p) [e] [] pos) (iOf K (fRg1 f)) := by
  refine pi_weak (pi_range1 hg hm (pa_cons h pa_nil hs) hs) ?_
  rintro σ H Z ⟨μ, st, ρ, xs, G, st', S, E, h, q⟩
  unfold fRg1 at h
  split at h
  · rename_i j st1 h1
    split at h
    · rename_i hj
      cases h
      refine ⟨μ, st, ρ, _, _, S, E, h1, ?_⟩
      rintro v μ1 H1 S1 E1 r1 f1
      cases (show v = .int j from r1)
      refine ⟨j, rfl, hj.1, hj.2, q _ μ1 H1 _ _ S1 E1 (by rw [rgA_len, Int.sub_zero]; exact walk_range) (fun _ _ _ _ _ _ => trivial) ?_⟩
      rintro i x H2 H3 μ2 st2 b hi S2 E2 hG ⟨rfl, rfl⟩
      rw [rgA_at hi]
      exact ⟨S2, Ext.refl, trivial, rfl⟩
    · cases h
  · cases h
theorem di_rg2 {e2 : Expr} (hm : X.mg "range" = none) (h : PE X e (tOf K f)) (h2 : PE X e2 (tOf K g)) (hg : Gl X "range" := by rfl) (hs : starEach [e, e2] X.env = [(false, eval e X.env), (false, eval e2 X.env)] := by rfl) (hs2 : starEach [e2] X.env = [(false, eval e2 X.env)] := by rfl) : PI X tg (.Call (.Name "range" p) [e, e2] [] pos) (iOf K (fRg2 f g)) := by
  refine pi_weak (pi_range2 hg hm (pa_cons h (pa_cons h2 pa_nil hs2) (by rw [hs, hs2])) hs hs2) ?_
  rintro σ H Z ⟨μ, st, ρ, xs, G, st', S, E, h, q⟩
  unfold fRg2 at h
  split at h
  · rename_i i0 st1 h1
    split at h
    · rename_i j st2 h2
      split at h
      · rename_i hj
        cases h
        refine ⟨μ, st, ρ, _, _, S, E, h1, ?_⟩
        rintro v μ1 H1 S1 E1 r1 f1
        cases (show v = .int i0 from r1)
        refine ⟨μ1, st1, ρ, _, _, S1, E.ext S E1, h2, ?_⟩
        rintro v μ2 H2 S2 E2 r2 f2
        cases (show v = .int j from r2)
        refine ⟨i0, j, rfl, ⟨hj.1.1, hj.1.2, hj.2.1, hj.2.2⟩, q _ μ2 H2 _ _ S2 (E1.trans E2) (by rw [rgA_len]; exact walk_range) (fun _ _ _ _ _ _ => trivial) ?_⟩
        rintro i x H2 H3 μ2 st2 b hi S2 E2 hG ⟨rfl, rfl⟩
        rw [rgA_at hi]
        exact ⟨S2, Ext.refl, trivial, rfl⟩
      · cases h
    · cases h
  · cases h
end
end
end Ev
namespace Ev
open PySem PySem.Spec PyProof.Rows L2 Gd
/-! ### comprehensions -/
open Classical in
noncomputable def lcF (ρ : Rho) (g : A → Rho → Option Rho) (u : FT) (f : FE) (G : Sto → Prop) : List A → List A → Sto → R (List A)
  | [], acc, st => if G st then .ok acc st else .no
  | x :: xs, acc, st => if G st then (match g x ρ with
    | some ρ1 => (match u ρ1 st with
      | .ok true st2 => (match fB f ρ1 st2 with
        | .ok a st3 => if acc.length < sizeLine then lcF ρ g u f G xs (acc ++ [a]) st3 else .no
        | .no => .no)
      | .ok false st2 => lcF ρ g u f G xs acc st2
      | .no => .no)
    | none => .no) else .no
def wipeR (ρ : Rho) : List Nat → Rho
  | [] => ρ
  | v :: vs => (wipeR ρ vs).set v none
noncomputable def fLc (fi : FI) (js : List Nat) (g : A → Rho → Option Rho) (u : FT) (f : FE) : FE := fun ρ st => match fi ρ st with
  | .ok (xs, G) st1 => (match lcF (wipeR ρ js) g u f G xs [] st1 with
    | .ok acc st2 => .ok (.tmp acc) st2
    | .no => .no)
  | .no => .no
def uYes : FT := fun _ st => .ok true st
def lN (j : Nat) : A → Rho → Option Rho := fun a ρ => some (ρ.set j (some a))
def lP (i j : Nat) : A → Rho → Option Rho := fun a ρ => match a with
  | .tup [a, b] => some ((ρ.set i (some a)).set j (some b))
  | .pr a b => some ((ρ.set i (some a)).set j (some b))
  | _ => none
/-- a target that stores to the slots js alone -/
structure LTg (K : PySem.W.Frag) (js : List Nat) (g : A → Rho → Option Rho) (t : TG) : Prop where
  run : ∀ {μ st H σ ρ ρ1 a v} {Q : L2.St → Hp → Prop}, RS K μ st H → RE K μ st.length H (wipe σ js) ρ → RN K μ st.length H a v → g a ρ = some ρ1 → (∀ σ2, RE K μ st.length H σ2 ρ1 → wipe σ2 js = wipe σ js → Q σ2 H) → t v (wipe σ js) H Q
section
variable {X : Cx} {K : PySem.W.Frag} {μ μ' : Nat → Addr} {n n' : Nat} {H H' : Hp} {st st' : Sto} {js : List Nat} {g : A → Rho → Option Rho} {u : FT} {f : FE} {fi : FI}
theorem wipe_one (σ : L2.St) (j : Nat) (x : Option V) : wipe ((wipe σ [j]).set j x) [j] = wipe σ [j] := by
  show ((σ.set j none).set j x).set j none = σ.set j none
  rw [List.set_set, List.set_set]
theorem lt_name {j : Nat} : LTg K [j] (lN j) (gName j) := by
  constructor
  intro μ st H σ ρ ρ1 a v Q S E r h q
  cases h
  exact q _ (E.set r.1 r.2) (wipe_one σ j (some v))
theorem wipe_two (σ : L2.St) (i j : Nat) (x y : Option V) : wipe (((wipe σ [i, j]).set i x).set j y) [i, j] = wipe σ [i, j] := by
  show ((((((σ.set j none).set i none).set i _).set j _).set j none).set i none) = (σ.set j none).set i none
  refine List.ext_getElem? fun k => ?_
  simp only [List.getElem?_set, List.length_set]
  by_cases h1 : i = k <;> by_cases h2 : j = k <;> simp [h1, h2]
theorem lt_pair {i j : Nat} : LTg K [i, j] (lP i j) (gTup K 2 (gCons (gName i) (gCons (gName j) gNil))) := by
  constructor
  intro μ st H σ ρ ρ1 a v Q S E r h q
  unfold lP at h
  split at h
  · rename_i a1 b1
    cases h
    obtain ⟨_, p, vs, rfl, h1, h2⟩ := r
    have h2 := repL_iff.mp h2
    cases h2 with
    | cons r1 r2 =>
      cases r2 with
      | cons r2 r3 =>
        cases r3
        exact ⟨p, _, rfl, h1.sq, rfl, _, _, rfl, _, _, rfl, rfl, q _ ((E.set r1.1 r1.2).set r2.1 r2.2) (wipe_two σ i j _ _)⟩
  · rename_i a1 b1
    cases h
    obtain ⟨_, p, x, y, rfl, h1, r1, r2⟩ := r
    exact ⟨p, _, rfl, .inl (.inl h1), rfl, _, _, rfl, _, _, rfl, rfl, q _ ((E.set r1.1 r1.2).set r2.1 r2.2) (wipe_two σ i j _ _)⟩
  · cases h
theorem RE.wipe {σ : L2.St} {ρ : Rho} (h : RE K μ n H σ ρ) : ∀ js : List Nat, RE K μ n H (wipe σ js) (wipeR ρ js)
  | [] => h
  | j :: js => (RE.wipe h js).wipe1
/-- an object that is no object of the store, no tuple, no locked list, is changed -/
theorem Rep.other {p : Addr} {o o' : HO} (hp : H p = some o) (h1 : ∀ xs, o ≠ .tup xs) (h2 : ∀ x z, o ≠ .frz x z) : ∀ {a : A} {v : V}, a.nt → Rep K μ n H a v → Rep K μ n (upd H p o') a v := by
  have ne : ∀ {q u}, H q = some u → u ≠ o → q ≠ p := fun h1 h2 e => by rw [e, hp] at h1; exact h2 (Option.some.inj h1).symm
  suffices main : ∀ k, (∀ {a : A} {v : V}, sizeOf a < k → a.nt → Rep K μ n H a v → Rep K μ n (upd H p o') a v) ∧ (∀ {xs : List A} {vs : List V}, sizeOf xs < k → RepL K μ n H xs vs → RepL K μ n (upd H p o') xs vs) from
    fun {a v} hn r => (main (sizeOf a + 1)).1 (Nat.lt_succ_self _) hn r
  intro k
  induction k with
  | zero => exact ⟨fun h => absurd h (by omega), fun h => absurd h (by omega)⟩
  | succ k ih =>
    refine ⟨?_, ?_⟩
    · intro a v hk hn r
      cases a with
      | tup xs =>
        obtain ⟨q, vs, rfl, h3, h4⟩ := r
        refine ⟨q, vs, rfl, ?_, ih.2 (by simp at hk; omega) h4⟩
        rcases h3 with ⟨x, h3, h5⟩ | h3
        · exact .inl ⟨x, by rw [upd_ne (ne h3 fun e => h2 _ _ e.symm)]; exact h3, h5⟩
        · exact .inr h3
      | pr b c =>
        obtain ⟨q, x, y, rfl, h3, h4, h5⟩ := r
        exact ⟨q, x, y, rfl, by rw [upd_ne (ne h3 fun e => h1 _ e.symm)]; exact h3, ⟨h4.1, ih.1 (by simp at hk; omega) h4.1 h4.2⟩, h5.1, ih.1 (by simp at hk; omega) h5.1 h5.2⟩
      | frz xs =>
        obtain ⟨q, vs, rfl, h3, h4⟩ := r
        refine ⟨q, vs, rfl, ?_, ih.2 (by simp at hk; omega) h4⟩
        rcases h3 with ⟨x, h3⟩ | h3
        · exact .inl ⟨x, by rw [upd_ne (ne h3 fun e => h2 _ _ e.symm)]; exact h3⟩
        · exact .inr h3
      | tmp xs => exact hn.elim
      | dtm xs => exact hn.elim
      | _ => exact r
    · intro xs vs hk r
      cases xs with
      | nil => exact r
      | cons x xs =>
        obtain ⟨v, vr, rfl, h3, h4, h5⟩ := r
        refine ⟨v, vr, rfl, h3, ih.1 (by simp at hk; omega) h3 h4, ih.2 (by simp at hk; omega) h5⟩
theorem RN.other {p : Addr} {o o' : HO} (hp : H p = some o) (h1 : ∀ xs, o ≠ .tup xs) (h2 : ∀ x z, o ≠ .frz x z) {a : A} {v : V} (r : RN K μ n H a v) : RN K μ n (upd H p o') a v := ⟨r.1, r.2.other hp h1 h2 r.1⟩
theorem RS.other {p : Addr} {o o' : HO} (S : RS K μ st H) (hp : H p = some o) (h1 : ∀ xs, o ≠ .tup xs) (h2 : ∀ x z, o ≠ .frz x z) (ne : ∀ l, l < st.length → μ l ≠ p) : RS K μ st (upd H p o') := by
  refine ⟨fun l u e => ?_, S.inj⟩
  have hl := (List.getElem?_eq_some_iff.mp e).1
  have h3 := S.at_ l u e
  cases u with
  | lst xs =>
    obtain ⟨vs, h4, h5⟩ := h3
    exact ⟨vs, by rw [upd_ne (ne l hl)]; exact h4, repL_iff.mpr ((repL_iff.mp h5).mono fun _ _ r => r.other hp h1 h2)⟩
  | dic xs =>
    obtain ⟨vs, h4, h5⟩ := h3
    exact ⟨vs, by rw [upd_ne (ne l hl)]; exact h4, repD_iff.mpr ((repD_iff.mp h5).mono fun _ _ r => ⟨r.1, RN.other hp h1 h2 r.2⟩)⟩
structure LcI (K : PySem.W.Frag) (μ1 : Nat → Addr) (n1 : Nat) (H1 : Hp) (D : Addr) (μ : Nat → Addr) (st : Sto) (H : Hp) (acc : List A) (vs : List V) : Prop where
  S : RS K μ st H
  E : Ext μ1 n1 H1 μ st.length H
  ne : ∀ l, l < st.length → μ l ≠ D
  at_ : H D = some (.lst vs)
  r : Paired (RN K μ st.length H) acc vs
theorem LcI.step {μ1 : Nat → Addr} {n1 : Nat} {H1 : Hp} {D : Addr} {acc : List A} {vs : List V} (I : LcI K μ1 n1 H1 D μ st H acc vs) (S' : RS K μ' st' H') (E' : Ext μ st.length H μ' st'.length H') : LcI K μ1 n1 H1 D μ' st' H' acc vs := by
  refine ⟨S', I.E.trans E', fun l hl e => ?_, E'.fr _ _ I.at_ I.ne, I.r.mono fun _ _ r => RN.ext r I.S E'⟩
  by_cases h : l < st.length
  · rw [E'.ag l h] at e
    exact I.ne l h e
  · have := E'.nw l (by omega) hl
    rw [e, I.at_] at this
    cases this
theorem LcI.app {μ1 : Nat → Addr} {n1 : Nat} {H1 : Hp} {D : Addr} {acc : List A} {vs : List V} {a : A} {v : V} (hD : H1 D = none) (I : LcI K μ1 n1 H1 D μ st H acc vs) (r : RN K μ st.length H a v) :
    LcI K μ1 n1 H1 D μ st (upd H D (.lst (vs ++ [v]))) (acc ++ [a]) (vs ++ [v]) := by
  have g1 : ∀ xs, HO.lst vs ≠ .tup xs := fun _ e => nomatch e
  have g2 : ∀ x z, HO.lst vs ≠ .frz x z := fun _ _ e => nomatch e
  refine ⟨I.S.other I.at_ g1 g2 I.ne, ⟨I.E.le, I.E.ag, fun p o h1 h2 => ?_, fun p h => ?_, I.E.nw⟩, I.ne, upd_same, pd_append (I.r.mono fun _ _ z => RN.other I.at_ g1 g2 z) (.cons (RN.other I.at_ g1 g2 r) .nil)⟩
  · rw [upd_ne (ne_of_none h1 hD)]
    exact I.E.fr p o h1 h2
  · by_cases e : p = D
    · rw [e]; exact hD
    · rw [upd_ne e] at h
      exact I.E.so p h
theorem w_lc {wi : TI} {t : TG} {σ : L2.St} {H : Hp} {Q : VK} {tt : TT} (lt : LTg K js g t) (hw : ∀ σ H Z, iOf K fi σ H Z → wi σ H Z) (ht : ∀ σ H Z, uOf K u σ H Z → tt σ H Z) (h : tOf K (fLc fi js g u f) σ H Q) :
    tLc wi t tt (tBn K f) js σ H Q := by
  obtain ⟨μ, st, ρ, z, st', S, E, h, q⟩ := h
  unfold fLc at h
  split at h
  · rename_i xs G st1 h1
    split at h
    · rename_i accF st2 h2
      cases h
      refine hw _ _ _ ⟨μ, st, ρ, xs, G, st1, S, E, h1, fun J μ1 H1 GH Y S1 E1 w hG hY D hD => ?_⟩
      have R1 : RE K μ1 st1.length H1 (L2.wipe σ js) (wipeR ρ js) := (E.ext S E1).wipe js
      refine lc_it w (Qd := fun H => Q (.ref D) H) (fun i H2 => ∃ μ2 st2' acc vs, LcI K μ1 st1.length H1 D μ2 st2' H2 acc vs ∧ lcF (wipeR ρ js) g u f G (xs.drop i) acc st2' = .ok accF st') ⟨μ1, st1, [], [], ?_, h2⟩ ?_ ?_ ?_
      · obtain ⟨S', E'⟩ := S1.new (o := .lst []) hD
        exact ⟨S', E', S1.ne_free hD, upd_same, .nil⟩
      · rintro i H2 hi ⟨μ2, st2', acc, vs, I, h3⟩
        refine hG μ2 st2' H2 I.S I.E ?_
        cases hd : xs.drop i with
        | nil =>
          rw [hd] at h3
          unfold lcF at h3
          split at h3
          · assumption
          · cases h3
        | cons x r =>
          rw [hd] at h3
          unfold lcF at h3
          split at h3
          · assumption
          · cases h3
      · rintro i x H2 H3 hi ⟨μ2, st2', acc, vs, I, h3⟩ y
        rw [List.drop_eq_getElem_cons hi] at h3
        unfold lcF at h3
        split at h3
        · rename_i hGs
          obtain ⟨S3, E3, r3⟩ := hY i x H2 H3 μ2 st2' xs[i] (List.getElem?_eq_getElem hi) I.S I.E hGs y
          have I3 := I.step S3 E3
          split at h3
          · rename_i ρ1 h4
            refine lt.run S3 (R1.ext S1 I3.E) r3 h4 fun σ2 R2 eW => ⟨eW, ?_⟩
            split at h3
            · rename_i st4 h5
              refine ht _ _ _ ⟨μ2, st2', ρ1, true, st4, S3, R2, h5, fun μ4 H4 S4 E4 => iteT ?_⟩
              have I4 := I3.step S4 E4
              split at h3
              · rename_i a5 st5 h6
                split at h3
                · rename_i hz
                  refine ⟨μ4, st4, ρ1, a5, st5, S4, R2.ext S3 E4, h6, fun v5 μ5 H5 S5 E5 r5 => ?_⟩
                  have I5 := I4.step S5 E5
                  exact ⟨vs, I5.at_, by rw [← I5.r.length]; exact hz, μ5, st5, acc ++ [a5], vs ++ [v5], I5.app hD r5, h3⟩
                · cases h3
              · cases h3
            · rename_i st4 h5
              refine ht _ _ _ ⟨μ2, st2', ρ1, false, st4, S3, R2, h5, fun μ4 H4 S4 E4 => iteF ?_⟩
              exact ⟨μ4, st4, acc, vs, I3.step S4 E4, h3⟩
            · cases h3
          · cases h3
        · cases h3
      · rintro H2 ⟨μ2, st2', acc, vs, I, h3⟩
        rw [List.drop_length] at h3
        unfold lcF at h3
        split at h3
        · cases h3
          refine q (.ref D) μ2 H2 I.S (E1.trans I.E) ⟨D, vs, rfl, I.at_, I.ne, repL_iff.mpr I.r⟩ (.inr ⟨D, rfl, E1.so D hD⟩)
        · cases h3
    · cases h
  · cases h
theorem du_nil : PTs X [] (uOf K uYes) := by
  refine ⟨fun pins s σ H Q I h => ?_⟩
  obtain ⟨μ, st, ρ, b, st', S, E, h, q⟩ := h
  cases h
  exact pts_nil.run pins s σ H Q I (q μ H S Ext.refl)
theorem du_one {c : Expr} (h : PT X c (uOf K u)) : PTs X [c] (uOf K u) := pts_one h
theorem dx_lc {elt tg iter : Expr} {ifs : List Expr} {scope : Scope} {own : List (Str × Nat)} {pos : Pos} {t : TG} (hc : X.calm = true) (hN : X.N.Nodup) (hi : PI X tg iter (iOf K fi)) (ok : BlkOk X.N X.env.scope scope own) (lt : LTg K (own.map (·.2)) g t)
    (hg : ∀ (s : Shared) (H : Hp) (C : Addr) (cl : List (Str × Addr)) (fp : List Addr), PG (X.blk s H scope (compEnvC scope cl C X.env) fp) tg t) (ht : ∀ (s : Shared) (H : Hp) (C : Addr) (cl : List (Str × Addr)) (fp : List Addr), PTs (X.blk s H scope (compEnvC scope cl C X.env) fp) ifs (uOf K u))
    (he : ∀ (s : Shared) (H : Hp) (C : Addr) (cl : List (Str × Addr)) (fp : List Addr), PE (X.blk s H scope (compEnvC scope cl C X.env) fp) elt (tOf K f)) (hs : ∀ x, foldedSetIterable iter X.env x = pure x := by intro _; rfl) :
    PE X (.ListComp elt [⟨tg, iter, ifs, 0⟩] scope pos) (tOf K (fLc fi (own.map (·.2)) g u f)) :=
  pe_weak (pe_lc hc hN hi ok hg ht (fun s H C cl fp => dx_bn (he s H C cl fp)) hs) fun _ _ _ h => w_lc lt (fun _ _ _ z => z) (fun _ _ _ z => z) h
theorem ds_setLc {i : Nat} {y : Str} {py : Pos} {elt tg iter : Expr} {ifs : List Expr} {scope : Scope} {own : List (Str × Nat)} {pos spos : Pos} {t : TG} (hc : X.calm = true) (hN : X.N.Nodup) (hy : X.N[i]? = some y) (hyl : X.env.scope.names.lookup y = some .local)
    (hsw : swapsWith (.ListComp elt [⟨tg, iter, ifs, 0⟩] scope pos) (some (.Name y py)) spos.line X.env = pure true) (hi : PI X tg iter (iOf K fi)) (ok : BlkOk X.N X.env.scope scope own) (lt : LTg K (own.map (·.2)) g t)
    (hg : ∀ (s : Shared) (H : Hp) (C : Addr) (cl : List (Str × Addr)) (fp : List Addr), PG (X.blk s H scope (compEnvC scope cl C X.env) fp) tg t) (ht : ∀ (s : Shared) (H : Hp) (C : Addr) (cl : List (Str × Addr)) (fp : List Addr), PTs (X.blk s H scope (compEnvC scope cl C X.env) fp) ifs (uOf K u))
    (he : ∀ (s : Shared) (H : Hp) (C : Addr) (cl : List (Str × Addr)) (fp : List Addr), PE (X.blk s H scope (compEnvC scope cl C X.env) fp) elt (tOf K f)) (hs : ∀ x, foldedSetIterable iter X.env x = pure x := by intro _; rfl) :
    PS X (.Assign [.Name y py] (.ListComp elt [⟨tg, iter, ifs, 0⟩] scope pos) spos) (sOf K (sAsg (fLc fi (own.map (·.2)) g u f) (gSet i))) := by
  refine ps_weak (ps_setLc hc hN hy hyl hsw hi ok hg ht (fun s H C cl fp => dx_bn (he s H C cl fp)) hs) ?_
  rintro D σ H ⟨μ, st, ρ, S, E, q⟩
  unfold sAsg fB at q
  split at q
  · rename_i a1 st1 h1
    split at h1
    · rename_i a2 st2 h2
      refine w_lc lt (fun _ _ _ z => z) (fun _ _ _ z => z) ⟨μ, st, ρ, a2, st2, S, E, h2, fun v μ1 H1 S1 E1 r1 f1 => ?_⟩
      obtain ⟨μ2, S2, E2, r2, n2⟩ := Post.locd S1 E1 r1 f1 h1
      exact q _ μ2 H1 S2 ((E.ext S E2).set n2 r2) E2
    · cases h1
  · exact q.elim
end
/-! ### defs -/
mutual
def A.bel (n : Nat) : A → Bool
  | .loc l => decide (l < n)
  | .tup xs => belL n xs
  | .pr a b => a.bel n && b.bel n
  | .tmp xs => belL n xs
  | .frz xs => belL n xs
  | .dtm kvs => belD n kvs
  | _ => true
def belL (n : Nat) : List A → Bool
  | [] => true
  | a :: r => a.bel n && belL n r
def belD (n : Nat) : List (Key × A) → Bool
  | [] => true
  | (_, a) :: r => a.bel n && belD n r
end
def O.bel (n : Nat) : O → Bool
  | .lst xs => belL n xs
  | .dic kvs => belD n kvs
section
variable {K : PySem.W.Frag} {μ μ' : Nat → Addr} {n n' m : Nat} {H H' : Hp} {st st' : Sto}
mutual
theorem Rep.cut (ag : ∀ l, l < m → μ' l = μ l) (le : m ≤ n) : ∀ {a : A} {v : V}, a.bel m = true → Rep K μ n H a v → Rep K μ' m H a v
  | .non, _, _, h => h
  | .bl _, _, _, h => h
  | .int _, _, _, h => h
  | .str _, _, _, h => h
  | .tup xs, v, b, ⟨p, vs, e, h1, h2⟩ => ⟨p, vs, e, h1, RepL.cut ag le b h2⟩
  | .pr c d, v, b, ⟨p, x, y, e, h1, h2, h3⟩ => by
    have b' : (c.bel m && d.bel m) = true := b
    rw [Bool.and_eq_true] at b'
    exact ⟨p, x, y, e, h1, ⟨h2.1, Rep.cut ag le b'.1 h2.2⟩, h3.1, Rep.cut ag le b'.2 h3.2⟩
  | .tmp xs, v, b, ⟨p, vs, e, h1, h2, h3⟩ => ⟨p, vs, e, h1, fun l hl => by rw [ag l hl]; exact h2 l (by omega), RepL.cut ag le b h3⟩
  | .frz xs, v, b, ⟨p, vs, e, h1, h3⟩ => ⟨p, vs, e, h1, RepL.cut ag le b h3⟩
  | .loc l, v, b, ⟨h1, h2⟩ => ⟨of_decide_eq_true b, by rw [ag l (of_decide_eq_true b)]; exact h2⟩
  | .dtm xs, v, b, ⟨p, vs, e, h1, h2, h3⟩ => ⟨p, vs, e, h1, fun l hl => by rw [ag l hl]; exact h2 l (by omega), RepD.cut ag le b h3⟩
theorem RepL.cut (ag : ∀ l, l < m → μ' l = μ l) (le : m ≤ n) : ∀ {xs : List A} {vs : List V}, belL m xs = true → RepL K μ n H xs vs → RepL K μ' m H xs vs
  | [], _, _, h => h
  | a :: r, _, b, ⟨v, vr, e, h1, h2, h3⟩ => by
    have b' : (a.bel m && belL m r) = true := b
    rw [Bool.and_eq_true] at b'
    exact ⟨v, vr, e, h1, Rep.cut ag le b'.1 h2, RepL.cut ag le b'.2 h3⟩
theorem RepD.cut (ag : ∀ l, l < m → μ' l = μ l) (le : m ≤ n) : ∀ {xs : List (Key × A)} {vs : List (Key × V)}, belD m xs = true → RepD K μ n H xs vs → RepD K μ' m H xs vs
  | [], _, _, h => h
  | (k, a) :: r, _, b, ⟨v, vr, e, h1, h2, h3⟩ => by
    have b' : (a.bel m && belD m r) = true := b
    rw [Bool.and_eq_true] at b'
    exact ⟨v, vr, e, h1, Rep.cut ag le b'.1 h2, RepD.cut ag le b'.2 h3⟩
end
mutual
theorem Rep.isBel : ∀ {a : A} {v : V}, Rep K μ n H a v → a.bel n = true
  | .non, _, _ => rfl
  | .bl _, _, _ => rfl
  | .int _, _, _ => rfl
  | .str _, _, _ => rfl
  | .tup xs, v, ⟨p, vs, e, h1, h2⟩ => RepL.isBel h2
  | .pr c d, v, ⟨p, x, y, e, h1, h2, h3⟩ => by
    show (c.bel n && d.bel n) = true
    rw [Rep.isBel h2.2, Rep.isBel h3.2]
    rfl
  | .tmp xs, v, ⟨p, vs, e, h1, h2, h3⟩ => RepL.isBel h3
  | .frz xs, v, ⟨p, vs, e, h1, h3⟩ => RepL.isBel h3
  | .loc l, v, ⟨h1, h2⟩ => decide_eq_true h1
  | .dtm xs, v, ⟨p, vs, e, h1, h2, h3⟩ => RepD.isBel h3
theorem RepL.isBel : ∀ {xs : List A} {vs : List V}, RepL K μ n H xs vs → belL n xs = true
  | [], _, h => rfl
  | a :: r, _, ⟨v, vr, e, h1, h2, h3⟩ => by
    show (a.bel n && belL n r) = true
    rw [Rep.isBel h2, RepL.isBel h3]
    rfl
theorem RepD.isBel : ∀ {xs : List (Key × A)} {vs : List (Key × V)}, RepD K μ n H xs vs → belD n xs = true
  | [], _, h => rfl
  | (k, a) :: r, _, ⟨v, vr, e, h1, h2, h3⟩ => by
    show (a.bel n && belD n r) = true
    rw [Rep.isBel h2, RepD.isBel h3]
    rfl
end
end
/-- what was there knows nothing new -/
def Kept (st0 st' : Sto) : Prop := st0.length ≤ st'.length ∧ ∀ l, l < st0.length → st'[l]? = st0[l]? ∨ ∃ o, st'[l]? = some o ∧ o.bel st0.length = true
open Classical in
/-- what a def gives back: its own new list as a new list; its own lists forgotten -/
noncomputable def finish (st0 : Sto) (a : A) (st' : Sto) : R A :=
  if Kept st0 st' then
    (match a with
    | .loc l => if l < st0.length then .ok (.loc l) (st'.take st0.length) else (match st'[l]? with
      | some (.lst xs) => if belL st0.length xs = true then .ok (.tmp xs) (st'.take st0.length) else .ok a st'
      | some (.dic xs) => if belD st0.length xs = true then .ok (.dtm xs) (st'.take st0.length) else .ok a st'
      | none => .ok a st')
    | a => if a.bel st0.length = true then .ok a (st'.take st0.length) else .ok a st')
  else .ok a st'
noncomputable def defn (p n : Nat) (g : FS) : FN := fun as st => if as.length = p then (match g (as.map some ++ List.replicate n none) st with
  | .nx _ st' => finish st .non st'
  | .rt a st' => finish st a st'
  | _ => .no) else .no
section
variable {K : PySem.W.Frag} {μ μ' : Nat → Addr} {H H' : Hp} {st st' : Sto}
theorem RS.take (S : RS K μ st H) (S' : RS K μ' st' H') (E : Ext μ st.length H μ' st'.length H') (k : Kept st st') : RS K μ' (st'.take st.length) H' := by
  have ln : (st'.take st.length).length = st.length := by rw [List.length_take]; have := k.1; omega
  refine ⟨fun l o e => ?_, fun l l' h1 h2 => S'.inj l l' (by have := k.1; omega) (by have := k.1; omega)⟩
  rw [ln]
  have hl : l < st.length := by have := (List.getElem?_eq_some_iff.mp e).1; omega
  rw [List.getElem?_take_of_lt hl] at e
  have b : o.bel st.length = true := by
    rcases k.2 l hl with h | ⟨o', h1, h2⟩
    · rw [e] at h
      have z := S.at_ l o h.symm
      cases o with
      | lst xs =>
        obtain ⟨vs, _, h3⟩ := z
        exact h3.isBel
      | dic xs =>
        obtain ⟨vs, _, h3⟩ := z
        exact h3.isBel
    · rw [e] at h1
      cases h1
      exact h2
  have z := S'.at_ l o e
  cases o with
  | lst xs =>
    obtain ⟨vs, h2, h3⟩ := z
    exact ⟨vs, h2, h3.cut (fun _ _ => rfl) k.1 b⟩
  | dic xs =>
    obtain ⟨vs, h2, h3⟩ := z
    exact ⟨vs, h2, h3.cut (fun _ _ => rfl) k.1 b⟩
theorem Ext.take (E : Ext μ st.length H μ' st'.length H') (k : st.length ≤ st'.length) : Ext μ st.length H μ' (st'.take st.length).length H' := by
  have ln : (st'.take st.length).length = st.length := by rw [List.length_take]; omega
  rw [ln]
  exact ⟨Nat.le_refl _, E.ag, E.fr, E.so, fun l h1 h2 => absurd h1 (by omega)⟩
theorem Post.finish {a b : A} {st2 : Sto} {Q : VK} (S : RS K μ st H) (h : Ev.finish st a st' = .ok b st2) (q : Post K μ st.length H b st2 Q) : Post K μ st.length H a st' Q := by
  intro v μ1 H1 S1 E1 r1 f1
  unfold Ev.finish at h
  split at h
  · rename_i k
    have S2 := S.take S1 E1 k
    have E2 := E1.take k.1
    have ln : (st'.take st.length).length = st.length := by rw [List.length_take]; have := k.1; omega
    split at h
    · rename_i l
      split at h
      · rename_i hl
        cases h
        exact q v μ1 H1 S2 E2 ⟨by rw [ln]; exact hl, r1.2⟩ (.of trivial)
      · rename_i hl
        obtain ⟨hl1, rfl⟩ := r1
        have fr : H (μ1 l) = none := E1.nw l (by omega) hl1
        have ne : ∀ l', l' < st.length → μ1 l' ≠ μ1 l := fun l' h1 e => by
          have := S1.inj l' l (by have := k.1; omega) hl1 e
          omega
        split at h
        · rename_i xs h2
          split at h
          · rename_i hb
            cases h
            obtain ⟨vs, h3, h4⟩ := S1.at_ l _ h2
            exact q _ μ1 H1 S2 E2 ⟨μ1 l, vs, rfl, h3, by rw [ln]; exact ne, h4.cut (fun _ _ => rfl) (by rw [ln]; exact k.1) (by rw [ln]; exact hb)⟩ (.inr ⟨_, rfl, fr⟩)
          · cases h
            exact q _ μ1 H1 S1 E1 ⟨hl1, rfl⟩ (.of trivial)
        · rename_i xs h2
          split at h
          · rename_i hb
            cases h
            obtain ⟨vs, h3, h4⟩ := S1.at_ l _ h2
            exact q _ μ1 H1 S2 E2 ⟨μ1 l, vs, rfl, h3, by rw [ln]; exact ne, h4.cut (fun _ _ => rfl) (by rw [ln]; exact k.1) (by rw [ln]; exact hb)⟩ (.inr ⟨_, rfl, fr⟩)
          · cases h
            exact q _ μ1 H1 S1 E1 ⟨hl1, rfl⟩ (.of trivial)
        · cases h
          exact q _ μ1 H1 S1 E1 ⟨hl1, rfl⟩ (.of trivial)
    · split at h
      · rename_i hb
        cases h
        exact q v μ1 H1 S2 E2 (r1.cut (fun _ _ => rfl) (by rw [ln]; exact k.1) (by rw [ln]; exact hb)) f1
      · cases h
        exact q v μ1 H1 S1 E1 r1 f1
  · cases h
    exact q v μ1 H1 S1 E1 r1 f1
end
section
variable {P : Program} {w : World} {K : PySem.W.Frag} {mg : Str → Option Value} {base : Heap} {k : Nat} {f : Addr} {fd : FuncData} {ps : List Str}
theorem start_re {μ : Nat → Addr} {n m : Nat} {H : Hp} {N : List Str} {as : List A} {vs : List V} (r : Paired (RN K μ n H) as vs) (hN : N.length - vs.length = m) : RE K μ n H (L2.start N vs) (as.map some ++ List.replicate m none) := by
  have hl := r.length
  unfold L2.start
  rw [hN]
  refine ⟨by simp [hl], fun i a e => ?_⟩
  by_cases h : i < as.length
  · rw [List.getElem?_append_left (by simpa using h), List.getElem?_map] at e
    obtain ⟨b, h1, h2⟩ := Option.map_eq_some_iff.mp e
    cases h2
    obtain ⟨v, h3, h4⟩ := pd_get r h1
    exact ⟨h4.1, v, by rw [List.getElem?_append_left (by simpa [← hl] using h), List.getElem?_map, h3]; rfl, h4.2⟩
  · rw [List.getElem?_append_right (by simpa using h), List.getElem?_replicate] at e
    split at e <;> cases e
/-- a def by its body -/
theorem ok_def {x qual : Str} {st : Stmt} {N : List Str} {g : FS} {m : Nat} (F : Fun K x qual st f fd) (S : FnScope N ps (defScope st)) (hm : N.length - ps.length = m)
    (body : ∀ (cdv : Value) (A : Around) (outer : List Env) (s : Shared) (H : Hp) (E : XK), Still A → Room k (A.deeper (envOfC qual (defScope st) s.heap.objs.size f cdv)) →
      PSs (cxOf CX0 P w K mg base N qual (defScope st) f cdv A outer s H E).nox (defBody st) (sOf K g)) : FnG P w K mg base (k + 1) f fd ps (spOf K (defn ps.length m g)) := by
  refine okG F S (fun {vs H Q E} h => ?_) (fun cdv A outer s H vs Q E still hr h => ⟨_, body cdv A outer s H E still hr, ?_⟩)
  · obtain ⟨μ, st, as, a, st', S, r, h, q⟩ := h
    unfold defn at h
    split at h
    · rename_i hl
      rw [← r.length, hl]
    · cases h
  · obtain ⟨μ, st, as, a, st', S, r, h, q⟩ := h
    unfold defn at h
    split at h
    · rename_i hl
      have hv : vs.length = ps.length := by rw [← r.length, hl]
      refine ⟨μ, st, as.map some ++ List.replicate m none, S, start_re r (by rw [hv]; exact hm), ?_⟩
      generalize g (as.map some ++ List.replicate m none) st = z at h
      cases z with
      | nx ρ st1 =>
        intro σ1 μ1 H1 S1 R1 E1
        exact Post.finish S h q .non μ1 H1 S1 E1 rfl (.of trivial)
      | rt b st1 => exact Post.finish S h q
      | bk ρ st => cases h
      | ct ρ st => cases h
      | no => cases h
    · cases h
end
end Ev
namespace Ev
open PySem PySem.Spec PyProof.Rows L2 Gd
/-! ### operators by values -/
instance (i j : Int) : Decidable (CMulW i j) := inferInstanceAs (Decidable (_ < _))
instance (i j : Int) : Decidable (CDivW i j) := inferInstanceAs (Decidable (_ ∧ _))
def lstM (a : A) (st : Sto) : Option (List A) := match a with
  | .tmp xs => some xs
  | .loc l => match st[l]? with
    | some (.lst xs) => some xs
    | _ => none
  | _ => none
section
variable {X : Cx} {K : PySem.W.Frag} {μ μ' : Nat → Addr} {n n' : Nat} {H H' : Hp} {st st' : Sto}
theorem lstM_at {a : A} {v : V} {xs : List A} (S : RS K μ st H) (r : Rep K μ st.length H a v) (h : lstM a st = some xs) : ∃ p vs, v = .ref p ∧ H p = some (.lst vs) ∧ RepL K μ st.length H xs vs := by
  cases a with
  | tmp ys =>
    obtain ⟨p, vs, rfl, h1, h2, h3⟩ := r
    cases h
    exact ⟨p, vs, rfl, h1, h3⟩
  | loc l =>
    obtain ⟨h1, rfl⟩ := r
    unfold lstM at h
    simp only at h
    split at h
    · rename_i ys h2
      cases h
      obtain ⟨vs, h3, h4⟩ := S.at_ l _ h2
      exact ⟨μ l, vs, rfl, h3, h4⟩
    · cases h
  | _ => cases h
theorem seqOf_sq {a : A} {v : V} {xs : List A} (S : RS K μ st H) (r : Rep K μ st.length H a v) (h : seqOf a st = some xs) : ∃ p vs, v = .ref p ∧ (SqL K H p vs ∨ SqT K H p vs) ∧ RepL K μ st.length H xs vs := by
  unfold seqOf at h
  split at h
  · rename_i ys
    cases h
    obtain ⟨p, vs, rfl, h1, h2⟩ := r
    exact ⟨p, vs, rfl, .inr h1.sq, h2⟩
  · cases h
    obtain ⟨p, x, y, rfl, h1, h2, h3⟩ := r
    exact ⟨p, _, rfl, .inr (.inl (.inl h1)), repL_iff.mpr (.cons h2 (.cons h3 .nil))⟩
  · obtain ⟨p, vs, e, h1, h2, _⟩ := lstOf_sq S r h
    exact ⟨p, vs, e, .inl h1, h2⟩
def opAdd : F2 := fun a b st => match a, b with
  | .int i, .int j => .ok (.int (i + j)) st
  | .str x, .str y => if x.length + y.length ≤ sizeLine then .ok (.str (x ++ y)) st else .no
  | .tup xs, .tup ys => if xs.length + ys.length ≤ sizeLine then .ok (.tup (xs ++ ys)) st else .no
  | a, b => match lstM a st, lstM b st with
    | some xs, some ys => if xs.length + ys.length ≤ sizeLine then .ok (.tmp (xs ++ ys)) st else .no
    | _, _ => .no
def rAdd4 (K : PySem.W.Frag) : R2 := rOr (rI0 fun i j => .int (i + j)) (rOr (fun x y H Q => ∃ i j, x = .str i ∧ y = .str j ∧ i.length + j.length ≤ sizeLine ∧ Q (.str (i ++ j)) H) (rOr (rCatX K) rCat))
theorem or_add (hK : X.K = K) : OpR X (binaryOp .Add) (rAdd4 K) := opr_or op_add (opr_or op_add_str (opr_or (op_catX hK) op_cat))
theorem og_add : Op2 K (rAdd4 K) opAdd := by
  intro μ st H a b c st' v u Q S ra rb h q
  unfold opAdd at h
  split at h
  · cases h
    exact .inl ⟨_, _, ra, rb, q.ok S rfl trivial⟩
  · split at h
    · rename_i hl
      cases h
      exact .inr (.inl ⟨_, _, ra, rb, hl, q.ok S rfl trivial⟩)
    · cases h
  · rename_i xs ys
    split at h
    · rename_i hl
      cases h
      obtain ⟨p, vs, rfl, h1, h2⟩ := ra
      obtain ⟨p2, vs2, rfl, h3, h4⟩ := rb
      have e1 := (repL_iff.mp h2).length
      have e2 := (repL_iff.mp h4).length
      refine .inr (.inr (.inl ⟨p, p2, vs, vs2, rfl, rfl, h1.sq, h3.sq, by omega, fun e => ?_, fun n e => ?_, fun n1 n2 => ?_⟩))
      · have : xs = [] := List.eq_nil_of_length_eq_zero (by rw [e1, e]; rfl)
        subst this
        exact q.ok S ⟨p2, vs2, rfl, h3, h4⟩ trivial
      · have : ys = [] := List.eq_nil_of_length_eq_zero (by rw [e2, e]; rfl)
        subst this
        rw [List.append_nil] at q
        exact q.ok S ⟨p, vs, rfl, h1, h2⟩ trivial
      · exact q.tup S (repL_iff.mpr (pd_append (repL_iff.mp h2) (repL_iff.mp h4)))
    · cases h
  · split at h
    · rename_i xs ys h1 h2
      split at h
      · rename_i hl
        cases h
        obtain ⟨p, vs, rfl, h3, h4⟩ := lstM_at S ra h1
        obtain ⟨p2, vs2, rfl, h5, h6⟩ := lstM_at S rb h2
        have e1 := (repL_iff.mp h4).length
        have e2 := (repL_iff.mp h6).length
        exact .inr (.inr (.inr ⟨p, p2, vs, vs2, rfl, rfl, h3, h5, by omega, fun t ht => q.tmp S ht (repL_iff.mpr (pd_append (repL_iff.mp h4) (repL_iff.mp h6)))⟩))
      · cases h
    · cases h
/-- ints -/
def opInt (C : Int → Int → Prop) [∀ i j, Decidable (C i j)] (f : Int → Int → Int) : F2 := fun a b st => match a, b with
  | .int i, .int j => if C i j then .ok (.int (f i j)) st else .no
  | _, _ => .no
theorem og_I {C : Int → Int → Prop} [∀ i j, Decidable (C i j)] {f : Int → Int → Int} : Op2 K (rI C fun i j => .int (f i j)) (opInt C f) := by
  intro μ st H a b c st' v u Q S ra rb h q
  unfold opInt at h
  split at h
  · split at h
    · rename_i hc
      cases h
      exact ⟨_, _, ra, rb, hc, q.ok S rfl trivial⟩
    · cases h
  · cases h
def opSub : F2 := fun a b st => match a, b with
  | .int i, .int j => .ok (.int (i - j)) st
  | _, _ => .no
theorem og_sub : Op2 K (rI0 fun i j => .int (i - j)) opSub := by
  intro μ st H a b c st' v u Q S ra rb h q
  unfold opSub at h
  split at h
  · cases h
    exact ⟨_, _, ra, rb, q.ok S rfl trivial⟩
  · cases h
abbrev opDiv : F2 := opInt CDivW (· / ·)
abbrev opMod : F2 := opInt (fun _ j => 0 < j) (· % ·)
instance (i j : Int) : Decidable (CPow i j) := inferInstanceAs (Decidable (_ ∧ _ ∧ _))
abbrev opPow : F2 := opInt CPow (fun i j => i ^ j.toNat)
def opMul : F2 := fun a b st => match a, b with
  | .int i, .int j => if CMulW i j then .ok (.int (i * j)) st else .no
  | .tup xs, .int k => if xs.length ≠ 0 ∧ 1 ≤ k ∧ k ≤ 1000 ∧ xs.length ≤ 1000 then .ok (.tup (List.replicate k.toNat xs).flatten) st else .no
  | a, .int k => match lstM a st with
    | some xs => if -(2 ^ 63) ≤ k ∧ k < 2 ^ 63 ∧ xs.length * k.toNat ≤ sizeLine then .ok (.tmp (List.replicate k.toNat xs).flatten) st else .no
    | none => .no
  | _, _ => .no
def opLt : F2 := fun a b st => match a, b with
  | .int i, .int j => .ok (.bl (decide (i < j))) st
  | _, _ => .no
def opLe : F2 := fun a b st => match a, b with
  | .int i, .int j => .ok (.bl (decide (i ≤ j))) st
  | _, _ => .no
def opGt : F2 := fun a b st => match a, b with
  | .int i, .int j => .ok (.bl (decide (j < i))) st
  | _, _ => .no
def opGe : F2 := fun a b st => match a, b with
  | .int i, .int j => .ok (.bl (decide (j ≤ i))) st
  | _, _ => .no
theorem og_lt : Op2 K (rI0 fun i j => .bl (decide (i < j))) opLt := by
  intro μ st H a b c st' v u Q S ra rb h q
  unfold opLt at h
  split at h
  · cases h; exact ⟨_, _, ra, rb, q.ok S rfl trivial⟩
  · cases h
theorem og_le : Op2 K (rI0 fun i j => .bl (decide (i ≤ j))) opLe := by
  intro μ st H a b c st' v u Q S ra rb h q
  unfold opLe at h
  split at h
  · cases h; exact ⟨_, _, ra, rb, q.ok S rfl trivial⟩
  · cases h
theorem og_gt : Op2 K (rI0 fun i j => .bl (decide (j < i))) opGt := by
  intro μ st H a b c st' v u Q S ra rb h q
  unfold opGt at h
  split at h
  · cases h; exact ⟨_, _, ra, rb, q.ok S rfl trivial⟩
  · cases h
theorem og_ge : Op2 K (rI0 fun i j => .bl (decide (j ≤ i))) opGe := by
  intro μ st H a b c st' v u Q S ra rb h q
  unfold opGe at h
  split at h
  · cases h; exact ⟨_, _, ra, rb, q.ok S rfl trivial⟩
  · cases h
/-! == -/
mutual
def dW (g : Nat → Option PyData) : A → Option PyData
  | .non => some .none
  | .bl b => some (.bool b)
  | .int i => some (.int i)
  | .str x => some (.str x)
  | .tup xs => (dWs g xs).map .tuple
  | .pr a b => (match dW g a, dW g b with
    | some d, some e => some (.tuple [d, e])
    | _, _ => none)
  | .tmp xs => (dWs g xs).map .list
  | .frz xs => (dWs g xs).map .list
  | .loc l => g l
  | .dtm _ => none
def dWs (g : Nat → Option PyData) : List A → Option (List PyData)
  | [] => some []
  | a :: r => (match dW g a, dWs g r with
    | some d, some ds => some (d :: ds)
    | _, _ => none)
end
def dS : Nat → Sto → A → Option PyData
  | 0, _ => dW fun _ => none
  | k + 1, st => dW fun l => match st[l]? with
    | some (.lst xs) => (dWs (fun l => match st[l]? with
      | some (.lst ys) => (dWs (fun _ => none) ys).map .list
      | _ => none) xs).map .list
    | _ => none
/-- the data that it is -/
def toD (st : Sto) : A → Option PyData := dS 1 st
mutual
theorem dW_ok {g : Nat → Option PyData} (hg : ∀ l d, l < n → g l = some d → Dp K H (.ref (μ l)) d) : ∀ {a : A} {v : V} {d : PyData}, Rep K μ n H a v → dW g a = some d → Dp K H v d
  | .non, v, d, r, h => by cases (show v = .non from r); cases h; exact .non
  | .bl b, v, d, r, h => by cases (show v = .bl b from r); cases h; exact .bl b
  | .int b, v, d, r, h => by cases (show v = .int b from r); cases h; exact .int b
  | .str b, v, d, r, h => by cases (show v = .str b from r); cases h; exact .str b
  | .tup xs, v, d, ⟨p, vs, e, h1, h2⟩, h => by
    subst e
    have h' : (dWs g xs).map PyData.tuple = some d := h
    obtain ⟨ds, h3, rfl⟩ := Option.map_eq_some_iff.mp h'
    exact .tup h1.sq (dWs_ok hg h2 h3)
  | .pr a b, v, d, ⟨p, x, y, e, h1, h2, h3⟩, h => by
    subst e
    unfold dW at h
    split at h
    · rename_i d1 d2 h4 h5
      cases h
      exact .tup (.inl (.inl h1)) (.cons (dW_ok hg h2.2 h4) (.cons (dW_ok hg h3.2 h5) .nil))
    · cases h
  | .tmp xs, v, d, ⟨p, vs, e, h1, _, h2⟩, h => by
    subst e
    have h' : (dWs g xs).map PyData.list = some d := h
    obtain ⟨ds, h3, rfl⟩ := Option.map_eq_some_iff.mp h'
    exact .lst (.inl (.inl h1)) (dWs_ok hg h2 h3)
  | .frz xs, v, d, ⟨p, vs, e, h1, h2⟩, h => by
    subst e
    have h' : (dWs g xs).map PyData.list = some d := h
    obtain ⟨ds, h3, rfl⟩ := Option.map_eq_some_iff.mp h'
    refine .lst ?_ (dWs_ok hg h2 h3)
    rcases h1 with ⟨o, h1⟩ | h1
    · exact .inl (.inr ⟨o, h1⟩)
    · exact .inr h1
  | .loc l, v, d, ⟨h1, e⟩, h => by
    subst e
    exact hg l d h1 h
  | .dtm _, v, d, r, h => by cases h
theorem dWs_ok {g : Nat → Option PyData} (hg : ∀ l d, l < n → g l = some d → Dp K H (.ref (μ l)) d) : ∀ {xs : List A} {vs : List V} {ds : List PyData}, RepL K μ n H xs vs → dWs g xs = some ds → DpAll K H vs ds
  | [], vs, ds, r, h => by cases (show vs = [] from r); cases h; exact .nil
  | a :: xs, vs, ds, ⟨v, vr, e, _, h1, h2⟩, h => by
    subst e
    unfold dWs at h
    split at h
    · rename_i d ds' h3 h4
      cases h
      exact .cons (dW_ok hg h1 h3) (dWs_ok hg h2 h4)
    · cases h
end
theorem toD_ok {a : A} {v : V} {d : PyData} (S : RS K μ st H) (r : Rep K μ st.length H a v) (h : toD st a = some d) : Dp K H v d := by
  refine dW_ok (fun l d hl h => ?_) r h
  split at h
  · rename_i xs h1
    obtain ⟨ds, h2, rfl⟩ := Option.map_eq_some_iff.mp h
    obtain ⟨vs, h3, h4⟩ := S.at_ l _ h1
    refine .lst (.inl (.inl h3)) (dWs_ok (fun l d hl h => ?_) h4 h2)
    split at h
    · rename_i ys h5
      obtain ⟨es, h6, rfl⟩ := Option.map_eq_some_iff.mp h
      obtain ⟨ws, h7, h8⟩ := S.at_ l _ h5
      exact .lst (.inl (.inl h7)) (dWs_ok (fun l d hl h => by cases h) h8 h6)
    · cases h
  · cases h
def opEq : F2 := fun a b st => match a, b with
  | .str x, .str y => .ok (.bl (decide (x = y))) st
  | a, b => (match toD st a, toD st b with
    | some d, some e => if (SeqAt.shaped d && SeqAt.shaped e) = true then .ok (.bl (PyData.eqv d e)) st else .no
    | _, _ => .no)
def opNe : F2 := fun a b st => match a, b with
  | .str x, .str y => .ok (.bl (!decide (x = y))) st
  | a, b => (match toD st a, toD st b with
    | some d, some e => if (SeqAt.shaped d && SeqAt.shaped e) = true then .ok (.bl (!PyData.eqv d e)) st else .no
    | _, _ => .no)
theorem dec_str (x y : Str) : decide (V.str x = V.str y) = decide (x = y) := by
  by_cases e : x = y
  · subst e
    rw [decide_eq_true rfl, decide_eq_true rfl]
  · rw [decide_eq_false e, decide_eq_false fun z => e (V.str.inj z)]
theorem or_eq (hK : X.K = K) (hu : X.A.units + 64 < cLine) : OpR X (compareOp .Eq) (rOr rEq (rEqD K)) := opr_or op_eq (eqK hK hu)
theorem or_ne (hK : X.K = K) (hu : X.A.units + 64 < cLine) : OpR X (compareOp .NotEq) (rOr rNe (rNeD K)) := opr_or op_ne (neK hK hu)
theorem og_eq : Op2 K (rOr rEq (rEqD K)) opEq := by
  intro μ st H a b c st' v u Q S ra rb h q
  unfold opEq at h
  split at h
  · rename_i x y
    cases h
    cases (show v = .str x from ra)
    cases (show u = .str y from rb)
    exact .inl ⟨rfl, by rw [dec_str]; exact q.ok S rfl trivial⟩
  · split at h
    · rename_i d e h1 h2
      split at h
      · rename_i hs
        cases h
        rw [Bool.and_eq_true] at hs
        exact .inr ⟨d, e, toD_ok S ra h1, toD_ok S rb h2, hs.1, hs.2, q.ok S rfl trivial⟩
      · cases h
    · cases h
theorem og_ne : Op2 K (rOr rNe (rNeD K)) opNe := by
  intro μ st H a b c st' v u Q S ra rb h q
  unfold opNe at h
  split at h
  · rename_i x y
    cases h
    cases (show v = .str x from ra)
    cases (show u = .str y from rb)
    exact .inl ⟨rfl, by rw [dec_str]; exact q.ok S rfl trivial⟩
  · split at h
    · rename_i d e h1 h2
      split at h
      · rename_i hs
        cases h
        rw [Bool.and_eq_true] at hs
        exact .inr ⟨d, e, toD_ok S ra h1, toD_ok S rb h2, hs.1, hs.2, q.ok S rfl trivial⟩
      · cases h
    · cases h
/-! is None, is True -/
def isNon : A → Bool
  | .non => true
  | _ => false
def opIs : F2 := fun a b st => match b with
  | .non => .ok (.bl (isNon a)) st
  | .bl y => (match a with | .bl x => .ok (.bl (decide (x = y))) st | _ => .no)
  | _ => .no
def opIsN : F2 := fun a b st => match b with
  | .non => .ok (.bl (!isNon a)) st
  | .bl y => (match a with | .bl x => .ok (.bl (!decide (x = y))) st | _ => .no)
  | _ => .no
def rIs2 : R2 := rOr (fun x y H Q => y = .non ∧ Q (.bl (decide (x = .non))) H) (fun x y H Q => ∃ a b, x = .bl a ∧ y = .bl b ∧ Q (.bl (decide (a = b))) H)
def rIsN2 : R2 := rOr (fun x y H Q => y = .non ∧ Q (.bl (!decide (x = .non))) H) (fun x y H Q => ∃ a b, x = .bl a ∧ y = .bl b ∧ Q (.bl (!decide (a = b))) H)
theorem or_is : OpR X (compareOp .Is) rIs2 := opr_or op_isN op_is_bl
theorem or_isn : OpR X (compareOp .IsNot) rIsN2 := opr_or op_notN op_isnot_bl
theorem non_iff {a : A} {v : V} (r : Rep K μ n H a v) : decide (v = .non) = isNon a := by
  cases a with
  | non => cases (show v = .non from r); rfl
  | bl b => cases (show v = .bl b from r); rfl
  | int b => cases (show v = .int b from r); rfl
  | str b => cases (show v = .str b from r); rfl
  | tup b => obtain ⟨p, vs, rfl, _⟩ := r; rfl
  | pr b c => obtain ⟨p, x, y, rfl, _⟩ := r; rfl
  | tmp b => obtain ⟨p, vs, rfl, _⟩ := r; rfl
  | frz b => obtain ⟨p, vs, rfl, _⟩ := r; rfl
  | loc b => obtain ⟨_, rfl⟩ := r; rfl
  | dtm b => obtain ⟨p, vs, rfl, _⟩ := r; rfl
theorem og_is : Op2 K rIs2 opIs := by
  intro μ st H a b c st' v u Q S ra rb h q
  unfold opIs at h
  split at h
  · cases h
    refine .inl ⟨rb, ?_⟩
    rw [non_iff ra]
    exact q.ok S rfl trivial
  · split at h
    · cases h
      exact .inr ⟨_, _, ra, rb, q.ok S rfl trivial⟩
    · cases h
  · cases h
theorem og_isn : Op2 K rIsN2 opIsN := by
  intro μ st H a b c st' v u Q S ra rb h q
  unfold opIsN at h
  split at h
  · cases h
    refine .inl ⟨rb, ?_⟩
    rw [non_iff ra]
    exact q.ok S rfl trivial
  · split at h
    · cases h
      exact .inr ⟨_, _, ra, rb, q.ok S rfl trivial⟩
    · cases h
  · cases h
/-! subscripts, slices -/
def opIx : F2 := fun a b st => match a, b with
  | .str z, .int i => if z.length ≤ sizeLine then (match atI z.cps.toList i with
    | some c => .ok (.str ⟨#[c]⟩) st
    | none => .no) else .no
  | a, .int i => (match seqOf a st with
    | some xs => (match atI xs i with
      | some x => .ok x st
      | none => .no)
    | none => .no)
  | _, _ => .no
theorem or_ix (hK : X.K = K) : IxR X (rIx K) := hK ▸ ix_seq
theorem og_ix : Op2 K (rIx K) opIx := by
  intro μ st H a b c st' v u Q S ra rb h q
  unfold opIx at h
  split at h
  · rename_i z i
    split at h
    · rename_i hz
      split at h
      · rename_i c h1
        cases h
        exact .inr (.inr ⟨z, i, c, ra, rb, hz, h1, q.ok S rfl trivial⟩)
      · cases h
    · cases h
  · rename_i i _
    split at h
    · rename_i xs h1
      split at h
      · rename_i x h2
        cases h
        obtain ⟨p, vs, rfl, h3, h4⟩ := seqOf_sq S ra h1
        have h4 := repL_iff.mp h4
        unfold atI at h2
        obtain ⟨j, h5, h6⟩ := Option.bind_eq_some_iff.mp h2
        obtain ⟨y, h7, h8⟩ := pd_get h4 h6
        have h9 : atI vs i = some y := by
          unfold atI
          rw [← h4.length, h5]
          exact h7
        have fin := q.ok S h8.2 h8.1
        rcases h3 with h3 | h3
        · exact .inl ⟨p, vs, i, y, rfl, rb, h3, h9, fin⟩
        · exact .inr (.inl ⟨p, vs, i, y, rfl, rb, h3, h9, fin⟩)
      · cases h
    · cases h
  · cases h
def cutA {α : Type} (xs : List α) (lo hi : Option Int) : List α := (xs.drop (HT.sIx xs.length 0 lo)).take (HT.sIx xs.length xs.length hi - HT.sIx xs.length 0 lo)
abbrev FO := Rho → Sto → R (Option Int)
def oN : FO := fun _ st => .ok none st
def oS (f : FE) : FO := fun ρ st => match f ρ st with
  | .ok (.int i) st1 => .ok (some i) st1
  | _ => .no
def cut (a : A) (lo hi : Option Int) (st : Sto) : R A := match a with
  | .str z => if z.length ≤ sizeLine then .ok (.str (cutS z lo hi)) st else .no
  | .tup xs => .ok (.tup (cutA xs lo hi)) st
  | a => (match lstOf a st with
    | some xs => .ok (.tmp (cutA xs lo hi)) st
    | none => .no)
def fSl (f : FE) (lo hi : FO) : FE := fun ρ st => match f ρ st with
  | .ok a st1 => (match lo ρ st1 with
    | .ok l st2 => (match hi ρ st2 with
      | .ok u st3 => cut a l u st3
      | .no => .no)
    | .no => .no)
  | .no => .no
def poOf (K : PySem.W.Frag) (f : FO) : TO := fun σ H Q => ∃ μ st ρ o st', RS K μ st H ∧ RE K μ st.length H σ ρ ∧ f ρ st = .ok o st' ∧ ∀ μ' H', RS K μ' st' H' → Ext μ st.length H μ' st'.length H' → Q o H'
theorem dpo_n : PO X none (poOf K oN) := ⟨fun pins s σ H Q I ⟨μ, st, ρ, o, st', S, E, h, q⟩ => by
  cases h
  exact po_none.run pins s σ H Q I (q μ H S Ext.refl)⟩
theorem dpo_s {e : Expr} {f : FE} (he : PE X e (tOf K f)) : PO X (some e) (poOf K (oS f)) := ⟨fun pins s σ H Q I ⟨μ, st, ρ, o, st', S, E, h, q⟩ => by
  unfold oS at h
  split at h
  · rename_i i st1 h1
    cases h
    exact (po_some he).run pins s σ H Q I ⟨μ, st, ρ, _, _, S, E, h1, fun v μ1 H1 S1 E1 r1 f1 => ⟨i, r1, q μ1 H1 S1 E1⟩⟩
  · cases h⟩
theorem cut_pd {F : A → V → Prop} {xs : List A} {vs : List V} (h : Paired F xs vs) (lo hi : Option Int) : Paired F (cutA xs lo hi) (cutV vs lo hi) := by
  unfold cutA cutV
  rw [h.length]
  exact pd_take _ (pd_drop _ h)
theorem cutA_all {α : Type} {xs : List α} {lo hi : Option Int} (h : HT.sIx xs.length 0 lo = 0 ∧ HT.sIx xs.length xs.length hi = xs.length) : cutA xs lo hi = xs := by
  unfold cutA
  rw [h.1, h.2, List.drop_zero, Nat.sub_zero, List.take_length]
theorem dx_slice {e : Expr} {lo hi : Option Expr} {f : FE} {fl fh : FO} {p2 pos : Pos} (hK : X.K = K) (he : PE X e (tOf K f)) (hl : PO X lo (poOf K fl)) (hu : PO X hi (poOf K fh)) : PE X (.Subscript e (.Slice lo hi none p2) pos) (tOf K (fSl f fl fh)) := by
  subst hK
  refine pe_weak (pe_slice (SlR.or (sl_tupX rfl) (SlR.or sl_list sl_str)) he hl hu) ?_
  rintro σ H Q ⟨μ, st, ρ, a, st', S, E, h, q⟩
  unfold fSl at h
  split at h
  · rename_i a1 st1 h1
    split at h
    · rename_i l st2 h2
      split at h
      · rename_i u st3 h3
        refine ⟨μ, st, ρ, a1, st1, S, E, h1, fun v μ1 H1 S1 E1 r1 f1 => ?_⟩
        refine ⟨μ1, st1, ρ, l, st2, S1, E.ext S E1, h2, fun μ2 H2 S2 E2 => ?_⟩
        refine ⟨μ2, st2, ρ, u, st3, S2, (E.ext S E1).ext S1 E2, h3, fun μ3 H3 S3 E3 => ?_⟩
        have r3 := (r1.ext S1 E2).ext S2 E3
        have q3 := q.from ((E1.trans E2).trans E3)
        unfold cut at h
        split at h
        · split at h
          · rename_i z hz
            cases h
            exact .inr (.inr ⟨_, r3, hz, q3.ok S3 rfl trivial⟩)
          · cases h
        · rename_i xs
          cases h
          obtain ⟨p, vs, rfl, h4, h5⟩ := r3
          have h5' := repL_iff.mp h5
          refine .inl ⟨p, vs, rfl, h4.sq, fun w => ?_, fun w => q3.tup S3 (repL_iff.mpr (cut_pd h5' l u))⟩
          have w' : HT.sIx xs.length 0 l = 0 ∧ HT.sIx xs.length xs.length u = xs.length := by rw [h5'.length]; exact w
          rw [cutA_all w'] at q3
          exact q3.ok S3 ⟨p, vs, rfl, h4, h5⟩ trivial
        · split at h
          · rename_i xs h4
            cases h
            obtain ⟨p, vs, rfl, h5, h6, _⟩ := lstOf_sq S3 r3 h4
            exact .inr (.inl ⟨p, vs, rfl, h5, fun t ht => q3.tmp S3 ht (repL_iff.mpr (cut_pd (repL_iff.mp h6) l u))⟩)
          · cases h
      · cases h
    · cases h
  · cases h
def fRev (f : FE) : FE := fun ρ st => match f ρ st with
  | .ok a st1 => (match lstOf a st1 with
    | some xs => .ok (.tmp xs.reverse) st1
    | none => .no)
  | .no => .no
theorem dx_rev {e : Expr} {f : FE} {k : Nat} {p1 p2 p3 pos : Pos} (hK : X.K = K) (he : PE X e (tOf K f)) : PE X (.Subscript e (.Slice none none (some (.UnaryOp .USub (.Constant (.int 1) k p1) p2)) p3) pos) (tOf K (fRev f)) := by
  subst hK
  refine pe_weak (pe_revL he) ?_
  rintro σ H Q ⟨μ, st, ρ, a, st', S, E, h, q⟩
  unfold fRev at h
  split at h
  · rename_i a1 st1 h1
    split at h
    · rename_i xs h2
      cases h
      refine ⟨μ, st, ρ, a1, _, S, E, h1, fun v μ1 H1 S1 E1 r1 f1 => ?_⟩
      obtain ⟨p, vs, rfl, h5, h6, _⟩ := lstOf_sq S1 r1 h2
      exact ⟨p, vs, rfl, h5, fun t ht => (q.from E1).tmp S1 ht (repL_iff.mpr (pd_rev (repL_iff.mp h6)))⟩
    · cases h
  · cases h
/-! unary -/
def fNeg (f : FE) : FE := fun ρ st => match f ρ st with
  | .ok (.int i) st1 => .ok (.int (-i)) st1
  | _ => .no
theorem dx_neg {e : Expr} {f : FE} {pos : Pos} (he : PE X e (tOf K f)) : PE X (.UnaryOp .USub e pos) (tOf K (fNeg f)) := by
  refine pe_weak (pe_un un_neg he) ?_
  rintro σ H Q ⟨μ, st, ρ, a, st', S, E, h, q⟩
  unfold fNeg at h
  split at h
  · rename_i i st1 h1
    cases h
    exact ⟨μ, st, ρ, _, _, S, E, h1, fun v μ1 H1 S1 E1 r1 f1 => ⟨i, r1, (q.from E1).ok S1 rfl trivial⟩⟩
  · cases h
end
end Ev
namespace Ev
open PySem PySem.Spec PyProof.Rows L2 Gd
/-! ### builtins -/
def intsOf : List A → Option (List Int)
  | [] => some []
  | .int i :: r => (intsOf r).map (i :: ·)
  | _ => none
section
variable {X : Cx} {K : PySem.W.Frag} {μ μ' : Nat → Addr} {n n' : Nat} {H H' : Hp} {st st' : Sto}
theorem intsOf_at : ∀ {xs : List A} {vs : List V} {ns : List Int}, RepL K μ n H xs vs → intsOf xs = some ns → vs = ns.map V.int ∧ xs = ns.map A.int
  | [], vs, ns, r, h => by cases (show vs = [] from r); cases h; exact ⟨rfl, rfl⟩
  | a :: xs, vs, ns, ⟨v, vr, e, _, h1, h2⟩, h => by
    subst e
    cases a with
    | int i =>
      have h' : (intsOf xs).map (i :: ·) = some ns := h
      obtain ⟨ms, h3, rfl⟩ := Option.map_eq_some_iff.mp h'
      obtain ⟨e1, e2⟩ := intsOf_at h2 h3
      cases (show v = .int i from h1)
      rw [e1, e2]
      exact ⟨rfl, rfl⟩
    | _ => cases h
theorem intsOf_map (ns : List Int) : intsOf (ns.map A.int) = some ns := by
  induction ns with
  | nil => rfl
  | cons n ns ih => show (intsOf (ns.map A.int)).map (n :: ·) = _; rw [ih]; rfl
theorem repL_ints : ∀ (ns : List Int), RepL K μ n H (ns.map A.int) (ns.map V.int)
  | [] => rfl
  | i :: ns => ⟨.int i, _, rfl, trivial, rfl, repL_ints ns⟩
def bLen : FN := fun as st => match as with
  | [.str z] => if z.length ≤ sizeLine then .ok (.int z.length) st else .no
  | [a] => (match seqOf a st with
    | some xs => .ok (.int xs.length) st
    | none => .no)
  | _ => .no
def rLen2 (K : PySem.W.Frag) := rOrN (rLenK K) (fun xs H Q => ∃ z, xs = [.str z] ∧ z.length ≤ sizeLine ∧ Q (.int z.length) H)
theorem cr_len (hK : X.K = K) : CallR X (.builtin "len") (rLen2 K) := cr_or (lenK hK) call_len_str
theorem on_len : OpN K (rLen2 K) bLen := by
  intro μ st H as c st' vs Q S r h q
  unfold bLen at h
  split at h
  · rename_i z
    split at h
    · rename_i hz
      cases h
      cases r with
      | cons r1 r2 =>
        cases r2
        cases (show _ = V.str z from r1)
        exact .inr ⟨z, rfl, hz, q.ok S rfl trivial⟩
    · cases h
  · split at h
    · rename_i xs h1
      cases h
      cases r with
      | cons r1 r2 =>
        cases r2
        obtain ⟨p, ws, rfl, h3, h4⟩ := seqOf_sq S r1 h1
        rw [(repL_iff.mp h4).length] at q
        exact .inl ⟨p, ws, rfl, h3, q.ok S rfl trivial⟩
    · cases h
  · cases h
def bAbs : FN := fun as st => match as with
  | [.int i] => .ok (.int (if i < 0 then -i else i)) st
  | _ => .no
theorem on_abs : OpN K (fun xs H Q => ∃ i, xs = [.int i] ∧ Q (.int (if i < 0 then -i else i)) H) bAbs := by
  intro μ st H as c st' vs Q S r h q
  unfold bAbs at h
  split at h
  · cases h
    cases r with
    | cons r1 r2 =>
      cases r2
      cases (show _ = V.int _ from r1)
      exact ⟨_, rfl, q.ok S rfl trivial⟩
  · cases h
def bInt : FN := fun as st => match as with
  | [.int i] => .ok (.int i) st
  | [.bl k] => .ok (.int (if k then 1 else 0)) st
  | _ => .no
theorem on_int : OpN K (fun xs H Q => (∃ i, xs = [.int i] ∧ Q (.int i) H) ∨ ∃ k, xs = [.bl k] ∧ Q (.int (if k then 1 else 0)) H) bInt := by
  intro μ st H as c st' vs Q S r h q
  unfold bInt at h
  split at h
  · cases h
    cases r with
    | cons r1 r2 =>
      cases r2
      cases (show _ = V.int _ from r1)
      exact .inl ⟨_, rfl, q.ok S rfl trivial⟩
  · cases h
    cases r with
    | cons r1 r2 =>
      cases r2
      cases (show _ = V.bl _ from r1)
      exact .inr ⟨_, rfl, q.ok S rfl trivial⟩
  · cases h
def bTup : FN := fun as st => match as with
  | [.tup xs] => .ok (.tup xs) st
  | [a] => (match lstOf a st with
    | some xs => .ok (.tup xs) st
    | none => .no)
  | _ => .no
theorem on_tup : OpN K (rTupX K) bTup := by
  intro μ st H as c st' vs Q S r h q
  unfold bTup at h
  split at h
  · rename_i xs
    cases h
    cases r with
    | cons r1 r2 =>
      cases r2
      obtain ⟨p, ws, rfl, h1, h2⟩ := r1
      exact ⟨p, ws, rfl, .inr ⟨h1.sq, q.ok S ⟨p, ws, rfl, h1, h2⟩ trivial⟩⟩
  · split at h
    · rename_i xs h1
      cases h
      cases r with
      | cons r1 r2 =>
        cases r2
        obtain ⟨p, ws, rfl, h3, h4, _⟩ := lstOf_sq S r1 h1
        exact ⟨p, ws, rfl, .inl ⟨h3, q.tup S h4⟩⟩
    · cases h
  · cases h
def bLst : FN := fun as st => match as with
  | [a] => (match seqOf a st with
    | some xs => .ok (.tmp xs) st
    | none => .no)
  | _ => .no
theorem on_lst : OpN K (rLstK K) bLst := by
  intro μ st H as c st' vs Q S r h q
  unfold bLst at h
  split at h
  · split at h
    · rename_i xs h1
      cases h
      cases r with
      | cons r1 r2 =>
        cases r2
        obtain ⟨p, ws, rfl, h3, h4⟩ := seqOf_sq S r1 h1
        exact ⟨p, ws, rfl, h3, fun t ht => q.tmp S ht h4⟩
    · cases h
  · cases h
def bSum : FN := fun as st => match as with
  | [a] => (match seqOf a st with
    | some xs => (match intsOf xs with
      | some ns => .ok (.int ns.sum) st
      | none => .no)
    | none => .no)
  | _ => .no
theorem seq_ints {a : A} {v : V} {xs : List A} {ns : List Int} (S : RS K μ st H) (r : Rep K μ st.length H a v) (h : seqOf a st = some xs) (h2 : intsOf xs = some ns) : ∃ p, v = .ref p ∧ (SqL K H p (ns.map V.int) ∨ SqT K H p (ns.map V.int)) := by
  obtain ⟨p, ws, rfl, h3, h4⟩ := seqOf_sq S r h
  rw [(intsOf_at h4 h2).1] at h3
  exact ⟨p, rfl, h3⟩
theorem on_sum : OpN K (rSum2 K) bSum := by
  intro μ st H as c st' vs Q S r h q
  unfold bSum at h
  split at h
  · split at h
    · rename_i xs h1
      split at h
      · rename_i ns h2
        cases h
        cases r with
        | cons r1 r2 =>
          cases r2
          obtain ⟨p, rfl, h3⟩ := seq_ints S r1 h1 h2
          exact ⟨p, ns, rfl, h3, q.ok S rfl trivial⟩
      · cases h
    · cases h
  · cases h
def srtI (ns : List Int) : List Int := ns.mergeSort (fun a b => decide (a ≤ b))
theorem srtI_perm (ns : List Int) : (srtI ns).Perm ns := List.mergeSort_perm _ _
theorem srtI_pair (ns : List Int) : (srtI ns).Pairwise (· ≤ ·) := by
  have h := List.pairwise_mergeSort (le := fun a b : Int => decide (a ≤ b)) (by intro a b c; simp; omega) (by intro a b; simp; omega) ns
  exact h.imp (by intro a b h; simpa using h)
theorem srtI_of {ns ms : List Int} (p : ms.Perm ns) (s : ms.Pairwise (· ≤ ·)) : ms = srtI ns :=
  List.Perm.eq_of_pairwise (fun _ _ _ _ a b => Int.le_antisymm a b) s (srtI_pair ns) (p.trans (srtI_perm ns).symm)
def bSrt : FN := fun as st => match as with
  | [a] => (match seqOf a st with
    | some xs => (match intsOf xs with
      | some ns => .ok (.tmp ((srtI ns).map A.int)) st
      | none => .no)
    | none => .no)
  | _ => .no
theorem on_srt : OpN K (rSrt K) bSrt := by
  intro μ st H as c st' vs Q S r h q
  unfold bSrt at h
  split at h
  · split at h
    · rename_i xs h1
      split at h
      · rename_i ns h2
        cases h
        cases r with
        | cons r1 r2 =>
          cases r2
          obtain ⟨p, rfl, h3⟩ := seq_ints S r1 h1 h2
          refine ⟨p, ns, rfl, h3, fun ns' t hp hs ht => ?_⟩
          rw [srtI_of hp hs]
          exact q.tmp S ht (repL_ints _)
      · cases h
    · cases h
  · cases h
/-- the least, the greatest -/
def bMin : FN := fun as st => match as with
  | [.int i, .int j] => .ok (.int (if j < i then j else i)) st
  | [a] => (match lstOf a st with
    | some xs => (match intsOf xs with
      | some ns => (match ns.min? with
        | some m => .ok (.int m) st
        | none => .no)
      | none => .no)
    | none => .no)
  | _ => .no
def bMax : FN := fun as st => match as with
  | [.int i, .int j] => .ok (.int (if j > i then j else i)) st
  | [a] => (match lstOf a st with
    | some xs => (match intsOf xs with
      | some ns => (match ns.max? with
        | some m => .ok (.int m) st
        | none => .no)
      | none => .no)
    | none => .no)
  | _ => .no
def rMin3 (K : PySem.W.Frag) := rOrN (fun xs H Q => ∃ i j, xs = [.int i, .int j] ∧ Q (.int (if j < i then j else i)) H) (rMin K)
def rMax3 (K : PySem.W.Frag) := rOrN (fun xs H Q => ∃ i j, xs = [.int i, .int j] ∧ Q (.int (if j > i then j else i)) H) (rMax K)
theorem cr_min3 (hK : X.K = K) (hc : X.calm = true) : CallR X (.builtin "min") (rMin3 K) := cr_or (call_min2 hc) (minK hK hc)
theorem cr_max3 (hK : X.K = K) (hc : X.calm = true) : CallR X (.builtin "max") (rMax3 K) := cr_or (call_max2 hc) (maxK hK hc)
theorem on_min : OpN K (rMin3 K) bMin := by
  intro μ st H as c st' vs Q S r h q
  unfold bMin at h
  split at h
  · cases h
    cases r with
    | cons r1 r2 =>
      cases r2 with
      | cons r2 r3 =>
        cases r3
        cases (show _ = V.int _ from r1)
        cases (show _ = V.int _ from r2)
        exact .inl ⟨_, _, rfl, q.ok S rfl trivial⟩
  · split at h
    · rename_i xs h1
      split at h
      · rename_i ns h2
        split at h
        · rename_i m h3
          cases h
          cases r with
          | cons r1 r2 =>
            cases r2
            obtain ⟨p, ws, rfl, h4, h5, _⟩ := lstOf_sq S r1 h1
            rw [(intsOf_at h5 h2).1] at h4
            refine .inr ⟨p, ns, rfl, h4, ?_, fun k hk hl => ?_⟩
            · cases ns with
              | nil => cases h3
              | cons _ _ => simp
            · have h6 : ns.min? = some k := List.min?_eq_some_iff.mpr ⟨hk, hl⟩
              rw [h3] at h6
              cases h6
              exact q.ok S rfl trivial
        · cases h
      · cases h
    · cases h
  · cases h
theorem on_max : OpN K (rMax3 K) bMax := by
  intro μ st H as c st' vs Q S r h q
  unfold bMax at h
  split at h
  · cases h
    cases r with
    | cons r1 r2 =>
      cases r2 with
      | cons r2 r3 =>
        cases r3
        cases (show _ = V.int _ from r1)
        cases (show _ = V.int _ from r2)
        exact .inl ⟨_, _, rfl, q.ok S rfl trivial⟩
  · split at h
    · rename_i xs h1
      split at h
      · rename_i ns h2
        split at h
        · rename_i m h3
          cases h
          cases r with
          | cons r1 r2 =>
            cases r2
            obtain ⟨p, ws, rfl, h4, h5, _⟩ := lstOf_sq S r1 h1
            rw [(intsOf_at h5 h2).1] at h4
            refine .inr ⟨p, ns, rfl, h4, ?_, fun k hk hl => ?_⟩
            · cases ns with
              | nil => cases h3
              | cons _ _ => simp
            · have h6 : ns.max? = some k := List.max?_eq_some_iff.mpr ⟨hk, hl⟩
              rw [h3] at h6
              cases h6
              exact q.ok S rfl trivial
        · cases h
      · cases h
    · cases h
  · cases h
/-- what repr can show -/
def ReprOk (d : PyData) : Prop := ∃ dp n, Sm dp n d ∧ dp ≤ 20 ∧ n ≤ 2 ^ 20
open Classical in
noncomputable def bRepr : FN := fun as st => match as with
  | [a] => (match toD st a with
    | some d => if ReprOk d then .ok (.str d.shown) st else .no
    | none => .no)
  | _ => .no
theorem on_repr : OpN K (rReprS K) bRepr := by
  intro μ st H as c st' vs Q S r h q
  unfold bRepr at h
  split at h
  · split at h
    · rename_i d h1
      split at h
      · rename_i ok
        cases h
        cases r with
        | cons r1 r2 =>
          cases r2
          obtain ⟨dp, n, h2, h3, h4⟩ := ok
          exact ⟨_, d, dp, n, rfl, toD_ok S r1 h1, h2, h3, h4, q.ok S rfl trivial⟩
      · cases h
    · cases h
  · cases h
end
end Ev
namespace Ev
open PySem PySem.Spec PyProof.Rows L2 Gd
inductive Ty where
  | nn | bl | int | str | tup | lst | dct
  deriving DecidableEq
def Ty.nm : Ty → String
  | .nn => "NoneType"
  | .bl => "bool"
  | .int => "int"
  | .str => "str"
  | .tup => "tuple"
  | .lst => "list"
  | .dct => "dict"
def tyA (a : A) (st : Sto) : Option Ty := match a with
  | .non => some .nn
  | .bl _ => some .bl
  | .int _ => some .int
  | .str _ => some .str
  | .tup _ => some .tup
  | .pr _ _ => some .tup
  | .tmp _ => some .lst
  | .frz _ => some .lst
  | .dtm _ => some .dct
  | .loc l => match st[l]? with
    | some (.lst _) => some .lst
    | some (.dic _) => some .dct
    | none => none
def Ty.is : Ty → Ty → Bool
  | .nn, .nn => true
  | .bl, .bl => true
  | .bl, .int => true
  | .int, .int => true
  | .str, .str => true
  | .tup, .tup => true
  | .lst, .lst => true
  | .dct, .dct => true
  | _, _ => false
section
variable {X : Cx} {K : PySem.W.Frag} {μ μ' : Nat → Addr} {n n' : Nat} {H H' : Hp} {st st' : Sto}
theorem kit_nm (a b : Ty) : PySem.W.kitOne K (.type a.nm) (.type b.nm) = some (a.is b) := by
  cases a <;> cases b <;> rfl
theorem tyA_ok {a : A} {v : V} {t : Ty} (S : RS K μ st H) (r : Rep K μ st.length H a v) (h : tyA a st = some t) : TyX K H v (.type t.nm) := by
  cases a with
  | non => cases (show v = .non from r); cases h; exact .base .non
  | bl b => cases (show v = .bl b from r); cases h; exact .base (.bl b)
  | int b => cases (show v = .int b from r); cases h; exact .base (.int b)
  | str b => cases (show v = .str b from r); cases h; exact .base (.str b)
  | tup b =>
    obtain ⟨p, vs, rfl, h1, _⟩ := r
    cases h
    rcases h1 with ⟨o, h1, _⟩ | ⟨o, its, m, h1, h2, _⟩
    · exact .fTuple h1
    · exact .kTuple h1 h2.1
  | pr b c =>
    obtain ⟨p, x, y, rfl, h1, _⟩ := r
    cases h
    exact .base (.tup h1)
  | tmp b =>
    obtain ⟨p, vs, rfl, h1, _⟩ := r
    cases h
    exact .base (.lst h1)
  | frz b =>
    obtain ⟨p, vs, rfl, h1, _⟩ := r
    cases h
    rcases h1 with ⟨o, h1⟩ | ⟨o, its, m, h1, h2, _⟩
    · exact .base (.frz h1)
    · exact .kList h1 h2
  | dtm b =>
    obtain ⟨p, vs, rfl, h1, _⟩ := r
    cases h
    exact .base (.dK h1)
  | loc l =>
    obtain ⟨h1, rfl⟩ := r
    unfold tyA at h
    simp only at h
    have z := S.at_ l st[l] (List.getElem?_eq_getElem h1)
    rw [List.getElem?_eq_getElem h1] at h
    generalize st[l] = o at h z
    cases o with
    | lst xs =>
      cases h
      obtain ⟨vs, h2, h3⟩ := z
      exact .base (.lst h2)
    | dic xs =>
      cases h
      obtain ⟨vs, h2, h3⟩ := z
      exact .base (.dK h2)
def fIsi (b : Ty) (f : FE) : FE := fun ρ st => match f ρ st with
  | .ok a st1 => (match tyA a st1 with
    | some t => .ok (.bl (t.is b)) st1
    | none => .no)
  | .no => .no
theorem dx_isi {e e2 : Expr} {f : FE} {p pos : Pos} (b : Ty) (hK : X.K = K) (hm : X.mg "isinstance" = none) (he : PE X e (tOf K f)) (h2 : PE X e2 (tC (.ty b.nm))) (hg : Gl X "isinstance" := by rfl)
    (hs : starEach (e :: [e2]) X.env = (false, eval e X.env) :: starEach [e2] X.env := by rfl) (hs2 : starEach [e2] X.env = (false, eval e2 X.env) :: starEach [] X.env := by rfl) (hpl : (backTo pos (starEach [e2] X.env)).any (·.1) = false := by rfl) : PE X (.Call (.Name "isinstance" p) [e, e2] [] pos) (tOf K (fIsi b f)) := by
  refine pe_weak (pe_callB (isiK hK) hg hm (by decide +kernel) (pa_cons he (pa_cons h2 pa_nil hs2) hs) (by decide) (by decide) hs hpl) ?_
  rintro σ H Q ⟨μ, st, ρ, a, st', S, E, h, q⟩
  unfold fIsi at h
  split at h
  · rename_i a1 st1 h1
    split at h
    · rename_i t h3
      cases h
      exact ⟨μ, st, ρ, a1, _, S, E, h1, fun v μ1 H1 S1 E1 r1 f1 => ⟨v, .ty b.nm, .type t.nm, .type b.nm, _, rfl, .ty _, tyA_ok S1 r1 h3, kit_nm t b, (q.from E1).ok S1 rfl trivial⟩⟩
    · cases h
  · cases h
theorem nt_non : RN K μ n H .non .non := ⟨True.intro, rfl⟩
theorem nt_int {i : Int} : RN K μ n H (.int i) (.int i) := ⟨True.intro, rfl⟩
/-! products -/
def rMul4 (K : PySem.W.Frag) : R2 := rOr (rI CMulW fun i j => .int (i * j)) (rOr (rRepX K) rRep)
theorem or_mul (hK : X.K = K) : OpR X (binaryOp .Mult) (rMul4 K) := opr_or op_mulW (opr_or (repXK hK) op_rep)
theorem pd_repl {F : A → V → Prop} {xs : List A} {vs : List V} (h : Paired F xs vs) (k : Nat) : Paired F (List.replicate k xs).flatten (List.replicate k vs).flatten := pd_flat (pd_rep h k)
theorem og_mul : Op2 K (rMul4 K) opMul := by
  intro μ st H a b c st' v u Q S ra rb h q
  unfold opMul at h
  split at h
  · split at h
    · rename_i hc
      cases h
      exact .inl ⟨_, _, ra, rb, hc, q.ok S rfl trivial⟩
    · cases h
  · rename_i xs k
    split at h
    · rename_i hc
      cases h
      obtain ⟨p, vs, rfl, h1, h2⟩ := ra
      have h2' := repL_iff.mp h2
      have e1 := h2'.length
      refine .inr (.inl ⟨p, k, vs, rfl, rb, h1.sq, fun e => ?_, hc.2.1, hc.2.2.1, by rw [← e1]; exact hc.2.2.2, fun e => ?_, fun hk => q.tup S (repL_iff.mpr (pd_repl h2' _))⟩)
      · rw [e] at e1
        exact hc.1 e1
      · subst e
        have e9 : (List.replicate (Int.toNat 1) xs).flatten = xs := by
          show (List.replicate 1 xs).flatten = xs
          simp
        rw [e9] at q
        exact q.ok S ⟨p, vs, rfl, h1, h2⟩ trivial
    · cases h
  · rename_i k _ _
    split at h
    · rename_i xs h1
      split at h
      · rename_i hc
        cases h
        obtain ⟨p, vs, rfl, h3, h4⟩ := lstM_at S ra h1
        have h4' := repL_iff.mp h4
        exact .inr (.inr ⟨p, k, vs, rfl, rb, h3, hc.1, hc.2.1, by rw [← h4'.length]; exact hc.2.2, fun t ht => q.tmp S ht (repL_iff.mpr (pd_repl h4' _))⟩)
      · cases h
    · cases h
  · cases h
/-! methods of lists -/
def isL (a : A) (st : Sto) : Bool := (lstOf a st).isSome
theorem isL_ty {a : A} {v : V} (S : RS K μ st H) (r : Rep K μ st.length H a v) (h : isL a st = true) : tyV K "list" v H := by
  obtain ⟨xs, h1⟩ := Option.isSome_iff_exists.mp h
  obtain ⟨p, vs, rfl, h2, _⟩ := lstOf_sq S r h1
  exact .inl ⟨rfl, vs, h2⟩
def fM (gg : A → FN) (f : FE) (g : FA) : FE := fun ρ st => match f ρ st with
  | .ok a st1 => if isL a st1 = true then (match g ρ st1 with
    | .ok as st2 => gg a as st2
    | .no => .no) else .no
  | .no => .no
def OpM (K : PySem.W.Frag) (r : V → List V → Hp → VK → Prop) (g : A → FN) : Prop := ∀ {μ st H a as c st' v vs Q}, RS K μ st H → Rep K μ st.length H a v → Paired (RN K μ st.length H) as vs → g a as st = .ok c st' → Post K μ st.length H c st' Q → r v vs H Q
theorem dx_bm {o e : Expr} {es : List Expr} {id : String} {name : Str} {r : V → List V → Hp → VK → Prop} {f : FE} {g : FA} {gg : A → FN} {apos cpos : Pos} (hK : X.K = K) (pa : PlainAttrs "list") (slot : Slot "list" name id) (hty : typeOf (.builtin id) = pure (.type "method_descriptor")) (hm : MtR X id r) (hg : OpM K r gg)
    (ho : PE X o (tOf K f)) (ha : PA X (e :: es) (bOf K g)) (hbase : attributeBase o name X.env (eval o X.env) = eval o X.env := by rfl)
    (hfew : ((backTo cpos (starEach (e :: es) X.env)).all (fun x => !x.1) && (backToKw cpos (keywordEach [] X.env)).all (fun x => x.1.isSome)
      && decide ((e :: es).length + ([] : List Keyword).length + (if ([] : List Keyword).isEmpty then 0 else 1) < 30)) = true := by rfl)
    (hline : (apos.endLine == cpos.line) = true := by rfl) (hs : starEach (e :: es) X.env = (false, eval e X.env) :: starEach es X.env := by rfl) (hplain : (backTo cpos (starEach es X.env)).any (·.1) = false := by rfl) :
    PE X (.Call (.Attribute o name apos) (e :: es) [] cpos) (tOf K (fM gg f g)) := by
  refine pe_weak (pe_bmK hK pa slot hty hm ho ha hbase hfew hline hs hplain) ?_
  rintro σ H Q ⟨μ, st, ρ, a, st', S, E, h, q⟩
  unfold fM at h
  split at h
  · rename_i a1 st1 h1
    split at h
    · rename_i hl
      split at h
      · rename_i as st2 h2
        refine ⟨μ, st, ρ, a1, st1, S, E, h1, fun v μ1 H1 S1 E1 r1 f1 => ⟨isL_ty S1 r1 hl, μ1, st1, ρ, as, st2, S1, E.ext S E1, h2, fun vs μ2 H2 S2 E2 r2 => ?_⟩⟩
        exact hg S2 (r1.ext S1 E2) r2 h (q.from (E1.trans E2))
      · cases h
    · cases h
  · cases h
theorem dx_bm0 {o : Expr} {id : String} {name : Str} {r : V → List V → Hp → VK → Prop} {f : FE} {gg : A → FN} {apos cpos : Pos} (hK : X.K = K) (pa : PlainAttrs "list") (slot : Slot "list" name id) (hty : typeOf (.builtin id) = pure (.type "method_descriptor")) (hm : MtR X id r) (hg : OpM K r gg)
    (ho : PE X o (tOf K f)) (hbase : attributeBase o name X.env (eval o X.env) = eval o X.env := by rfl) (hline : (apos.endLine == cpos.line) = true := by rfl) : PE X (.Call (.Attribute o name apos) [] [] cpos) (tOf K (fM gg f aN)) := by
  refine pe_weak (pe_bm0 pa slot hty hm ho hbase hline) ?_
  rintro σ H Q ⟨μ, st, ρ, a, st', S, E, h, q⟩
  unfold fM at h
  split at h
  · rename_i a1 st1 h1
    split at h
    · rename_i hl
      refine ⟨μ, st, ρ, a1, st1, S, E, h1, fun v μ1 H1 S1 E1 r1 f1 => ⟨?_, hg S1 r1 .nil h (q.from E1)⟩⟩
      rw [hK]
      exact isL_ty S1 r1 hl
    · cases h
  · cases h
/-- the list of the store at l is changed -/
theorem Post.put {l : Nat} {xs ys : List A} {us ws : List V} {c : A} {w : V} {Q : VK} (S : RS K μ st H) (hl : l < st.length) (hx : H (μ l) = some (.lst us)) (r : Paired (RN K μ st.length H) ys ws) (rc : RN K μ st.length H c w)
    (q : Post K μ st.length H c (st.set l (.lst ys)) Q) : Q w (upd H (μ l) (.lst ws)) := by
  obtain ⟨S', E'⟩ := S.put (l := l) hl (o := .lst ys) (u := .lst ws) fun H' E h => ⟨ws, h, repL_iff.mpr (r.mono fun _ _ z => RN.ext z S E)⟩
  exact q w μ _ S' E' (by have := (rc.ext S E').2; exact this) (.of rc.1)
def mApp (a : A) : FN := fun as st => match a, as with
  | .loc l, [b] => (match st[l]? with
    | some (.lst xs) => if xs.length < sizeLine then .ok .non (st.set l (.lst (xs ++ [b]))) else .no
    | _ => .no)
  | _, _ => .no
theorem om_app : OpM K rAppend mApp := by
  intro μ st H a as c st' v vs Q S ra rs h q
  unfold mApp at h
  split at h
  · rename_i l b
    split at h
    · rename_i xs h1
      split at h
      · rename_i hz
        cases h
        obtain ⟨h2, rfl⟩ := ra
        cases rs with
        | cons r1 r2 =>
          cases r2
          obtain ⟨us, h3, h4⟩ := S.at_ l _ h1
          have h4' := repL_iff.mp h4
          exact ⟨μ l, us, _, rfl, rfl, h3, by rw [← h4'.length]; exact hz, Post.put (xs := xs) S h2 h3 (pd_append h4' (.cons r1 .nil)) nt_non q⟩
      · cases h
    · cases h
  · cases h
def mPop (a : A) : FN := fun as st => match a, as with
  | .loc l, [] => (match st[l]? with
    | some (.lst xs) => (match xs[xs.length - 1]? with
      | some y => .ok y (st.set l (.lst xs.dropLast))
      | none => .no)
    | _ => .no)
  | _, _ => .no
theorem om_pop : OpM K rPop mPop := by
  intro μ st H a as c st' v vs Q S ra rs h q
  unfold mPop at h
  split at h
  · rename_i l
    split at h
    · rename_i xs h1
      split at h
      · rename_i y hy
        cases h
        obtain ⟨h2, rfl⟩ := ra
        cases rs
        obtain ⟨us, h3, h4⟩ := S.at_ l _ h1
        have h4' := repL_iff.mp h4
        obtain ⟨w, h5, h6⟩ := pd_get h4' hy
        exact ⟨μ l, us, w, rfl, rfl, h3, by rw [← h4'.length]; exact h5, Post.put (xs := xs) S h2 h3 (pd_dropLast h4') h6 q⟩
      · cases h
    · cases h
  · cases h
def mPopAt (a : A) : FN := fun as st => match a, as with
  | .loc l, [.int i] => (match st[l]? with
    | some (.lst xs) => if -(2 ^ 63) ≤ i ∧ i < 2 ^ 63 then (match ixN xs.length i with
      | some k => (match xs[k]? with
        | some y => .ok y (st.set l (.lst (xs.eraseIdx k)))
        | none => .no)
      | none => .no) else .no
    | _ => .no)
  | _, _ => .no
theorem om_popAt : OpM K rPopAt mPopAt := by
  intro μ st H a as c st' v vs Q S ra rs h q
  unfold mPopAt at h
  split at h
  · rename_i l i
    split at h
    · rename_i xs h1
      split at h
      · rename_i hb
        split at h
        · rename_i k hk
          split at h
          · rename_i y hy
            cases h
            obtain ⟨h2, rfl⟩ := ra
            cases rs with
            | cons r1 r2 =>
              cases r2
              cases (show _ = V.int _ from r1.2)
              obtain ⟨us, h3, h4⟩ := S.at_ l _ h1
              have h4' := repL_iff.mp h4
              obtain ⟨w, h5, h6⟩ := pd_get h4' hy
              rw [h4'.length] at hk
              exact ⟨μ l, us, i, k, w, rfl, rfl, h3, hb.1, hb.2, (ixN_seq hk).1, h5, Post.put (xs := xs) S h2 h3 (pd_erase k h4') h6 q⟩
          · cases h
        · cases h
      · cases h
    · cases h
  · cases h
def mExt (a : A) : FN := fun as st => match a, as with
  | .loc l, [b] => (match st[l]?, lstM b st with
    | some (.lst xs), some ys => if xs.length + ys.length ≤ sizeLine then .ok .non (st.set l (.lst (xs ++ ys))) else .no
    | _, _ => .no)
  | _, _ => .no
theorem om_ext : OpM K rExtend mExt := by
  intro μ st H a as c st' v vs Q S ra rs h q
  unfold mExt at h
  split at h
  · rename_i l b
    split at h
    · rename_i xs ys h1 hb
      split at h
      · rename_i hz
        cases h
        obtain ⟨h2, rfl⟩ := ra
        cases rs with
        | cons r1 r2 =>
          cases r2
          obtain ⟨us, h3, h4⟩ := S.at_ l _ h1
          have h4' := repL_iff.mp h4
          obtain ⟨p, ws, rfl, h5, h6⟩ := lstM_at S r1.2 hb
          have h6' := repL_iff.mp h6
          exact ⟨μ l, p, us, ws, rfl, rfl, h3, h5, by rw [← h4'.length, ← h6'.length]; exact hz, Post.put (xs := xs) S h2 h3 (pd_append h4' h6') nt_non q⟩
      · cases h
    · cases h
  · cases h
def mRev (a : A) : FN := fun as st => match a, as with
  | .loc l, [] => (match st[l]? with
    | some (.lst xs) => .ok .non (st.set l (.lst xs.reverse))
    | _ => .no)
  | _, _ => .no
theorem om_rev : OpM K rReverse mRev := by
  intro μ st H a as c st' v vs Q S ra rs h q
  unfold mRev at h
  split at h
  · rename_i l
    split at h
    · rename_i xs h1
      cases h
      obtain ⟨h2, rfl⟩ := ra
      cases rs
      obtain ⟨us, h3, h4⟩ := S.at_ l _ h1
      exact ⟨μ l, us, rfl, rfl, h3, Post.put (xs := xs) S h2 h3 (pd_rev (repL_iff.mp h4)) nt_non q⟩
    · cases h
  · cases h
/-! stores -/
def setA (o i a : A) (st : Sto) : Option Sto := match o, i with
  | .loc l, .int k => (match st[l]? with
    | some (.lst xs) => (match ixN xs.length k with
      | some j => some (st.set l (.lst (xs.set j a)))
      | none => none)
    | _ => none)
  | _, _ => none
theorem setA_ok {o i a : A} {x y z : V} {Q : Hp → Prop} (S : RS K μ st H) (ro : Rep K μ st.length H o x) (ri : Rep K μ st.length H i y) (ra : RN K μ st.length H a z) (h : setA o i a st = some st')
    (q : ∀ H', RS K μ st' H' → Ext μ st.length H μ st'.length H' → Q H') : rSetL x y z H Q := by
  unfold setA at h
  split at h
  · rename_i l k
    split at h
    · rename_i xs h1
      split at h
      · rename_i j hj
        cases h
        obtain ⟨h2, rfl⟩ := ro
        obtain ⟨us, h3, h4⟩ := S.at_ l _ h1
        have h4' := repL_iff.mp h4
        rw [h4'.length] at hj
        obtain ⟨S', E'⟩ := S.put (l := l) h2 (o := .lst (xs.set j a)) (u := .lst (us.set j z)) fun H' E h => ⟨_, h, repL_iff.mpr ((pd_set ra j h4').mono fun _ _ z => RN.ext z S E)⟩
        exact ⟨μ l, us, k, j, rfl, ri, h3, hj, q _ S' E'⟩
      · cases h
    · cases h
  · cases h
def gSubF (fo fi : FE) : FG := fun a ρ st => match fo ρ st with
  | .ok o st1 => (match fi ρ st1 with
    | .ok i st2 => (match setA o i a st2 with
      | some st3 => .ok ρ st3
      | none => .no)
    | .no => .no)
  | .no => .no
theorem dg_sub {o i : Expr} {fo fi : FE} {pos : Pos} (ho : PE X o (tOf K fo)) (hi : PE X i (tOf K fi))
    (ha : ∀ v, assign (.Subscript o i pos) X.env v = (do
      let ov ← holding [v] (eval o X.env)
      let iv ← holding [v, ov] (eval i X.env)
      standAt pos
      holding [v, ov, iv] (setItem ov iv v)
      release [v, ov, iv] []) := by intro _; rfl) : PG X (.Subscript o i pos) (gOf K (gSubF fo fi)) := by
  refine pg_weak (pg_sub ho hi set_list ha) ?_
  rintro v σ H Q ⟨μ, st, ρ, a, ρ', st', S, E, r, h, q⟩
  unfold gSubF at h
  split at h
  · rename_i o1 st1 h1
    split at h
    · rename_i i1 st2 h2
      split at h
      · rename_i st3 h3
        cases h
        refine ⟨μ, st, ρ, o1, st1, S, E, h1, fun x μ1 H1 S1 E1 r1 f1 => ?_⟩
        refine ⟨μ1, st1, ρ, i1, st2, S1, E.ext S E1, h2, fun y μ2 H2 S2 E2 r2 f2 => ?_⟩
        have E12 := E1.trans E2
        exact setA_ok S2 (r1.ext S1 E2) r2 (r.ext S E12) h3 fun H3 S3 E3 => q _ μ2 H3 S3 (E.ext S (E12.trans E3)) (E12.trans E3)
      · cases h
    · cases h
  · cases h
def sAug (i : Nat) (op : F2) (f : FE) : FS := fun ρ st => match ρ[i]? with
  | some (some x) => (match f ρ st with
    | .ok y st1 => (match op x y st1 with
      | .ok z st2 => .nx (ρ.set i (some z)) st2
      | .no => .no)
    | .no => .no)
  | _ => .no
def opAddI : F2 := fun a b st => match a, b with
  | .int i, .int j => .ok (.int (i + j)) st
  | _, _ => .no
theorem ds_augI {i : Nat} {x : Str} {e : Expr} {f : FE} {pos pos' : Pos} {op : Operator} {gg : F2} {fo : Int → Int → Int} (hN : X.N.Nodup) (hi : X.N[i]? = some x) (hx : Loc X.env.scope x) (he : PE X e (tOf K f)) (ho : PIp X op (ipI fo)) (hgg : ∀ a b st c st', gg a b st = .ok c st' → ∃ i j, a = .int i ∧ b = .int j ∧ c = .int (fo i j) ∧ st' = st)
    (hf : X.fn x = true ∨ X.env.scope.names.lookup x = some .local := by first | exact .inl rfl | exact .inr rfl | assumption) : PS X (.AugAssign (.Name x pos') op e pos) (sOf K (sAug i gg f)) := by
  refine ps_weak (ps_aug hN hi hx he ho hf) ?_
  rintro D σ H ⟨μ, st, ρ, S, E, q⟩
  unfold sAug at q
  split at q
  · rename_i x1 h0
    split at q
    · rename_i y1 st1 h1
      split at q
      · rename_i z1 st2 h2
        obtain ⟨k, m, rfl, rfl, rfl, rfl⟩ := hgg _ _ _ _ _ h2
        obtain ⟨hn, v, h3, h4⟩ := E.at_ i _ h0
        refine ⟨v, h3, μ, st, ρ, _, _, S, E, h1, fun w μ1 H1 S1 E1 r1 f1 => ⟨k, m, h4, r1, q _ μ1 H1 S1 ((E.ext S E1).set trivial rfl) E1⟩⟩
      · exact q.elim
    · exact q.elim
  · exact q.elim
theorem gg_add (a b : A) (st : Sto) (c : A) (st' : Sto) (h : opAddI a b st = .ok c st') : ∃ i j, a = .int i ∧ b = .int j ∧ c = .int (i + j) ∧ st' = st := by
  unfold opAddI at h
  split at h
  · cases h; exact ⟨_, _, rfl, rfl, rfl, rfl⟩
  · cases h
theorem gg_sub (a b : A) (st : Sto) (c : A) (st' : Sto) (h : opSub a b st = .ok c st') : ∃ i j, a = .int i ∧ b = .int j ∧ c = .int (i - j) ∧ st' = st := by
  unfold opSub at h
  split at h
  · cases h; exact ⟨_, _, rfl, rfl, rfl, rfl⟩
  · cases h
/-- o[i] op= e, a list of ints -/
def sAugS (fo fi f : FE) (op : F2) : FS := fun ρ st => match fo ρ st with
  | .ok o st1 => (match fi ρ st1 with
    | .ok i st2 => (match lstOf o st2, i with
      | some xs, .int k => (match atI xs k with
        | some x => (match f ρ st2 with
          | .ok y st3 => (match op x y st3 with
            | .ok z st4 => (match setA o i z st4 with
              | some st5 => .nx ρ st5
              | none => .no)
            | .no => .no)
          | .no => .no)
        | none => .no)
      | _, _ => .no)
    | .no => .no)
  | .no => .no
theorem ds_augS {o i e : Expr} {fo fi f : FE} {pos tpos : Pos} {op : Operator} {gg : F2} {fz : Int → Int → Int} (hK : X.K = K) (ho : PE X o (tOf K fo)) (hi : PE X i (tOf K fi)) (he : PE X e (tOf K f)) (hop : PIp X op (ipI fz)) (hgg : ∀ a b st c st', gg a b st = .ok c st' → ∃ i j, a = .int i ∧ b = .int j ∧ c = .int (fz i j) ∧ st' = st)
    (ha : ∀ ov iv new, augStore i ov iv new = (do holding [new, ov, iv] (setItem ov iv new); release [new, ov, iv] []; pure .next) := by intros; rfl) : PS X (.AugAssign (.Subscript o i tpos) op e pos) (sOf K (sAugS fo fi f gg)) := by
  refine ps_weak (ps_augS ho hi (getLK hK) he hop set_list ha) ?_
  rintro D σ H ⟨μ, st, ρ, S, E, q⟩
  unfold sAugS at q
  split at q
  · rename_i o1 st1 h1
    split at q
    · rename_i i1 st2 h2
      split at q
      · rename_i xs k h3
        split at q
        · rename_i x1 h4
          split at q
          · rename_i y1 st3 h5
            split at q
            · rename_i z1 st4 h6
              split at q
              · rename_i st5 h7
                obtain ⟨ii, jj, rfl, rfl, rfl, rfl⟩ := hgg _ _ _ _ _ h6
                refine ⟨μ, st, ρ, o1, st1, S, E, h1, fun x μ1 H1 S1 E1 r1 f1 => ?_⟩
                refine ⟨μ1, st1, ρ, _, st2, S1, E.ext S E1, h2, fun y μ2 H2 S2 E2 r2 f2 => ?_⟩
                obtain ⟨p, vs, rfl, h8, h9, _⟩ := lstOf_sq S2 (r1.ext S1 E2) h3
                have h9' := repL_iff.mp h9
                unfold atI at h4
                obtain ⟨j, g5, g6⟩ := Option.bind_eq_some_iff.mp h4
                obtain ⟨w, g7, g8⟩ := pd_get h9' g6
                have g9 : atI vs k = some w := by
                  unfold atI
                  rw [← h9'.length, g5]
                  exact g7
                refine ⟨p, vs, k, w, rfl, r2, h8, g9, ?_⟩
                refine ⟨μ2, st2, ρ, _, _, S2, (E.ext S E1).ext S1 E2, h5, fun y3 μ3 H3 S3 E3 r3 f3 => ?_⟩
                have E13 := (E1.trans E2).trans E3
                refine ⟨ii, jj, g8.2, r3, ?_⟩
                exact setA_ok S3 ((r1.ext S1 E2).ext S2 E3) (show Rep K μ3 _ H3 (.int k) y from r2) nt_int h7 fun H4 S4 E4 => q _ μ3 H4 S4 (E.ext S (E13.trans E4)) (E13.trans E4)
              · exact q.elim
            · exact q.elim
          · exact q.elim
        · exact q.elim
      · exact q.elim
    · exact q.elim
  · exact q.elim
/-! list(range(..)), tuple(range(..)) -/
def rgOk (a b : Int) : Prop := RgOk a b
instance (a b : Int) : Decidable (rgOk a b) := inferInstanceAs (Decidable (_ ∧ _))
def fLRg1 (f : FE) : FE := fun ρ st => match f ρ st with
  | .ok (.int j) st1 => if rgOk 0 j then .ok (.tmp (rgA 0 j)) st1 else .no
  | _ => .no
def fTRg1 (f : FE) : FE := fun ρ st => match f ρ st with
  | .ok (.int j) st1 => if rgOk 0 j then .ok (.tup (rgA 0 j)) st1 else .no
  | _ => .no
theorem repL_rg (a b : Int) : RepL K μ n H (rgA a b) (rgV a b) := by
  unfold rgA rgV
  induction (List.range (b - a).toNat) with
  | nil => rfl
  | cons x xs ih => exact ⟨_, _, rfl, trivial, rfl, ih⟩
theorem dx_lrg1 {e : Expr} {f : FE} {p p2 pos pos2 : Pos} (hc : X.calm = true) (hm : X.mg "list" = none) (hm2 : X.mg "range" = none) (he : PE X e (tOf K f)) (hg : Gl X "list" := by rfl) (hg2 : Gl X "range" := by rfl)
    (na : starEach [e] X.env = (false, eval e X.env) :: starEach [] X.env := by rfl) (na2 : starEach [Expr.Call (.Name "range" p2) [e] [] pos2] X.env = (false, eval (.Call (.Name "range" p2) [e] [] pos2) X.env) :: starEach [] X.env := by rfl) : PE X (.Call (.Name "list" p) [.Call (.Name "range" p2) [e] [] pos2] [] pos) (tOf K (fLRg1 f)) := by
  refine pe_weak (pe_listRg hc hg hm (prg_1 hg2 hm2 he na) na2) ?_
  rintro σ H Q ⟨μ, st, ρ, a, st', S, E, h, q⟩
  unfold fLRg1 at h
  split at h
  · rename_i j st1 h1
    split at h
    · rename_i hr
      cases h
      exact ⟨μ, st, ρ, _, _, S, E, h1, fun v μ1 H1 S1 E1 r1 f1 => ⟨j, r1, hr, fun t ht => (q.from E1).tmp S1 ht (repL_rg 0 j)⟩⟩
    · cases h
  · cases h
theorem dx_trg1 {e : Expr} {f : FE} {p p2 pos pos2 : Pos} (hc : X.calm = true) (hm : X.mg "tuple" = none) (hm2 : X.mg "range" = none) (he : PE X e (tOf K f)) (hg : Gl X "tuple" := by rfl) (hg2 : Gl X "range" := by rfl)
    (na : starEach [e] X.env = (false, eval e X.env) :: starEach [] X.env := by rfl) (na2 : starEach [Expr.Call (.Name "range" p2) [e] [] pos2] X.env = (false, eval (.Call (.Name "range" p2) [e] [] pos2) X.env) :: starEach [] X.env := by rfl) : PE X (.Call (.Name "tuple" p) [.Call (.Name "range" p2) [e] [] pos2] [] pos) (tOf K (fTRg1 f)) := by
  refine pe_weak (pe_tupRX hc hg hm (prg_1 hg2 hm2 he na) na2) ?_
  rintro σ H Q ⟨μ, st, ρ, a, st', S, E, h, q⟩
  unfold fTRg1 at h
  split at h
  · rename_i j st1 h1
    split at h
    · rename_i hr
      cases h
      exact ⟨μ, st, ρ, _, _, S, E, h1, fun v μ1 H1 S1 E1 r1 f1 => ⟨j, r1, hr, (q.from E1).tup S1 (repL_rg 0 j)⟩⟩
    · cases h
  · cases h
/-! calls by names, in turned order -/
theorem dk_nil : PK X [] (bOf K aN) := by
  constructor
  rintro pos pins s σ H Q I ⟨μ, st, ρ, as, st', S, E, h, q⟩
  cases h
  exact pk_nil.run pos pins s σ H Q I (q [] μ H S Ext.refl .nil)
theorem dk_cons {nm : Option Str} {kpos : Pos} {e : Expr} {kws : List Keyword} {f : FE} {g : FA} (he : PE X e (tOf K f)) (hr : PK X kws (bOf K g)) : PK X (⟨nm, e, kpos⟩ :: kws) (bOf K (aC (fB f) g)) := by
  constructor
  rintro pos pins s σ H Q I ⟨μ, st, ρ, as, st', S, E, h, q⟩
  refine (pk_cons (dx_bn he) hr).run pos pins s σ H Q I ?_
  unfold aC at h
  split at h
  · rename_i a1 st1 h1
    split at h
    · rename_i as st2 h2
      cases h
      refine ⟨μ, st, ρ, a1, st1, S, E, h1, fun v μ1 H1 S1 E1 r1 => ?_⟩
      refine ⟨μ1, st1, ρ, as, st', S1, E.ext S E1, h2, fun vs μ2 H2 S2 E2 r2 => ?_⟩
      exact q (v :: vs) μ2 H2 S2 (E1.trans E2) (.cons (r1.ext S1 E2) r2)
    · cases h
  · cases h
def fNK (c : FN) (g : FA) : FE := fun ρ st => match g ρ st with
  | .ok as st1 => c as.reverse st1
  | .no => .no
theorem dx_callK {x : Str} {p pos : Pos} {k : Nat} {ps ks : List Str} {c : FN} {kws : List Keyword} {g : FA} {gv : List Value → List Value → List Value} (C : Cal X.prog X.w X.K X.mg X.base k x ps (spOf K c)) (hb : KBinds X.K C.fd ps ks gv (fun us ws => us ++ ws.reverse)) (still : Still X.A) (hr : Room k X.A) (hkw : PK X kws (bOf K g)) (hg : Gl X x := by rfl)
    (hall : (backToKw pos (keywordEach kws X.env)).all (·.1.isSome) = true := by rfl)
    (hks : (backToKw pos (keywordEach kws X.env)).filterMap (·.1) = ks := by rfl) (hdb : (x == ("__debug__" : Str)) = false := by decide) (hpl : ((backTo pos (starEach [] X.env)).any (·.1) || (backToKw pos (keywordEach kws X.env)).any (·.1.isNone)) = false := by rfl) :
    PE X (.Call (.Name x p) [] kws pos) (tOf K (fNK c g)) := by
  refine pe_weak (pe_calK C hb still hr hkw hg hall hks hdb hpl) ?_
  rintro σ H Q ⟨μ, st, ρ, a, st', S, E, h, q⟩
  unfold fNK at h
  split at h
  · rename_i as st1 h1
    exact ⟨μ, st, ρ, as, st1, S, E, h1, fun vs μ1 H1 S1 E1 r1 => ⟨μ1, st1, as.reverse, a, st', S1, by
      show Paired _ _ ([] ++ vs.reverse)
      rw [List.nil_append]
      exact pd_rev r1, h, q.from E1⟩⟩
  · cases h
end
end Ev
namespace Ev
open PySem PySem.Spec PyProof.Rows L2 Gd
section
variable {X : Cx} {K : PySem.W.Frag}
theorem dv (i : Nat) {x : Str} {pos : Pos} (hN : X.N[i]? = some x := by rfl) (hv : Vis X.env.scope x := by first | exact Or.inl rfl | exact Or.inr (Or.inl rfl) | exact Or.inr (Or.inr rfl)) (hd : (x == ("__debug__" : Str)) = false := by decide) (hcd : (x == ("__classdict__" : Str)) = false := by decide) : PE X (.Name x pos) (tOf K (fVar i)) := dx_var hN hv hd hcd
end
end Ev
namespace Ev
open PySem PySem.Spec PyProof.Rows L2 Gd
section
variable {X : Cx} {K : PySem.W.Frag} {μ μ' : Nat → Addr} {n n' : Nat} {H H' : Hp} {st st' : Sto}
/-! in -/
def flatA : A → Bool
  | .non => true
  | .bl _ => true
  | .int _ => true
  | .str _ => true
  | _ => false
def eqFA : A → A → Bool
  | .non, .non => true
  | .bl a, .bl b => a == b
  | .bl a, .int b => (if a then 1 else 0) == b
  | .int a, .bl b => a == (if b then 1 else 0)
  | .int a, .int b => a == b
  | .str a, .str b => a == b
  | _, _ => false
theorem flat_v {a : A} {v : V} (r : Rep K μ n H a v) (h : flatA a = true) : flatV v = true := by
  cases a with
  | non => cases (show v = .non from r); rfl
  | bl b => cases (show v = .bl b from r); rfl
  | int b => cases (show v = .int b from r); rfl
  | str b => cases (show v = .str b from r); rfl
  | _ => cases h
theorem eqF_v {a b : A} {v u : V} (r : Rep K μ n H a v) (h : flatA a = true) (r2 : Rep K μ n H b u) (h2 : flatA b = true) : eqV v u = eqFA a b := by
  cases a with
  | non => cases (show v = .non from r); cases b with
    | non => cases (show u = .non from r2); rfl
    | bl b => cases (show u = .bl b from r2); rfl
    | int b => cases (show u = .int b from r2); rfl
    | str b => cases (show u = .str b from r2); rfl
    | _ => cases h2
  | bl c => cases (show v = .bl c from r); cases b with
    | non => cases (show u = .non from r2); rfl
    | bl b => cases (show u = .bl b from r2); rfl
    | int b => cases (show u = .int b from r2); rfl
    | str b => cases (show u = .str b from r2); rfl
    | _ => cases h2
  | int c => cases (show v = .int c from r); cases b with
    | non => cases (show u = .non from r2); rfl
    | bl b => cases (show u = .bl b from r2); rfl
    | int b => cases (show u = .int b from r2); rfl
    | str b => cases (show u = .str b from r2); rfl
    | _ => cases h2
  | str c => cases (show v = .str c from r); cases b with
    | non => cases (show u = .non from r2); rfl
    | bl b => cases (show u = .bl b from r2); rfl
    | int b => cases (show u = .int b from r2); rfl
    | str b => cases (show u = .str b from r2); rfl
    | _ => cases h2
  | _ => cases h
theorem inF_v {a : A} {v : V} (r : Rep K μ n H a v) (h : flatA a = true) : ∀ {xs : List A} {vs : List V}, Paired (RN K μ n H) xs vs → xs.all flatA = true → vs.all flatV = true ∧ inV v vs = xs.any (fun y => eqFA y a)
  | _, _, .nil, _ => ⟨rfl, rfl⟩
  | _, _, .cons (a := y) (l₁ := xs) r1 r2, h2 => by
    rw [List.all_cons, Bool.and_eq_true] at h2
    obtain ⟨e1, e2⟩ := inF_v r h r2 h2.2
    refine ⟨?_, ?_⟩
    · rw [List.all_cons, flat_v r1.2 h2.1, e1]; rfl
    · show inV v (_ :: _) = _
      unfold inV at e2 ⊢
      rw [List.any_cons, List.any_cons, e2, eqF_v r1.2 h2.1 r h]
/-- whether it is in -/
def inA (a b : A) (st : Sto) : Option Bool := match seqOf b st with
  | some xs => if (flatA a && xs.all flatA) = true then some (xs.any fun y => eqFA y a) else (match toD st a, toD st b with
    | some d, some (.list ds) => if (SeqAt.shaped d && SeqAt.shaped (.list ds)) = true then some (ds.any fun z => PyData.eqv z d) else none
    | _, _ => none)
  | none => none
def opIn : F2 := fun a b st => match inA a b st with
  | some c => .ok (.bl c) st
  | none => .no
def opNotIn : F2 := fun a b st => match inA a b st with
  | some c => .ok (.bl (!c)) st
  | none => .no
theorem inA_ok {a b : A} {v u : V} {c : Bool} (S : RS K μ st H) (ra : Rep K μ st.length H a v) (rb : Rep K μ st.length H b u) (h : inA a b st = some c) :
    (∃ p xs, u = .ref p ∧ (SqL K H p xs ∨ SqT K H p xs) ∧ flatV v = true ∧ xs.all flatV = true ∧ inV v xs = c) ∨ (∃ d ds, Dp K H v d ∧ Dp K H u (.list ds) ∧ SeqAt.shaped d = true ∧ SeqAt.shaped (.list ds) = true ∧ (ds.any fun z => PyData.eqv z d) = c) := by
  unfold inA at h
  split at h
  · rename_i xs h1
    split at h
    · rename_i hf
      cases h
      rw [Bool.and_eq_true] at hf
      obtain ⟨p, vs, rfl, h2, h3⟩ := seqOf_sq S rb h1
      obtain ⟨e1, e2⟩ := inF_v ra hf.1 (repL_iff.mp h3) hf.2
      exact .inl ⟨p, vs, rfl, h2, flat_v ra hf.1, e1, e2⟩
    · split at h
      · rename_i d ds h2 h3
        split at h
        · rename_i hs
          cases h
          rw [Bool.and_eq_true] at hs
          exact .inr ⟨d, ds, toD_ok S ra h2, toD_ok S rb h3, hs.1, hs.2, rfl⟩
        · cases h
      · cases h
  · cases h
theorem or_in (hK : X.K = K) (hu : X.A.units + 65 < cLine) : OpR X (compareOp .In) (rOr (rIn K false) (rInD K)) := opr_or (inK hK) (inDK hK hu)
theorem or_notin (hK : X.K = K) (hu : X.A.units + 65 < cLine) : OpR X (compareOp .NotIn) (rOr (rIn K true) (rNotInD K)) := opr_or (ninK hK) (ninDK hK hu)
theorem og_in : Op2 K (rOr (rIn K false) (rInD K)) opIn := by
  intro μ st H a b c st' v u Q S ra rb h q
  unfold opIn at h
  split at h
  · rename_i k h1
    cases h
    have fin := q.ok (v := .bl k) S rfl trivial
    rcases inA_ok S ra rb h1 with ⟨p, xs, rfl, h2, h3, h4, h5⟩ | ⟨d, ds, h2, h3, h4, h5, h6⟩
    · exact .inl ⟨p, xs, rfl, h2, h3, h4, by rw [h5]; exact fin⟩
    · exact .inr ⟨d, ds, h2, h3, h4, h5, by rw [h6]; exact fin⟩
  · cases h
theorem og_notin : Op2 K (rOr (rIn K true) (rNotInD K)) opNotIn := by
  intro μ st H a b c st' v u Q S ra rb h q
  unfold opNotIn at h
  split at h
  · rename_i k h1
    cases h
    have fin := q.ok (v := .bl (!k)) S rfl trivial
    rcases inA_ok S ra rb h1 with ⟨p, xs, rfl, h2, h3, h4, h5⟩ | ⟨d, ds, h2, h3, h4, h5, h6⟩
    · exact .inl ⟨p, xs, rfl, h2, h3, h4, by rw [h5]; exact fin⟩
    · exact .inr ⟨d, ds, h2, h3, h4, h5, by rw [h6]; exact fin⟩
  · cases h
/-! index -/
def mIndex (a : A) : FN := fun as st => match as with
  | [b] => (match toD st a, toD st b with
    | some (.list ds), some d => if (SeqAt.shaped (.list ds) && SeqAt.shaped d) = true then (match ds.findIdx? (fun z => PyData.eqv z d) with
      | some j => .ok (.int (j : Nat)) st
      | none => .no) else .no
    | _, _ => .no)
  | _ => .no
theorem mt_indexK (hK : X.K = K) (hu : X.A.units + 65 < cLine) : MtR X "list.index" (rIndexD K) := hK ▸ mt_indexD hu
theorem om_index : OpM K (rIndexD K) mIndex := by
  intro μ st H a as c st' v vs Q S ra rs h q
  unfold mIndex at h
  split at h
  · rename_i b
    split at h
    · rename_i ds d h1 h2
      split at h
      · rename_i hs
        split at h
        · rename_i j h3
          cases h
          rw [Bool.and_eq_true] at hs
          cases rs with
          | cons r1 r2 =>
            cases r2
            rename_i y
            have dl := toD_ok S ra h1
            have dd := toD_ok S r1.2 h2
            obtain ⟨hj, he, hn⟩ := List.findIdx?_eq_some_iff_getElem.mp h3
            cases dl with
            | lst hq hall =>
              refine ⟨_, y, d, ds, j, ds[j], rfl, rfl, .lst hq hall, dd, hs.1, hs.2, List.getElem?_eq_getElem hj, he, fun m z hm hz => ?_, q.ok S rfl trivial⟩
              obtain ⟨hm2, hz2⟩ := List.getElem?_eq_some_iff.mp hz
              have := hn m hm
              rw [hz2] at this
              simpa using this
        · cases h
      · cases h
    · cases h
  · cases h
/-! chains -/
def fChain (g h : F2) (fa fb fc : FE) : FE := fun ρ st => match fa ρ st with
  | .ok a st1 => (match fb ρ st1 with
    | .ok b st2 => (match g a b st2 with
      | .ok (.bl true) st3 => (match fc ρ st3 with
        | .ok c st4 => h b c st4
        | .no => .no)
      | .ok (.bl false) st3 => .ok (.bl false) st3
      | _ => .no)
    | .no => .no)
  | .no => .no
theorem w_chain {r r' : R2} {g h : F2} {fa fb fc : FE} (hg : Op2 K r g) (hh : Op2 K r' h) {σ : L2.St} {H : Hp} {Q : VK} (w : tOf K (fChain g h fa fb fc) σ H Q) : tChain r r' (tOf K fa) (tOf K fb) (tOf K fc) σ H Q := by
  obtain ⟨μ, st, ρ, z, st', S, E, w, q⟩ := w
  unfold fChain at w
  split at w
  · rename_i a1 st1 h1
    split at w
    · rename_i b1 st2 h2
      refine ⟨μ, st, ρ, a1, st1, S, E, h1, fun v μ1 H1 S1 E1 r1 _ => ?_⟩
      refine ⟨μ1, st1, ρ, b1, st2, S1, E.ext S E1, h2, fun u μ2 H2 S2 E2 r2 _ => ?_⟩
      have E12 := E1.trans E2
      split at w
      · rename_i st3 h3
        refine hg S2 (r1.ext S1 E2) r2 h3 fun z μ3 H3 S3 E3 r3 f3 => ⟨_, r3, iteT ?_⟩
        have E13 := E12.trans E3
        split at w
        · rename_i c1 st4 h4
          refine ⟨μ3, st3, ρ, c1, st4, S3, E.ext S E13, h4, fun y μ4 H4 S4 E4 r4 f4 => ?_⟩
          exact hh S4 ((r2.ext S2 E3).ext S3 E4) r4 w (q.from (E13.trans E4))
        · cases w
      · rename_i st3 h3
        cases w
        exact hg S2 (r1.ext S1 E2) r2 h3 fun z μ3 H3 S3 E3 r3 f3 => ⟨_, r3, iteF (q _ μ3 H3 S3 (E12.trans E3) rfl (.of trivial))⟩
      · cases w
    · cases w
  · cases w
theorem dx_chain {op op' : CmpOp} {r r' : R2} {g h : F2} {a b c : Expr} {fa fb fc : FE} {pos : Pos} (ho : OpR X (compareOp op) r) (ho' : OpR X (compareOp op') r') (hg : Op2 K r g) (hh : Op2 K r' h) (ha : PE X a (tOf K fa)) (hb : PE X b (tOf K fb)) (hc : PE X c (tOf K fc))
    (hm : lastMarks [op, op'] [b, c] = false := by with_unfolding_all rfl) : PE X (.Compare a [op, op'] [b, c] pos) (tOf K (fChain g h fa fb fc)) := pe_weak (pe_chain ho ho' ha hb hc hm) fun _ _ _ w => w_chain hg hh w
theorem dt_chain {op op' : CmpOp} {r r' : R2} {g h : F2} {a b c : Expr} {fa fb fc : FE} {pos : Pos} (ho : OpR X (compareOp op) r) (ho' : OpR X (compareOp op') r') (hg : Op2 K r g) (hh : Op2 K r' h) (ha : PE X a (tOf K fa)) (hb : PE X b (tOf K fb)) (hc : PE X c (tOf K fc))
    (hm : lastMarks [op, op'] [b, c] = false := by with_unfolding_all rfl) : PT X (.Compare a [op, op'] [b, c] pos) (uOf K (uB (fChain g h fa fb fc))) := pt_weak (pt_chain ho ho' ha hb hc hm) fun _ _ _ w => w_chain hg hh (w_bool w)
end
end Ev
namespace Ev
open PySem PySem.Spec PyProof.Rows L2 Gd
section
variable {X : Cx} {K : PySem.W.Frag} {μ μ' : Nat → Addr} {n n' : Nat} {H H' : Hp} {st st' : Sto}
/-! methods of tuples -/
def isT (a : A) : Bool := match a with
  | .tup _ => true
  | _ => false
def fMT (gg : A → FN) (f : FE) (g : FA) : FE := fun ρ st => match f ρ st with
  | .ok a st1 => if isT a = true then (match g ρ st1 with
    | .ok as st2 => gg a as st2
    | .no => .no) else .no
  | .no => .no
theorem dx_bmT {o e : Expr} {es : List Expr} {id : String} {name : Str} {r : V → List V → Hp → VK → Prop} {f : FE} {g : FA} {gg : A → FN} {apos cpos : Pos} (hK : X.K = K) (pa : PlainAttrs "tuple") (slot : Slot "tuple" name id) (hty : typeOf (.builtin id) = pure (.type "method_descriptor")) (hm : MtR X id r) (hg : OpM K r gg)
    (ho : PE X o (tOf K f)) (ha : PA X (e :: es) (bOf K g)) (hbase : attributeBase o name X.env (eval o X.env) = eval o X.env := by rfl)
    (hfew : ((backTo cpos (starEach (e :: es) X.env)).all (fun x => !x.1) && (backToKw cpos (keywordEach [] X.env)).all (fun x => x.1.isSome)
      && decide ((e :: es).length + ([] : List Keyword).length + (if ([] : List Keyword).isEmpty then 0 else 1) < 30)) = true := by rfl)
    (hline : (apos.endLine == cpos.line) = true := by rfl) (hs : starEach (e :: es) X.env = (false, eval e X.env) :: starEach es X.env := by rfl) (hplain : (backTo cpos (starEach es X.env)).any (·.1) = false := by rfl) :
    PE X (.Call (.Attribute o name apos) (e :: es) [] cpos) (tOf K (fMT gg f g)) := by
  refine pe_weak (pe_bmT hK pa slot hty hm ho ha hbase hfew hline hs hplain) ?_
  rintro σ H Q ⟨μ, st, ρ, a, st', S, E, h, q⟩
  unfold fMT at h
  split at h
  · rename_i a1 st1 h1
    split at h
    · rename_i hl
      split at h
      · rename_i as st2 h2
        refine ⟨μ, st, ρ, a1, st1, S, E, h1, fun v μ1 H1 S1 E1 r1 f1 => ⟨?_, μ1, st1, ρ, as, st2, S1, E.ext S E1, h2, fun vs μ2 H2 S2 E2 r2 => ?_⟩⟩
        · cases a1 with
          | tup xs => obtain ⟨p, vs, rfl, h3, _⟩ := r1; exact ⟨p, vs, rfl, h3⟩
          | _ => cases hl
        · exact hg S2 (r1.ext S1 E2) r2 h (q.from (E1.trans E2))
      · cases h
    · cases h
  · cases h
def mIndexT (a : A) : FN := fun as st => match a, as with
  | .tup xs, [.int z] => (match intsOf xs with
    | some ns => (match ns.findIdx? (fun y => decide (y = z)) with
      | some j => .ok (.int (j : Nat)) st
      | none => .no)
    | none => .no)
  | _, _ => .no
theorem om_indexT : OpM K (rIndexI K) mIndexT := by
  intro μ st H a as c st' v vs Q S ra rs h q
  unfold mIndexT at h
  split at h
  · rename_i xs z
    split at h
    · rename_i ns h1
      split at h
      · rename_i j h2
        cases h
        obtain ⟨p, us, rfl, h3, h4⟩ := ra
        cases rs with
        | cons r1 r2 =>
          cases r2
          cases (show _ = V.int _ from r1.2)
          obtain ⟨hj, he, hn⟩ := List.findIdx?_eq_some_iff_getElem.mp h2
          have h5 := h3.sq
          rw [(intsOf_at h4 h1).1] at h5
          refine ⟨p, ns, z, j, rfl, rfl, h5, ?_, fun m hm e => ?_, q.ok S rfl trivial⟩
          · rw [List.getElem?_eq_getElem hj]
            simpa using he
          · obtain ⟨h6, h7⟩ := List.getElem?_eq_some_iff.mp e
            have := hn m hm
            rw [h7] at this
            simp at this
      · cases h
    · cases h
  · cases h
def rCntT (K : PySem.W.Frag) : V → List V → Hp → VK → Prop := fun x xs H Q => ∃ (p : Addr) (ns : List Int) (k : Int), x = .ref p ∧ xs = [.int k] ∧ SqT K H p (ns.map V.int) ∧ Q (.int (ns.count k : Nat)) H
theorem mt_countTK (hK : X.K = K) : MtR X "tuple.count" (rCntT K) := by
  subst hK
  intro pins s σ H x xs v us Q I rx rxs h
  obtain ⟨p, ns, k, rfl, rfl, hs, q⟩ := h
  cases rx
  obtain ⟨u, rfl, ru⟩ := vals1 rxs
  obtain ⟨t, rfl⟩ := ru
  obtain ⟨its, rv, ⟨⟨cls, dd, data, sl⟩, ho, hc, n, hd⟩, hlen⟩ := I.tuple hs
  simp only at hc hd
  subst hc hd
  have hi := ints_of_vals rv
  refine call_meets PySem.F.slot_tuple_count ⟨_, ho, rfl⟩ PySem.F.entry_tuple_count (PySem.F.args_tuple_count_2 _ _)
    (SeqAt.tuple_countAt p its.toArray n dd sl (.int k t) (eqk k)) ⟨ho, fun y hy => (eqk_gives hi y (by simpa using hy)).at _ _, ?_⟩
  have ec : its.toArray.toList.countP (eqk k) = ns.count k := eqk_count hi
  refine ⟨.int (ns.count k : Nat), H, I.tok _, ⟨s.toks, ?_⟩, q⟩
  show Value.int ((its.toArray.toList.countP (eqk k) : Nat) : Int) s.toks = Value.int ((ns.count k : Nat) : Int) s.toks
  rw [ec]
def mCountT (a : A) : FN := fun as st => match a, as with
  | .tup xs, [.int z] => (match intsOf xs with
    | some ns => .ok (.int (ns.count z : Nat)) st
    | none => .no)
  | _, _ => .no
theorem om_countT : OpM K (rCntT K) mCountT := by
  intro μ st H a as c st' v vs Q S ra rs h q
  unfold mCountT at h
  split at h
  · rename_i xs z
    split at h
    · rename_i ns h1
      cases h
      obtain ⟨p, us, rfl, h3, h4⟩ := ra
      cases rs with
      | cons r1 r2 =>
        cases r2
        cases (show _ = V.int _ from r1.2)
        have h5 := h3.sq
        rw [(intsOf_at h4 h1).1] at h5
        exact ⟨p, ns, z, rfl, rfl, h5, q.ok S rfl trivial⟩
    · cases h
  · cases h
theorem mt_countK (hK : X.K = K) : MtR X "list.count" (rCntI K) := hK ▸ mt_lcount
def mCount (a : A) : FN := fun as st => match as with
  | [.int z] => (match lstOf a st with
    | some xs => (match intsOf xs with
      | some ns => .ok (.int (ns.count z : Nat)) st
      | none => .no)
    | none => .no)
  | _ => .no
theorem om_count : OpM K (rCntI K) mCount := by
  intro μ st H a as c st' v vs Q S ra rs h q
  unfold mCount at h
  split at h
  · rename_i z
    split at h
    · rename_i xs h0
      split at h
      · rename_i ns h1
        cases h
        obtain ⟨p, us, rfl, h3, h4, _⟩ := lstOf_sq S ra h0
        cases rs with
        | cons r1 r2 =>
          cases r2
          cases (show _ = V.int _ from r1.2)
          rw [(intsOf_at h4 h1).1] at h3
          exact ⟨p, ns, z, rfl, rfl, h3, q.ok S rfl trivial⟩
      · cases h
    · cases h
  · cases h
/-! dicts -/
def keyOf : A → Option Key
  | .int i => some (.inl i)
  | .str x => some (.inr x)
  | _ => none
theorem keyOf_v {a : A} {v : V} {k : Key} (r : Rep K μ n H a v) (h : keyOf a = some k) : v = kV k := by
  cases a with
  | int i => cases (show v = .int i from r); cases h; rfl
  | str i => cases (show v = .str i from r); cases h; rfl
  | _ => cases h
def dicOf (a : A) (st : Sto) : Option (List (Key × A)) := match a with
  | .dtm kvs => some kvs
  | .loc l => match st[l]? with
    | some (.dic kvs) => some kvs
    | _ => none
  | _ => none
theorem dicOf_at {a : A} {v : V} {kvs : List (Key × A)} (S : RS K μ st H) (r : Rep K μ st.length H a v) (h : dicOf a st = some kvs) : ∃ p ws, v = .ref p ∧ H p = some (.dK ws) ∧ RepD K μ st.length H kvs ws := by
  cases a with
  | dtm ys =>
    obtain ⟨p, vs, rfl, h1, h2, h3⟩ := r
    cases h
    exact ⟨p, vs, rfl, h1, h3⟩
  | loc l =>
    obtain ⟨h1, rfl⟩ := r
    unfold dicOf at h
    simp only at h
    split at h
    · rename_i ys h2
      cases h
      obtain ⟨vs, h3, h4⟩ := S.at_ l _ h2
      exact ⟨μ l, vs, rfl, h3, h4⟩
    · cases h
  | _ => cases h
def valA (kvs : List (Key × A)) (k : Key) : Option A := (kvs.find? fun kv => decide (kv.1 = k)).map (·.2)
def putA (kvs : List (Key × A)) (k : Key) (v : A) : List (Key × A) :=
  if (kvs.any fun kv => decide (kv.1 = k)) = true then kvs.map (fun kv => if kv.1 = k then (kv.1, v) else kv) else kvs ++ [(k, v)]
def dropA (kvs : List (Key × A)) (k : Key) : List (Key × A) := kvs.filter fun kv => decide (kv.1 ≠ k)
theorem val_pd {k : Key} : ∀ {kvs : List (Key × A)} {ws : List (Key × V)}, Paired (RK K μ n H) kvs ws → (valA kvs k = none ∧ valV ws k = none) ∨ ∃ a v, valA kvs k = some a ∧ valV ws k = some v ∧ RN K μ n H a v
  | _, _, .nil => .inl ⟨rfl, rfl⟩
  | _, _, .cons (a := x) (b := y) r t => by
    by_cases e : x.1 = k
    · refine .inr ⟨x.2, y.2, ?_, valV_pos (r.1.symm.trans e), r.2⟩
      simp [valA, List.find?_cons, e]
    · have e' : ¬ y.1 = k := fun z => e (r.1.trans z)
      have e1 : ∀ r : List (Key × A), valA (x :: r) k = valA r k := fun r => by simp [valA, List.find?_cons, e]
      rcases val_pd (k := k) t with ⟨h1, h2⟩ | ⟨a, v, h1, h2, h3⟩
      · exact .inl ⟨(e1 _).trans h1, (valV_neg e').trans h2⟩
      · exact .inr ⟨a, v, (e1 _).trans h1, (valV_neg e').trans h2, h3⟩
theorem any_pd {k : Key} : ∀ {kvs : List (Key × A)} {ws : List (Key × V)}, Paired (RK K μ n H) kvs ws → (kvs.any fun kv => decide (kv.1 = k)) = (ws.any fun kv => decide (kv.1 = k))
  | _, _, .nil => rfl
  | _, _, .cons (a := x) (b := y) r t => by rw [List.any_cons, List.any_cons, any_pd t, r.1]
theorem put_pd {k : Key} {a : A} {v : V} (ra : RN K μ n H a v) {kvs : List (Key × A)} {ws : List (Key × V)} (h : Paired (RK K μ n H) kvs ws) : Paired (RK K μ n H) (putA kvs k a) (putK ws k v) := by
  unfold putA putK
  rw [any_pd h]
  split
  · skip
    rename_i hx
    clear hx
    induction h with
    | nil => exact .nil
    | cons r t ih =>
      rename_i x y _ _
      refine .cons ?_ ih
      by_cases e : x.1 = k
      · have e' : y.1 = k := r.1.symm.trans e
        simp only [e, e', if_true]
        exact ⟨rfl, ra⟩
      · have e' : ¬ y.1 = k := fun z => e (r.1.trans z)
        simp only [e, e', if_false]
        exact r
  · exact pd_append h (.cons ⟨rfl, ra⟩ .nil)
theorem drop_pd {k : Key} : ∀ {kvs : List (Key × A)} {ws : List (Key × V)}, Paired (RK K μ n H) kvs ws → Paired (RK K μ n H) (dropA kvs k) (dropK ws k)
  | _, _, .nil => .nil
  | _, _, .cons (a := x) (b := y) r t => by
    unfold dropA dropK
    have ih := drop_pd (k := k) t
    unfold dropA dropK at ih
    by_cases e : x.1 = k
    · have e' : y.1 = k := r.1.symm.trans e
      rw [List.filter_cons_of_neg (by simp [e]), List.filter_cons_of_neg (by simp [e'])]
      exact ih
    · have e' : ¬ y.1 = k := fun z => e (r.1.trans z)
      rw [List.filter_cons_of_pos (by simp [e]), List.filter_cons_of_pos (by simp [e'])]
      exact .cons r ih
/-- what is at a key -/
def getA (a b : A) (st : Sto) : Option (Option A) := match dicOf a st, keyOf b with
  | some kvs, some k => some (valA kvs k)
  | _, _ => none
theorem getA_ok {a b : A} {v u : V} {o : Option A} (S : RS K μ st H) (ra : Rep K μ st.length H a v) (rb : Rep K μ st.length H b u) (h : getA a b st = some o) :
    ∃ p ov, v = .ref p ∧ DGet H p u ov ∧ ((o = none ∧ ov = none) ∨ ∃ x w, o = some x ∧ ov = some w ∧ RN K μ st.length H x w) := by
  unfold getA at h
  split at h
  · rename_i kvs k h1 h2
    cases h
    obtain ⟨p, ws, rfl, h3, h4⟩ := dicOf_at S ra h1
    rw [keyOf_v rb h2]
    exact ⟨p, _, rfl, DGet.k h3, val_pd (repD_iff.mp h4)⟩
  · cases h
def opDGet : F2 := fun a b st => match getA a b st with
  | some (some x) => .ok x st
  | _ => .no
theorem dx_dget {o i : Expr} {fo fi : FE} {pos : Pos} (hu : X.A.units + 1 < cLine) (ho : PE X o (tOf K fo)) (hi : PE X i (tOf K fi)) (hs : NoSl i) : PE X (.Subscript o i pos) (tOf K (f2 opDGet fo fi)) := by
  refine pe_weak (pe_dget hu ho hi hs) ?_
  rintro σ H Q ⟨μ, st, ρ, a, st', S, E, h, q⟩
  unfold f2 at h
  split at h
  · rename_i a1 st1 h1
    split at h
    · rename_i b1 st2 h2
      refine ⟨μ, st, ρ, a1, st1, S, E, h1, fun v μ1 H1 S1 E1 r1 _ => ?_⟩
      refine ⟨μ1, st1, ρ, b1, st2, S1, E.ext S E1, h2, fun u μ2 H2 S2 E2 r2 _ => ?_⟩
      unfold opDGet at h
      split at h
      · rename_i x h3
        cases h
        obtain ⟨p, ov, rfl, h4, ⟨h5, _⟩ | ⟨y, w, h5, rfl, h6⟩⟩ := getA_ok S2 (r1.ext S1 E2) r2 h3
        · cases h5
        · cases h5
          exact ⟨p, w, rfl, h4, (q.from (E1.trans E2)).ok S2 h6.2 h6.1⟩
      · cases h
    · cases h
  · cases h
/-- k in d -/
def fDIn (fk fd : FE) : FE := fun ρ st => match fk ρ st with
  | .ok k st1 => (match fd ρ st1 with
    | .ok d st2 => (match getA d k st2 with
      | some o => .ok (.bl o.isSome) st2
      | none => .no)
    | .no => .no)
  | .no => .no
def fDInNot (fk fd : FE) : FE := fun ρ st => match fk ρ st with
  | .ok k st1 => (match fd ρ st1 with
    | .ok d st2 => (match getA d k st2 with
      | some o => .ok (.bl (!o.isSome)) st2
      | none => .no)
    | .no => .no)
  | .no => .no
theorem dc_din {i o : Expr} {fk fd : FE} (hu : X.A.units + 1 < cLine) (hi : PE X i (tOf K fk)) (ho : PE X o (tOf K fd)) : PC X .In i o (tOf K (fDIn fk fd)) := by
  refine ⟨fun pins s σ H Q I h => (pc_din hu hi ho).run pins s σ H Q I ?_⟩
  obtain ⟨μ, st, ρ, a, st', S, E, h, q⟩ := h
  unfold fDIn at h
  split at h
  · rename_i k1 st1 h1
    split at h
    · rename_i d1 st2 h2
      split at h
      · rename_i ov h3
        cases h
        refine ⟨μ, st, ρ, k1, st1, S, E, h1, fun v μ1 H1 S1 E1 r1 _ => ?_⟩
        refine ⟨μ1, st1, ρ, d1, _, S1, E.ext S E1, h2, fun u μ2 H2 S2 E2 r2 _ => ?_⟩
        have q2 := q.from (E1.trans E2)
        obtain ⟨p, ow, rfl, h4, ⟨rfl, rfl⟩ | ⟨y, w, rfl, rfl, h6⟩⟩ := getA_ok S2 r2 (r1.ext S1 E2) h3
        · exact ⟨p, _, rfl, h4, q2.ok S2 rfl trivial⟩
        · exact ⟨p, _, rfl, h4, q2.ok S2 rfl trivial⟩
      · cases h
    · cases h
  · cases h
theorem dc_dnin {i o : Expr} {fk fd : FE} (hu : X.A.units + 1 < cLine) (hi : PE X i (tOf K fk)) (ho : PE X o (tOf K fd)) : PC X .NotIn i o (tOf K (fDInNot fk fd)) := by
  refine ⟨fun pins s σ H Q I h => (pc_dnotin hu hi ho).run pins s σ H Q I ?_⟩
  obtain ⟨μ, st, ρ, a, st', S, E, h, q⟩ := h
  unfold fDInNot at h
  split at h
  · rename_i k1 st1 h1
    split at h
    · rename_i d1 st2 h2
      split at h
      · rename_i ov h3
        cases h
        refine ⟨μ, st, ρ, k1, st1, S, E, h1, fun v μ1 H1 S1 E1 r1 _ => ?_⟩
        refine ⟨μ1, st1, ρ, d1, _, S1, E.ext S E1, h2, fun u μ2 H2 S2 E2 r2 _ => ?_⟩
        have q2 := q.from (E1.trans E2)
        obtain ⟨p, ow, rfl, h4, ⟨rfl, rfl⟩ | ⟨y, w, rfl, rfl, h6⟩⟩ := getA_ok S2 r2 (r1.ext S1 E2) h3
        · exact ⟨p, _, rfl, h4, q2.ok S2 rfl trivial⟩
        · exact ⟨p, _, rfl, h4, q2.ok S2 rfl trivial⟩
      · cases h
    · cases h
  · cases h
theorem dx_din {i o : Expr} {fk fd : FE} {pos : Pos} (hu : X.A.units + 1 < cLine) (hi : PE X i (tOf K fk)) (ho : PE X o (tOf K fd)) (hb : behindInMarks .In o = false := by rfl) : PE X (.Compare i [.In] [o] pos) (tOf K (fDIn fk fd)) := pe_cmp (dc_din hu hi ho) hb
theorem dx_dinNot {i o : Expr} {fk fd : FE} {pos : Pos} (hu : X.A.units + 1 < cLine) (hi : PE X i (tOf K fk)) (ho : PE X o (tOf K fd)) (hb : behindInMarks .NotIn o = false := by rfl) : PE X (.Compare i [.NotIn] [o] pos) (tOf K (fDInNot fk fd)) := pe_cmp (dc_dnin hu hi ho) hb
theorem dt_din {i o : Expr} {fk fd : FE} {pos : Pos} (hu : X.A.units + 1 < cLine) (hi : PE X i (tOf K fk)) (ho : PE X o (tOf K fd)) (hb : behindInMarks .In o = false := by rfl) : PT X (.Compare i [.In] [o] pos) (uOf K (uB (fDIn fk fd))) := pt_weak (pt_cmp (dc_din hu hi ho) hb) fun _ _ _ h => w_bool h
theorem dt_dinNot {i o : Expr} {fk fd : FE} {pos : Pos} (hu : X.A.units + 1 < cLine) (hi : PE X i (tOf K fk)) (ho : PE X o (tOf K fd)) (hb : behindInMarks .NotIn o = false := by rfl) : PT X (.Compare i [.NotIn] [o] pos) (uOf K (uB (fDInNot fk fd))) := pt_weak (pt_cmp (dc_dnin hu hi ho) hb) fun _ _ _ h => w_bool h
theorem dx_dnew {pos : Pos} : PE X (.Dict [] [] pos) (tOf K (fC (.dtm []))) := by
  refine pe_weak pe_dnewK ?_
  rintro σ H Q ⟨μ, st, ρ, a, st', S, E, h, q⟩
  cases h
  intro p hp
  obtain ⟨S', E'⟩ := S.new (o := .dK []) hp
  exact q _ μ _ S' E' ⟨p, [], rfl, upd_same, S.ne_free hp, rfl⟩ (.inr ⟨p, rfl, hp⟩)
theorem putD {l : Nat} {kvs : List (Key × A)} {ws us : List (Key × V)} (S : RS K μ st H) (hl : l < st.length) (hx : H (μ l) = some (.dK us)) (r : Paired (RK K μ st.length H) kvs ws) :
    RS K μ (st.set l (.dic kvs)) (upd H (μ l) (.dK ws)) ∧ Ext μ st.length H μ (st.set l (.dic kvs)).length (upd H (μ l) (.dK ws)) :=
  S.put (l := l) hl (o := .dic kvs) (u := .dK ws) fun H' E h => ⟨ws, h, repD_iff.mpr (r.mono fun _ _ z => ⟨z.1, RN.ext z.2 S E⟩)⟩
/-- d[k] = v -/
def sDPutF (fd fk f : FE) : FS := fun ρ st => match fB f ρ st with
  | .ok v st1 => (match fd ρ st1 with
    | .ok (.loc l) st2 => (match fk ρ st2 with
      | .ok k st3 => (match st3[l]?, keyOf k with
        | some (.dic kvs), some kk => if kvs.length < sizeLine then .nx ρ (st3.set l (.dic (putA kvs kk v))) else .no
        | _, _ => .no)
      | .no => .no)
    | _ => .no)
  | .no => .no
theorem ds_dput {o i e : Expr} {fd fk f : FE} {pos pos' : Pos} (hu : X.A.units + 1 < cLine) (ho : PE X o (tOf K fd)) (hi : PE X i (tOf K fk)) (hv : PE X e (tOf K f)) (hs : swapsWith e (some (.Subscript o i pos')) pos.line X.env = pure false) : PS X (.Assign [.Subscript o i pos'] e pos) (sOf K (sDPutF fd fk f)) := by
  refine ps_weak (ps_dput hu ho hi (dx_bn hv) hs) ?_
  rintro D σ H ⟨μ, st, ρ, S, E, q⟩
  unfold sDPutF at q
  split at q
  · rename_i v1 st1 h1
    split at q
    · rename_i l st2 h2
      split at q
      · rename_i k1 st3 h3
        split at q
        · rename_i kvs kk h4 h5
          split at q
          · rename_i hz
            refine ⟨μ, st, ρ, v1, st1, S, E, h1, fun v μ1 H1 S1 E1 r1 => ?_⟩
            refine ⟨μ1, st1, ρ, _, st2, S1, E.ext S E1, h2, fun u μ2 H2 S2 E2 r2 _ => ?_⟩
            refine ⟨μ2, st2, ρ, _, st3, S2, (E.ext S E1).ext S1 E2, h3, fun w μ3 H3 S3 E3 r3 _ => ?_⟩
            obtain ⟨hl, rfl⟩ := r2.ext S2 E3
            obtain ⟨ws, h6, h7⟩ := S3.at_ l _ h4
            have h7' := repD_iff.mp h7
            rw [keyOf_v r3 h5]
            have rv := (r1.ext S1 E2).ext S2 E3
            obtain ⟨S4, E4⟩ := putD S3 hl h6 (put_pd (k := kk) rv h7')
            have E14 := ((E1.trans E2).trans E3).trans E4
            exact ⟨μ3 l, _, rfl, DPut.k h6 (by rw [← h7'.length]; exact hz), q σ μ3 _ S4 (E.ext S E14) E14⟩
          · exact q.elim
        · exact q.elim
      · exact q.elim
    · exact q.elim
  · exact q.elim
/-- del d[k] -/
def sDDelF (fd fk : FE) : FS := fun ρ st => match fd ρ st with
  | .ok (.loc l) st1 => (match fk ρ st1 with
    | .ok k st2 => (match st2[l]?, keyOf k with
      | some (.dic kvs), some kk => if (valA kvs kk).isSome = true then .nx ρ (st2.set l (.dic (dropA kvs kk))) else .no
      | _, _ => .no)
    | .no => .no)
  | _ => .no
theorem ds_ddel {o i : Expr} {fd fk : FE} {pos tpos : Pos} (ho : PE X o (tOf K fd)) (hi : PE X i (tOf K fk)) : PS X (.Delete [.Subscript o i tpos] pos) (sOf K (sDDelF fd fk)) := by
  refine ps_weak (ps_ddel ho hi) ?_
  rintro D σ H ⟨μ, st, ρ, S, E, q⟩
  unfold sDDelF at q
  split at q
  · rename_i l st1 h1
    split at q
    · rename_i k1 st2 h2
      split at q
      · rename_i kvs kk h4 h5
        split at q
        · rename_i hz
          refine ⟨μ, st, ρ, _, st1, S, E, h1, fun v μ1 H1 S1 E1 r1 _ => ?_⟩
          refine ⟨μ1, st1, ρ, _, st2, S1, E.ext S E1, h2, fun u μ2 H2 S2 E2 r2 _ => ?_⟩
          obtain ⟨hl, rfl⟩ := r1.ext S1 E2
          obtain ⟨ws, h6, h7⟩ := S2.at_ l _ h4
          have h7' := repD_iff.mp h7
          obtain ⟨S4, E4⟩ := putD S2 hl h6 (drop_pd (k := kk) h7')
          have E14 := (E1.trans E2).trans E4
          have hs : (valV ws kk).isSome = true := by
            rcases val_pd (k := kk) h7' with ⟨e1, e2⟩ | ⟨a, v, e1, e2, e3⟩
            · rw [e1] at hz; cases hz
            · rw [e2]; rfl
          exact ⟨μ2 l, ws, kk, rfl, h6, keyOf_v r2 h5, hs, q σ μ2 _ S4 (E.ext S E14) E14⟩
        · exact q.elim
      · exact q.elim
    · exact q.elim
  · exact q.elim
/-- d.get(k), d.get(k, x) -/
def fDGet1 (fd fk : FE) : FE := fun ρ st => match fd ρ st with
  | .ok d st1 => if (dicOf d st1).isSome = true then (match fk ρ st1 with
    | .ok k st2 => (match getA d k st2 with
      | some o => .ok (o.getD .non) st2
      | none => .no)
    | .no => .no) else .no
  | .no => .no
def fDGet2 (fd fk fx : FE) : FE := fun ρ st => match fd ρ st with
  | .ok d st1 => if (dicOf d st1).isSome = true then (match fk ρ st1 with
    | .ok k st2 => (match fB fx ρ st2 with
      | .ok x st3 => (match getA d k st3 with
        | some o => .ok (o.getD x) st3
        | none => .no)
      | .no => .no)
    | .no => .no) else .no
  | .no => .no
theorem dic_isD {a : A} {v : V} (S : RS K μ st H) (r : Rep K μ st.length H a v) (h : (dicOf a st).isSome = true) : ∃ p, v = .ref p ∧ IsD H p := by
  obtain ⟨kvs, h1⟩ := Option.isSome_iff_exists.mp h
  obtain ⟨p, ws, rfl, h2, _⟩ := dicOf_at S r h1
  exact ⟨p, rfl, .inl ⟨ws, .inl h2⟩⟩
theorem dx_dgetM1 {o e : Expr} {fd fk : FE} {apos cpos : Pos} (hu : X.A.units + 1 < cLine) (ho : PE X o (tOf K fd)) (he : PE X e (tOf K fk)) (m : M1 X o "get" apos e cpos) : PE X (.Call (.Attribute o "get" apos) [e] [] cpos) (tOf K (fDGet1 fd fk)) := by
  refine pe_weak (pe_dget1 hu ho he m) ?_
  rintro σ H Q ⟨μ, st, ρ, a, st', S, E, h, q⟩
  unfold fDGet1 at h
  split at h
  · rename_i d1 st1 h1
    split at h
    · rename_i hd
      split at h
      · rename_i k1 st2 h2
        split at h
        · rename_i ov h3
          cases h
          refine ⟨μ, st, ρ, d1, st1, S, E, h1, fun v μ1 H1 S1 E1 r1 _ => ?_⟩
          obtain ⟨p, rfl, hD⟩ := dic_isD S1 r1 hd
          refine ⟨p, rfl, hD, μ1, st1, ρ, k1, _, S1, E.ext S E1, h2, fun u μ2 H2 S2 E2 r2 _ => ?_⟩
          have q2 := q.from (E1.trans E2)
          obtain ⟨p', ow, e, h4, ⟨rfl, rfl⟩ | ⟨y, w, rfl, rfl, h6⟩⟩ := getA_ok S2 (r1.ext S1 E2) r2 h3
          · cases e
            exact ⟨_, h4, q2.ok S2 rfl trivial⟩
          · cases e
            exact ⟨_, h4, q2.ok S2 h6.2 h6.1⟩
        · cases h
      · cases h
    · cases h
  · cases h
theorem dx_dgetM2 {o e x : Expr} {fd fk fx : FE} {apos cpos : Pos} (hu : X.A.units + 1 < cLine) (ho : PE X o (tOf K fd)) (he : PE X e (tOf K fk)) (hx : PE X x (tOf K fx)) (m : M2 X o "get" apos e x cpos) : PE X (.Call (.Attribute o "get" apos) [e, x] [] cpos) (tOf K (fDGet2 fd fk fx)) := by
  refine pe_weak (pe_dget2 hu ho he (dx_bn hx) m) ?_
  rintro σ H Q ⟨μ, st, ρ, a, st', S, E, h, q⟩
  unfold fDGet2 at h
  split at h
  · rename_i d1 st1 h1
    split at h
    · rename_i hd
      split at h
      · rename_i k1 st2 h2
        split at h
        · rename_i x1 st3 h3
          split at h
          · rename_i ov h5
            cases h
            refine ⟨μ, st, ρ, d1, st1, S, E, h1, fun v μ1 H1 S1 E1 r1 _ => ?_⟩
            obtain ⟨p, rfl, hD⟩ := dic_isD S1 r1 hd
            refine ⟨p, rfl, hD, μ1, st1, ρ, k1, st2, S1, E.ext S E1, h2, fun u μ2 H2 S2 E2 r2 _ => ?_⟩
            refine ⟨μ2, st2, ρ, x1, _, S2, (E.ext S E1).ext S1 E2, h3, fun z μ3 H3 S3 E3 r3 => ?_⟩
            have q2 := q.from ((E1.trans E2).trans E3)
            obtain ⟨p', ow, e, h4, ⟨rfl, rfl⟩ | ⟨y, w, rfl, rfl, h6⟩⟩ := getA_ok S3 ((r1.ext S1 E2).ext S2 E3) (r2.ext S2 E3) h5
            · cases e
              exact ⟨_, h4, q2.ok S3 r3.2 r3.1⟩
            · cases e
              exact ⟨_, h4, q2.ok S3 h6.2 h6.1⟩
          · cases h
        · cases h
      · cases h
    · cases h
  · cases h
/-! three names at once -/
def sPar3 (i j l : Nat) (g : FA) : FS := fun ρ st => match g ρ st with
  | .ok [a, b, c] st1 => .nx (((ρ.set i (some a)).set j (some b)).set l (some c)) st1
  | _ => .no
end
end Ev
namespace Ev
open PySem PySem.Spec PyProof.Rows L2 Gd
theorem law_callE {P : Program} {w : World} {K : PySem.W.Frag} {mg mb : Str → Option Value} {k : Nat} {fa a : Addr} {fd : FuncData} {x : Str} {sp : Sp} {s : Shared} {vs : List Value} {ns : List Int}
    (inK : K.In s.heap) (names : s.heap.Ns mainGlobals mg) (blt : s.heap.Ns builtinsNs mb) (bltIs : ∀ x : Str, x ≠ "__name__" → mb x = bootBuiltins x) (noLim : s.heap.NoLimit) (noGen : s.gens = #[])
    (script : s.heap.get? a = some { cls := .type "list", data := .seq vs.toArray }) (areI : IntsAre vs ns) (len : ns.length ≤ sizeLine) (room : Room k callerA)
    (F : ∀ base : Heap, K.In base → base.Ns mainGlobals mg → FnG P w K mg base k fa fd [x] sp) (binds : ∀ (s : Shared) (u : Value), BindsTo s fd ⟨[u], []⟩ [(x, u)])
    (want : ∀ H : Hp, FzL K H a (ns.map V.int) → sp [.ref a] H (fun v _ => v = .bl true) fun _ _ _ => False) :
    codeAny (model P w) callerA (.call (.ref fa) ⟨[.ref a], []⟩) (fun r s2 => r = .ok (.ret (.bool true)) ∧ OldK s.heap s2.heap ∧ s2.os = s.os ∧ AllBare s2.gens) s := by
  suffices main : ∀ H : Hp, (∀ b, H b = none ∨ b = a ∧ K.lookup a = none ∧ ∃ o xs, H b = some (.frz o (.lst xs))) → FzL K H a (ns.map V.int) → HOk P w H s.heap →
      codeAny (model P w) callerA (.call (.ref fa) ⟨[.ref a], []⟩) (fun r s2 => r = .ok (.ret (.bool true)) ∧ OldK s.heap s2.heap ∧ s2.os = s.os ∧ AllBare s2.gens) s by
    rcases own : K.lookup a with _ | o
    · refine main (fun b => if b = a then some (.frz { cls := .type "list", data := .seq vs.toArray } (.lst (ns.map V.int))) else none) (fun b => ?_) (.inl ⟨_, if_pos rfl⟩) fun b u z => ?_
      · by_cases e : b = a
        · exact .inr ⟨e, own, _, _, if_pos e⟩
        · exact .inl (if_neg e)
      · by_cases e : b = a
        · subst e
          cases (if_pos rfl).symm.trans z
          exact ⟨script, (List.length_map (f := V.int)) ▸ len, vs, _, vals_ints areI, script⟩
        · cases (if_neg e).symm.trans z
    · have same := (inK a o own).symm.trans script
      cases same
      refine main (fun _ => none) (fun _ => .inl rfl) (.inr ⟨_, vs.toArray, _, own, rfl, rfl, rfl, ?_, by simpa using vals_ints areI⟩) fun b u z => by cases z
      rw [List.size_toArray, areI.length]
      exact len
  intro H few at_ hok
  have shown : ∀ {b : Addr} {o : Obj}, s.heap.get? b = some o → H b = none → (hidT s.heap H).get? b = some o := fun e n => hidT_get e n
  have dicts : ∀ {b : Addr} {o : Obj} {es : Array DictEntry} {ep : Nat}, s.heap.get? b = some o → o.data = .dict es ep → H b = none := by
    intro b o es ep e d
    rcases few b with z | ⟨rfl, _⟩
    · exact z
    · cases e.symm.trans script
      cases d
  have spaces : ∀ {b : Addr} {m : Str → Option Value}, s.heap.Ns b m → (hidT s.heap H).Ns b m := fun ⟨o, es, ep, e, d, r⟩ => ⟨o, es, ep, shown e (dicts e d), d, r⟩
  have inB : K.In (hidT s.heap H) := fun b o e => by
    refine shown (inK b o e) ?_
    rcases few b with z | ⟨rfl, no, _⟩
    · exact z
    · cases no.symm.trans e
  have modB : Mod K mg (hidT s.heap H) := ⟨inB, spaces names, ⟨mb, spaces blt, bltIs⟩, noLim.elim fun mc z => ⟨mc, spaces z.1, z.2⟩⟩
  have env : Env0 P w K mg (hidT s.heap H) callerA [] s H := ⟨rfl, modB, fun _ _ => of_hidT, Nat.le_of_eq (hidT_size _ _), trivial, fun b z => absurd z List.not_mem_nil, hok, .of_eq noGen⟩
  refine codeAny_mono ((F _ inB (spaces names)).run (us := [.ref a]) (vs := [.ref a]) rfl room env (binds s (.ref a)) (.cons rfl .nil) (want H at_)) ?_
  rintro (err | _ | _ | _ | u) s2 z
  · exact (show False from z).elim
  · exact (show False from z).elim
  · exact (show False from z).elim
  · exact (show False from z).elim
  obtain ⟨v, H2, os, bare, un, hok2, rel, rfl⟩ := z
  cases (show u = Value.bool true from rel)
  refine ⟨rfl, OldK.of_keep fun b o e => ?_, os, bare⟩
  rcases few b with z | ⟨_, _, ob, xs, z⟩
  · exact un.keep b o e z (fun y => absurd (show b ∈ ([] : List Addr) from y) List.not_mem_nil) List.not_mem_nil
  · have e1 := (hok b _ z).1.symm.trans e
    cases e1
    exact (hok2 b _ (un.frzs b _ _ z)).1
/-- the end: the law's def, its function gives True for every script -/
theorem walk_ofE {l : PySem.W.OpenLaw} {n k : Nat} {q : Program} {loose : List Str} {XP : (Str → Option Value) → Heap → Prop} {YP : World → Heap → Prop} {d : DefRec} {K : Params → PySem.W.Frag} {c : FN} {x : Str}
    (hn : l.most = some n) (hn2 : n ≤ sizeLine) (hdf : d.params.defaults = []) (room : Room k callerA) (hY : ∀ (w : World) (h : Heap), YP w h → (K w.params).In h)
    (F : ∀ (w : World) (mg : Str → Option Value) (fa : Addr) (h : Heap), (K w.params).In h → h.Ns mainGlobals mg → mg d.name = some (.ref fa) →
      ∃ fd : FuncData, (∀ (s : Shared) (u : Value), BindsTo s fd ⟨[u], []⟩ [(x, u)]) ∧ ∀ base : Heap, (K w.params).In base → base.Ns mainGlobals mg → FnG l.prog w (K w.params) mg base k fa fd [x] (spOf (K w.params) c))
    (ok : ∀ ns : List Int, ns.length ≤ n → ∃ st', c [.frz (ns.map A.int)] [] = .ok (.bl true) st') :
    PySem.W.WalkO q loose XP YP l.row.toRowW d [] (fun f vs => PySem.call f vs) := by
  refine Att.attach_call hn hdf ?_
  intro w s₀ s mg mb fa o pm cd doc a vs ns G Y ho hd hcd hmg hobj hints hlen hg
  obtain ⟨fd, hb, hF⟩ := F w mg fa _ (hY w _ Y) G.T.g hmg
  refine law_callE (hY w _ Y) G.T.g G.T.b G.T.builtins G.T.nolimit hg hobj hints (Nat.le_trans hlen hn2) room hF hb fun H at_ => ?_
  obtain ⟨st', h⟩ := ok ns hlen
  refine ⟨fun _ => 0, [], [.frz (ns.map A.int)], .bl true, st', ⟨fun l o e => by simp at e, fun l l' h => by simp at h⟩, .cons ⟨True.intro, a, _, rfl, at_, repL_ints ns⟩ .nil, h, fun v μ' H' S' E' r f => r⟩
end Ev
namespace Ev
open PySem PySem.Spec PyProof.Rows L2 Gd
section
variable {X : Cx} {K : PySem.W.Frag} {μ μ' : Nat → Addr} {n n' : Nat} {H H' : Hp} {st st' : Sto}
/-! {k: v, ..} -/
def fPs : List (FE × FE) → Rho → Sto → R (List (Key × A))
  | [], _, st => .ok [] st
  | (fk, fv) :: r, ρ, st => (match fk ρ st with
    | .ok k st1 => (match keyOf k with
      | some kk => (match fB fv ρ st1 with
        | .ok v st2 => (match fPs r ρ st2 with
          | .ok l st3 => .ok ((kk, v) :: l) st3
          | .no => .no)
        | .no => .no)
      | none => .no)
    | .no => .no)
def mergeA (kvs more : List (Key × A)) : List (Key × A) := more.foldl (fun acc kv => putA acc kv.1 kv.2) kvs
def fDisp (l : List (FE × FE)) : FE := fun ρ st => match fPs l ρ st with
  | .ok kvs st1 => if kvs.length ≤ 15 then .ok (.dtm (mergeA [] kvs)) st1 else .no
  | .no => .no
def trsOf (K : PySem.W.Frag) (l : List (FE × FE)) : List (TE × TE) := l.map fun p => (tOf K p.1, tBn K p.2)
theorem pairs_ok {ρ : Rho} {σ : L2.St} : ∀ {l : List (FE × FE)} {μ : Nat → Addr} {st : Sto} {H : Hp} {kvs : List (Key × A)} {st' : Sto} {Q : List (V × V) → Hp → Prop}, RS K μ st H → RE K μ st.length H σ ρ → fPs l ρ st = .ok kvs st' →
    (∀ ws μ' H', RS K μ' st' H' → Ext μ st.length H μ' st'.length H' → Paired (RK K μ' st'.length H') kvs ws → Q (ws.map fun kv => (kV kv.1, kv.2)) H') → tPairs (trsOf K l) σ H Q
  | [], μ, st, H, kvs, st', Q, S, E, h, q => by
    cases h
    exact q [] μ H S Ext.refl .nil
  | (fk, fv) :: r, μ, st, H, kvs, st', Q, S, E, h, q => by
    unfold fPs at h
    split at h
    · rename_i k st1 h1
      split at h
      · rename_i kk h2
        split at h
        · rename_i v st2 h3
          split at h
          · rename_i l' st3 h4
            cases h
            refine ⟨μ, st, ρ, k, st1, S, E, h1, fun x μ1 H1 S1 E1 r1 f1 => ?_⟩
            refine ⟨μ1, st1, ρ, v, st2, S1, E.ext S E1, h3, fun y μ2 H2 S2 E2 r2 => ?_⟩
            refine pairs_ok S2 ((E.ext S E1).ext S1 E2) h4 fun ws μ3 H3 S3 E3 r3 => ?_
            have := q ((kk, y) :: ws) μ3 H3 S3 ((E1.trans E2).trans E3) (.cons ⟨rfl, RN.ext r2 S2 E3⟩ r3)
            rw [keyOf_v r1 h2]
            exact this
          · cases h
        · cases h
      · cases h
    · cases h
theorem merge_pd : ∀ {more : List (Key × A)} {ws : List (Key × V)} {kvs : List (Key × A)} {us : List (Key × V)}, Paired (RK K μ n H) more ws → Paired (RK K μ n H) kvs us → Paired (RK K μ n H) (mergeA kvs more) (mergeK us ws)
  | [], _, _, _, h, h2 => by cases h; exact h2
  | x :: r, _, _, _, h, h2 => by
    cases h with
    | cons h3 h4 =>
      rename_i y ws
      have := put_pd (k := x.1) h3.2 h2
      show Paired _ (mergeA (putA _ x.1 x.2) r) (mergeK (putK _ y.1 y.2) ws)
      rw [← h3.1]
      exact merge_pd h4 this
theorem dx_disp {keys : List (Option Expr)} {values : List Expr} {l : List (FE × FE)} {pos : Pos} (h : PPs X pos keys values (trsOf K l)) (hall : keys.all (·.isSome) = true) (hl : keys.length = values.length) (h0 : keys ≠ []) (h15 : keys.length ≤ 15) : PE X (.Dict keys values pos) (tOf K (fDisp l)) := by
  refine pe_weak (pe_disp h hall hl h0 h15) ?_
  rintro σ H Q ⟨μ, st, ρ, a, st', S, E, h, q⟩
  unfold fDisp at h
  split at h
  · rename_i kvs st1 h1
    split at h
    · rename_i hz
      cases h
      intro p hp
      obtain ⟨S0, E0⟩ := S.new (o := .dK []) hp
      refine pairs_ok S0 (E.ext S E0) h1 fun ws μ1 H1 S1 E1 r1 => ?_
      have at1 : H1 p = some (.dK []) := E1.fr p _ upd_same (S.ne_free hp)
      have ne1 : ∀ l, l < st'.length → μ1 l ≠ p := fun l hl e => by
        by_cases h : l < st.length
        · rw [E1.ag l h] at e
          exact S.ne_free hp l h e
        · have := E1.nw l (by omega) hl
          rw [e, upd_same] at this
          cases this
      have g1 : ∀ xs, HO.dK [] ≠ .tup xs := fun _ e => nomatch e
      have g2 : ∀ x z, HO.dK [] ≠ .frz x z := fun _ _ e => nomatch e
      have S2 : RS K μ1 st' (upd H1 p (.dK (mergeK [] ws))) := S1.other at1 g1 g2 ne1
      have r2 : Paired (RK K μ1 st'.length (upd H1 p (.dK (mergeK [] ws)))) kvs ws := r1.mono fun _ _ z => ⟨z.1, RN.other at1 g1 g2 z.2⟩
      have E2 : Ext μ st.length H μ1 st'.length (upd H1 p (.dK (mergeK [] ws))) := by
        have E01 := E0.trans E1
        refine ⟨E01.le, E01.ag, fun c o h1 h2 => ?_, fun c h => ?_, E01.nw⟩
        · rw [upd_ne (ne_of_none h1 hp)]
          exact E01.fr c o h1 h2
        · by_cases e : c = p
          · rw [e]; exact hp
          · rw [upd_ne e] at h
            exact E01.so c h
      refine ⟨at1, ws, rfl, by rw [← r1.length]; exact hz, q _ μ1 _ S2 E2 ⟨p, _, rfl, upd_same, ne1, repD_iff.mpr (merge_pd r2 .nil)⟩ (.inr ⟨p, rfl, hp⟩)⟩
    · cases h
  · cases h
end
theorem dp_nil {X : Cx} {K : PySem.W.Frag} {pos : Pos} : PPs X pos [] [] (trsOf K []) := pps_nil
theorem dp_cons {X : Cx} {K : PySem.W.Frag} {pos : Pos} {k v : Expr} {ks : List (Option Expr)} {vs : List Expr} {fk fv : FE} {l : List (FE × FE)} (hk : PE X k (tOf K fk)) (hv : PE X v (tOf K fv)) (hr : PPs X pos ks vs (trsOf K l)) :
    PPs X pos (some k :: ks) (v :: vs) (trsOf K ((fk, fv) :: l)) := pps_cons hk (dx_bn hv) hr
end Ev
namespace Ev
open PySem PySem.Spec PyProof.Rows L2 Gd
theorem kw_one {K : PySem.W.Frag} {nm qual x : Str} {st : Stmt} {f : Addr} {fd : FuncData} (F : Fun K nm qual st f fd)
    (h1 : ∀ (kV doc pm : Value) (an : Option Addr) (cdv ct : Value) (u : Value), bindArgs (PySem.W.fnOf nm qual (defArgs st) (defBody st) (defScope st) .none kV doc pm an cdv ct) ⟨[u], []⟩ = pure [(x, u)])
    (h2 : ∀ (kV doc pm : Value) (an : Option Addr) (cdv ct : Value) (u : Value), bindArgs (PySem.W.fnOf nm qual (defArgs st) (defBody st) (defScope st) .none kV doc pm an cdv ct) ⟨[], [(x, u)]⟩ = pure [(x, u)]) :
    KBinds K fd [x] [x] (fun us ws => us ++ ws) (fun us ws => us ++ ws) := by
  obtain ⟨oc, od, kV, doc, pm, an, cdv, ct, osl, rfl, lk, hcd⟩ := F.ex
  refine ⟨fun s us ws _ hl => ?_, fun r r2 => r.append r2⟩
  match us, ws, hl with
  | [u], [], _ => exact .of_eq (h1 kV doc pm an cdv ct u)
  | [], [u], _ => exact .of_eq (h2 kV doc pm an cdv ct u)
theorem vals_rev : ∀ {vs : List V} {us : List Value}, Vals vs us → Vals vs.reverse us.reverse
  | _, _, .nil => .nil
  | _, _, .cons h t => by
    rw [List.reverse_cons, List.reverse_cons]
    exact (vals_rev t).append (.cons h .nil)
/-- two arguments by their names, the second one first -/
theorem kw_two {K : PySem.W.Frag} {nm qual x y : Str} {st : Stmt} {f : Addr} {fd : FuncData} (F : Fun K nm qual st f fd)
    (h0 : ∀ (kV doc pm : Value) (an : Option Addr) (cdv ct : Value) (u v : Value), bindArgs (PySem.W.fnOf nm qual (defArgs st) (defBody st) (defScope st) .none kV doc pm an cdv ct) ⟨[u, v], []⟩ = pure [(x, u), (y, v)])
    (h1 : ∀ (kV doc pm : Value) (an : Option Addr) (cdv ct : Value) (u v : Value), bindArgs (PySem.W.fnOf nm qual (defArgs st) (defBody st) (defScope st) .none kV doc pm an cdv ct) ⟨[u], [(y, v)]⟩ = pure [(x, u), (y, v)])
    (h2 : ∀ (kV doc pm : Value) (an : Option Addr) (cdv ct : Value) (u v : Value), bindArgs (PySem.W.fnOf nm qual (defArgs st) (defBody st) (defScope st) .none kV doc pm an cdv ct) ⟨[], [(y, v), (x, u)]⟩ = pure [(x, u), (y, v)]) :
    KBinds K fd [x, y] [y, x] (fun us ws => us ++ ws.reverse) (fun us ws => us ++ ws.reverse) := by
  obtain ⟨oc, od, kV, doc, pm, an, cdv, ct, osl, rfl, lk, hcd⟩ := F.ex
  refine ⟨fun s us ws _ hl => ?_, fun r r2 => r.append (vals_rev r2)⟩
  match us, ws, hl with
  | [u, v], [], _ => exact .of_eq (h0 kV doc pm an cdv ct u v)
  | [u], [v], _ => exact .of_eq (h1 kV doc pm an cdv ct u v)
  | [], [v, u], _ => exact .of_eq (h2 kV doc pm an cdv ct u v)
  | u :: v :: w :: r, ws, hl => simp at hl
  | [u, v], w :: r, hl => simp at hl
  | [u], [], hl => simp at hl
  | [u], v :: w :: r, hl => simp at hl
  | [], [], hl => simp at hl
  | [], [v], hl => simp at hl
  | [], u :: v :: w :: r, hl => simp at hl
theorem kw_three {K : PySem.W.Frag} {nm qual x y z : Str} {st : Stmt} {f : Addr} {fd : FuncData} (F : Fun K nm qual st f fd)
    (h0 : ∀ (kV doc pm : Value) (an : Option Addr) (cdv ct : Value) (a b c : Value), bindArgs (PySem.W.fnOf nm qual (defArgs st) (defBody st) (defScope st) .none kV doc pm an cdv ct) ⟨[a, b, c], []⟩ = pure [(x, a), (y, b), (z, c)])
    (h1 : ∀ (kV doc pm : Value) (an : Option Addr) (cdv ct : Value) (a b c : Value), bindArgs (PySem.W.fnOf nm qual (defArgs st) (defBody st) (defScope st) .none kV doc pm an cdv ct) ⟨[a, b], [(z, c)]⟩ = pure [(x, a), (y, b), (z, c)])
    (h2 : ∀ (kV doc pm : Value) (an : Option Addr) (cdv ct : Value) (a b c : Value), bindArgs (PySem.W.fnOf nm qual (defArgs st) (defBody st) (defScope st) .none kV doc pm an cdv ct) ⟨[a], [(z, c), (y, b)]⟩ = pure [(x, a), (y, b), (z, c)])
    (h3 : ∀ (kV doc pm : Value) (an : Option Addr) (cdv ct : Value) (a b c : Value), bindArgs (PySem.W.fnOf nm qual (defArgs st) (defBody st) (defScope st) .none kV doc pm an cdv ct) ⟨[], [(z, c), (y, b), (x, a)]⟩ = pure [(x, a), (y, b), (z, c)]) :
    KBinds K fd [x, y, z] [z, y, x] (fun us ws => us ++ ws.reverse) (fun us ws => us ++ ws.reverse) := by
  obtain ⟨oc, od, kV, doc, pm, an, cdv, ct, osl, rfl, lk, hcd⟩ := F.ex
  refine ⟨fun s us ws _ hl => ?_, fun r r2 => r.append (vals_rev r2)⟩
  match us, ws, hl with
  | [a, b, c], [], _ => exact .of_eq (h0 kV doc pm an cdv ct a b c)
  | [a, b], [c], _ => exact .of_eq (h1 kV doc pm an cdv ct a b c)
  | [a], [c, b], _ => exact .of_eq (h2 kV doc pm an cdv ct a b c)
  | [], [c, b, a], _ => exact .of_eq (h3 kV doc pm an cdv ct a b c)
  | a :: b :: c :: d :: r, ws, hl => simp at hl
  | [a, b, c], w :: r, hl => simp at hl
  | [a, b], [], hl => simp at hl
  | [a, b], c :: d :: r, hl => simp at hl
  | [a], [], hl => simp at hl
  | [a], [b], hl => simp at hl
  | [a], b :: c :: d :: r, hl => simp at hl
  | [], [], hl => simp at hl
  | [], [a], hl => simp at hl
  | [], [a, b], hl => simp at hl
  | [], a :: b :: c :: d :: r, hl => simp at hl
theorem kw_four {K : PySem.W.Frag} {nm qual x y z u : Str} {st : Stmt} {f : Addr} {fd : FuncData} (F : Fun K nm qual st f fd)
    (h0 : ∀ (kV doc pm : Value) (an : Option Addr) (cdv ct : Value) (a b c d : Value), bindArgs (PySem.W.fnOf nm qual (defArgs st) (defBody st) (defScope st) .none kV doc pm an cdv ct) ⟨[a, b, c, d], []⟩ = pure [(x, a), (y, b), (z, c), (u, d)])
    (h1 : ∀ (kV doc pm : Value) (an : Option Addr) (cdv ct : Value) (a b c d : Value), bindArgs (PySem.W.fnOf nm qual (defArgs st) (defBody st) (defScope st) .none kV doc pm an cdv ct) ⟨[a, b, c], [(u, d)]⟩ = pure [(x, a), (y, b), (z, c), (u, d)])
    (h2 : ∀ (kV doc pm : Value) (an : Option Addr) (cdv ct : Value) (a b c d : Value), bindArgs (PySem.W.fnOf nm qual (defArgs st) (defBody st) (defScope st) .none kV doc pm an cdv ct) ⟨[a, b], [(u, d), (z, c)]⟩ = pure [(x, a), (y, b), (z, c), (u, d)])
    (h3 : ∀ (kV doc pm : Value) (an : Option Addr) (cdv ct : Value) (a b c d : Value), bindArgs (PySem.W.fnOf nm qual (defArgs st) (defBody st) (defScope st) .none kV doc pm an cdv ct) ⟨[a], [(u, d), (z, c), (y, b)]⟩ = pure [(x, a), (y, b), (z, c), (u, d)])
    (h4 : ∀ (kV doc pm : Value) (an : Option Addr) (cdv ct : Value) (a b c d : Value), bindArgs (PySem.W.fnOf nm qual (defArgs st) (defBody st) (defScope st) .none kV doc pm an cdv ct) ⟨[], [(u, d), (z, c), (y, b), (x, a)]⟩ = pure [(x, a), (y, b), (z, c), (u, d)]) :
    KBinds K fd [x, y, z, u] [u, z, y, x] (fun us ws => us ++ ws.reverse) (fun us ws => us ++ ws.reverse) := by
  obtain ⟨oc, od, kV, doc, pm, an, cdv, ct, osl, rfl, lk, hcd⟩ := F.ex
  refine ⟨fun s us ws _ hl => ?_, fun r r2 => r.append (vals_rev r2)⟩
  match us, ws, hl with
  | [a, b, c, d], [], _ => exact .of_eq (h0 kV doc pm an cdv ct a b c d)
  | [a, b, c], [d], _ => exact .of_eq (h1 kV doc pm an cdv ct a b c d)
  | [a, b], [d, c], _ => exact .of_eq (h2 kV doc pm an cdv ct a b c d)
  | [a], [d, c, b], _ => exact .of_eq (h3 kV doc pm an cdv ct a b c d)
  | [], [d, c, b, a], _ => exact .of_eq (h4 kV doc pm an cdv ct a b c d)
  | a :: b :: c :: d :: e :: r, ws, hl => simp at hl
  | [a, b, c, d], w :: r, hl => simp at hl
  | [a, b, c], [], hl => simp at hl
  | [a, b, c], d :: e :: r, hl => simp at hl
  | [a, b], [], hl => simp at hl
  | [a, b], [c], hl => simp at hl
  | [a, b], c :: d :: e :: r, hl => simp at hl
  | [a], [], hl => simp at hl
  | [a], [b], hl => simp at hl
  | [a], [b, c], hl => simp at hl
  | [a], b :: c :: d :: e :: r, hl => simp at hl
  | [], [], hl => simp at hl
  | [], [a], hl => simp at hl
  | [], [a, b], hl => simp at hl
  | [], [a, b, c], hl => simp at hl
  | [], a :: b :: c :: d :: e :: r, hl => simp at hl
end Ev
/-! standings and wishes: plain Lean -/
namespace Wi
/-- one more of each -/
def tally (c : List Nat) (gs : List Nat) : List Nat := gs.foldl (fun c g => c.set g (c.getD g 0 + 1)) c
theorem tally_len (gs : List Nat) : ∀ c : List Nat, (tally c gs).length = c.length := by
  induction gs with
  | nil => intro c; rfl
  | cons g r ih =>
    intro c
    show (tally (c.set g (c.getD g 0 + 1)) r).length = _
    rw [ih, List.length_set]
theorem getD_set (c : List Nat) (g h v : Nat) (hg : g < c.length) : (c.set g v).getD h 0 = if h = g then v else c.getD h 0 := by
  rw [List.getD_eq_getElem?_getD, List.getD_eq_getElem?_getD]
  by_cases e : h = g
  · subst e
    rw [if_pos rfl, List.getElem?_set_self hg]
    rfl
  · rw [if_neg e, List.getElem?_set_ne (fun z => e z.symm)]
theorem tally_at (gs : List Nat) : ∀ (c : List Nat) (h : Nat), (∀ g ∈ gs, g < c.length) → (tally c gs).getD h 0 = c.getD h 0 + gs.count h := by
  induction gs with
  | nil => intro c h _; simp [tally]
  | cons g r ih =>
    intro c h hg
    show (tally (c.set g (c.getD g 0 + 1)) r).getD h 0 = _
    rw [ih _ h (fun x hx => by rw [List.length_set]; exact hg x (List.mem_cons_of_mem _ hx)), getD_set _ _ _ _ (hg g (by simp)), List.count_cons]
    by_cases e : h = g
    · subst e
      simp
      omega
    · rw [if_neg e]
      have : (g == h) = false := beq_false_of_ne (fun z => e z.symm)
      rw [this]
      simp
theorem tally_zero {many : Nat} {gs : List Nat} (h : ∀ g ∈ gs, g < many) : tally (List.replicate many 0) gs = (List.range many).map fun a => gs.count a := by
  refine List.ext_getElem? fun i => ?_
  by_cases hi : i < many
  · have h1 := tally_at gs (List.replicate many 0) i (fun g hg => by rw [List.length_replicate]; exact h g hg)
    have hl : i < (tally (List.replicate many 0) gs).length := by rw [tally_len, List.length_replicate]; exact hi
    rw [List.getD_eq_getElem?_getD, List.getElem?_eq_getElem hl] at h1
    rw [List.getElem?_eq_getElem hl, List.getElem?_map, List.getElem?_range hi]
    have h2 : (List.replicate many 0).getD i 0 = 0 := by
      rw [List.getD_eq_getElem?_getD]
      simp [hi]
    rw [h2] at h1
    simpa using h1
  · rw [List.getElem?_eq_none (by rw [tally_len, List.length_replicate]; omega), List.getElem?_eq_none (by rw [List.length_map, List.length_range]; omega)]
/-- is_wish's walk, of numbers -/
def wishN (b : Nat) : List Nat → List Nat → Bool
  | _, [] => true
  | c, g :: r => decide (g < c.length) && (c.getD g 0 != b) && wishN b (c.set g (c.getD g 0 + 1)) r
theorem wishN_yes {b : Nat} : ∀ (gs c : List Nat), (∀ g ∈ gs, g < c.length) → (∀ h, c.getD h 0 + gs.count h ≤ b) → wishN b c gs = true
  | [], c, _, _ => rfl
  | g :: r, c, h1, h2 => by
    have hg := h1 g (by simp)
    have h3 := h2 g
    rw [List.count_cons_self] at h3
    show (decide (g < c.length) && (c.getD g 0 != b) && wishN b (c.set g (c.getD g 0 + 1)) r) = true
    rw [decide_eq_true hg, Bool.true_and, show (c.getD g 0 != b) = true from by simp only [bne_iff_ne]; omega, Bool.true_and]
    refine wishN_yes r _ (fun x hx => by rw [List.length_set]; exact h1 x (List.mem_cons_of_mem _ hx)) fun h => ?_
    have h4 := h2 h
    rw [List.count_cons] at h4
    rw [getD_set _ _ _ _ hg]
    by_cases e : h = g
    · subst e
      rw [if_pos rfl]
      simp at h4
      omega
    · rw [if_neg e]
      have : (g == h) = false := beq_false_of_ne (fun z => e z.symm)
      rw [this] at h4
      simpa using h4
theorem wishN_zero {b : Nat} : ∀ (n : Nat) (c : List Nat), 0 < c.length → c.getD 0 0 ≤ b → b < c.getD 0 0 + n → wishN b c (List.replicate n 0) = false
  | 0, c, _, _, h => by omega
  | n + 1, c, hl, h1, h2 => by
    show (decide (0 < c.length) && (c.getD 0 0 != b) && wishN b (c.set 0 (c.getD 0 0 + 1)) (List.replicate n 0)) = false
    by_cases e : c.getD 0 0 = b
    · rw [e]
      simp
    · rw [wishN_zero n _ (by rw [List.length_set]; exact hl) (by rw [getD_set _ _ _ _ hl, if_pos rfl]; omega) (by rw [getD_set _ _ _ _ hl, if_pos rfl]; omega), Bool.and_false]
/-! ### where the records lie -/
def setRow (a : Nat) (xs : List Nat) (f : List Nat) : List Nat := xs.foldl (fun f r => f.set r a) f
def placesGo : Nat → List (List Nat) → List Nat → List Nat
  | _, [], f => f
  | a, xs :: r, f => placesGo (a + 1) r (setRow a xs f)
def cntR (rows : List (List Nat)) : Nat := (rows.map List.length).sum
def places (rows : List (List Nat)) : List Nat := placesGo 0 rows (List.replicate (cntR rows) 0)
theorem setRow_len (a : Nat) (xs : List Nat) : ∀ f, (setRow a xs f).length = f.length := by
  induction xs with
  | nil => intro f; rfl
  | cons x r ih =>
    intro f
    show (setRow a r (f.set x a)).length = _
    rw [ih, List.length_set]
theorem placesGo_len (rows : List (List Nat)) : ∀ a f, (placesGo a rows f).length = f.length := by
  induction rows with
  | nil => intro a f; rfl
  | cons xs r ih =>
    intro a f
    show (placesGo (a + 1) r (setRow a xs f)).length = _
    rw [ih, setRow_len]
theorem setRow_out {a : Nat} {xs : List Nat} {r : Nat} : ∀ {f : List Nat}, r ∉ xs → (setRow a xs f)[r]? = f[r]? := by
  induction xs with
  | nil => intro f _; rfl
  | cons x l ih =>
    intro f h
    show (setRow a l (f.set x a))[r]? = _
    rw [ih (fun z => h (List.mem_cons_of_mem _ z)), List.getElem?_set_ne (fun e => h (by rw [e]; simp))]
theorem setRow_in {a : Nat} {xs : List Nat} {r : Nat} : ∀ {f : List Nat}, r ∈ xs → r < f.length → (setRow a xs f)[r]? = some a := by
  induction xs with
  | nil => intro f h; cases h
  | cons x l ih =>
    intro f h hf
    show (setRow a l (f.set x a))[r]? = _
    by_cases hl : r ∈ l
    · exact ih hl (by rw [List.length_set]; exact hf)
    · rw [setRow_out hl]
      rcases List.mem_cons.mp h with e | e
      · rw [e, List.getElem?_set_self (by rw [← e]; exact hf)]
      · exact absurd e hl
theorem placesGo_out {r : Nat} (rows : List (List Nat)) : ∀ {a : Nat} {f : List Nat}, (∀ xs ∈ rows, r ∉ xs) → (placesGo a rows f)[r]? = f[r]? := by
  induction rows with
  | nil => intro a f _; rfl
  | cons xs l ih =>
    intro a f h
    show (placesGo (a + 1) l (setRow a xs f))[r]? = _
    rw [ih (fun y hy => h y (List.mem_cons_of_mem _ hy)), setRow_out (h xs (by simp))]
theorem placesGo_in {r : Nat} : ∀ (rows : List (List Nat)) {a i : Nat} {f xs : List Nat}, rows.flatten.Nodup → rows[i]? = some xs → r ∈ xs → r < f.length → (placesGo a rows f)[r]? = some (a + i)
  | [], a, i, f, xs, _, h, _, _ => by simp at h
  | ys :: l, a, 0, f, xs, hn, h, hr, hf => by
    obtain rfl : ys = xs := by simpa using h
    show (placesGo (a + 1) l (setRow a ys f))[r]? = _
    rw [List.flatten_cons, List.nodup_append] at hn
    rw [placesGo_out l (fun zs hz hrz => hn.2.2 r hr r (List.mem_flatten.mpr ⟨zs, hz, hrz⟩) rfl), setRow_in hr hf]
    rfl
  | ys :: l, a, i + 1, f, xs, hn, h, hr, hf => by
    rw [List.flatten_cons, List.nodup_append] at hn
    have := placesGo_in l (a := a + 1) (i := i) (f := setRow a ys f) hn.2.1 (by simpa using h) hr (by rw [setRow_len]; exact hf)
    show (placesGo (a + 1) l (setRow a ys f))[r]? = _
    rw [this]
    congr 1
    omega
/-- a standing's blocks: each record once, no block too full -/
structure Std (b : Nat) (rows : List (List Nat)) : Prop where
  perm : rows.flatten.Perm (List.range (cntR rows))
  le : ∀ xs ∈ rows, xs.length ≤ b
theorem Std.nd {b : Nat} {rows : List (List Nat)} (S : Std b rows) : rows.flatten.Nodup := S.perm.nodup_iff.mpr List.nodup_range
theorem Std.lt {b : Nat} {rows : List (List Nat)} (S : Std b rows) {xs : List Nat} {r : Nat} (h : xs ∈ rows) (hr : r ∈ xs) : r < cntR rows := List.mem_range.mp (S.perm.mem_iff.mp (List.mem_flatten.mpr ⟨xs, h, hr⟩))
theorem Std.row {b : Nat} {rows : List (List Nat)} (S : Std b rows) {r : Nat} (h : r < cntR rows) : ∃ (i : Nat) (xs : List Nat), rows[i]? = some xs ∧ r ∈ xs := by
  obtain ⟨xs, h1, h2⟩ := List.mem_flatten.mp (S.perm.mem_iff.mpr (List.mem_range.mpr h))
  obtain ⟨i, hi⟩ := List.mem_iff_getElem?.mp h1
  exact ⟨i, xs, hi, h2⟩
theorem places_len (rows : List (List Nat)) : (places rows).length = cntR rows := by
  unfold places
  rw [placesGo_len, List.length_replicate]
theorem places_at {b : Nat} {rows : List (List Nat)} (S : Std b rows) {i r : Nat} {xs : List Nat} (h : rows[i]? = some xs) (hr : r ∈ xs) : (places rows)[r]? = some i := by
  have := placesGo_in rows (a := 0) (i := i) (f := List.replicate (cntR rows) 0) S.nd h hr (by rw [List.length_replicate]; exact S.lt (List.mem_of_getElem? h) hr)
  rw [Nat.zero_add] at this
  exact this
theorem places_lt {b : Nat} {rows : List (List Nat)} (S : Std b rows) : ∀ g ∈ places rows, g < rows.length := fun g hg => by
  obtain ⟨r, hr⟩ := List.mem_iff_getElem?.mp hg
  have hl := (List.getElem?_eq_some_iff.mp hr).1
  rw [places_len] at hl
  obtain ⟨i, xs, h1, h2⟩ := S.row hl
  rw [places_at S h1 h2] at hr
  rw [← Option.some.inj hr]
  exact (List.getElem?_eq_some_iff.mp h1).1
/-- a wish is met just when it is where the records lie -/
def metN (rows : List (List Nat)) (w : List Nat) : Prop := ∀ (i : Nat) (xs : List Nat) (r : Nat), rows[i]? = some xs → r ∈ xs → w[r]? = some i
theorem met_iff {b : Nat} {rows : List (List Nat)} (S : Std b rows) {w : List Nat} (hw : w.length = cntR rows) : metN rows w ↔ w = places rows := by
  constructor
  · intro h
    refine List.ext_getElem? fun r => ?_
    by_cases hr : r < cntR rows
    · obtain ⟨i, xs, h1, h2⟩ := S.row hr
      rw [h i xs r h1 h2, places_at S h1 h2]
    · rw [List.getElem?_eq_none (by omega), List.getElem?_eq_none (by rw [places_len]; omega)]
  · rintro rfl i xs r h1 h2
    exact places_at S h1 h2
theorem count_rows {W : Nat → Nat} {b i : Nat} : ∀ (l : List (List Nat)) (k : Nat), (∀ xs ∈ l, xs.length ≤ b) → (∀ (j : Nat) (xs : List Nat) (r : Nat), l[j]? = some xs → r ∈ xs → W r = k + j) → (l.flatten.map W).count i ≤ b
  | [], k, _, _ => by simp
  | xs :: l, k, hb, hw => by
    rw [List.flatten_cons, List.map_append, List.count_append]
    have ih := count_rows (W := W) (b := b) (i := i) l (k + 1) (fun y hy => hb y (List.mem_cons_of_mem _ hy)) fun j ys r h hr => by
      have := hw (j + 1) ys r (by simpa using h) hr
      omega
    by_cases e : k = i
    · have h0 : (l.flatten.map W).count i = 0 := by
        refine List.count_eq_zero.mpr fun hm => ?_
        obtain ⟨r, hr, hr2⟩ := List.mem_map.mp hm
        obtain ⟨ys, hy, hry⟩ := List.mem_flatten.mp hr
        obtain ⟨j, hj⟩ := List.mem_iff_getElem?.mp hy
        have := hw (j + 1) ys r (by simpa using hj) hry
        omega
      have h1 : (xs.map W).count i ≤ (xs.map W).length := List.count_le_length
      rw [List.length_map] at h1
      have := hb xs (by simp)
      omega
    · have h0 : (xs.map W).count i = 0 := by
        refine List.count_eq_zero.mpr fun hm => ?_
        obtain ⟨r, hr, hr2⟩ := List.mem_map.mp hm
        have := hw 0 xs r rfl hr
        omega
      omega
theorem map_getD (w : List Nat) : w = (List.range w.length).map fun r => w.getD r 0 := by
  refine List.ext_getElem? fun i => ?_
  by_cases hi : i < w.length
  · rw [List.getElem?_map, List.getElem?_range hi, List.getElem?_eq_getElem hi]
    show _ = some (w.getD i 0)
    rw [List.getD_eq_getElem?_getD, List.getElem?_eq_getElem hi]
    rfl
  · rw [List.getElem?_eq_none (by omega), List.getElem?_eq_none (by rw [List.length_map, List.length_range]; omega)]
/-- how many records wish a block: as many as lie there, at most b -/
theorem places_count {b : Nat} {rows : List (List Nat)} (S : Std b rows) (i : Nat) : (places rows).count i ≤ b := by
  rw [map_getD (places rows), places_len]
  rw [← (S.perm.map fun r => (places rows).getD r 0).count_eq]
  refine count_rows rows 0 S.le fun j xs r h hr => ?_
  rw [List.getD_eq_getElem?_getD, places_at S h hr]
  show j = 0 + j
  omega
theorem places_wish {b many : Nat} {rows : List (List Nat)} (S : Std b rows) (hm : rows.length = many) : wishN b (List.replicate many 0) (places rows) = true := by
  refine wishN_yes _ _ (fun g hg => by rw [List.length_replicate, ← hm]; exact places_lt S g hg) fun h => ?_
  have h2 : (List.replicate many 0).getD h 0 = 0 := by
    rw [List.getD_eq_getElem?_getD]
    by_cases e : h < many
    · simp [e]
    · simp [e]
  rw [h2, Nat.zero_add]
  exact places_count S h
theorem cntR_flat (rows : List (List Nat)) : cntR rows = rows.flatten.length := by
  unfold cntR
  rw [List.length_flatten]
end Wi
/-! reckoning with the functions -/
namespace Ev
open PySem PySem.Spec PyProof.Rows L2 Gd
abbrev iL (ns : List Int) : List A := ns.map A.int
abbrev nL (ns : List Nat) : List A := ns.map fun n : Nat => A.int (n : Int)
theorem size_big {n : Nat} (h : n ≤ 1000000) : n < sizeLine := by rw [sizeLine_eq]; omega
open Classical
/-! comprehensions -/
theorem lcF_filter {α : Type} {ρ : Rho} {g : A → Rho → Option Rho} {u : FT} {fe : FE} {G : Sto → Prop} {f : α → A} {p : α → Bool} {val : α → A} {st : Sto} (hG : G st) :
    ∀ {xs : List α} {acc : List A}, acc.length + xs.length < sizeLine → (∀ x ∈ xs, ∃ ρ1, g (f x) ρ = some ρ1 ∧ u ρ1 st = .ok (p x) st ∧ (p x = true → fB fe ρ1 st = .ok (val x) st)) →
      lcF ρ g u fe G (xs.map f) acc st = .ok (acc ++ (xs.filter p).map val) st
  | [], acc, _, _ => by
    show (if G st then _ else _) = _
    rw [if_pos hG]
    simp
  | x :: xs, acc, hl, h => by
    obtain ⟨ρ1, h1, h2, h3⟩ := h x (by simp)
    have hl' : acc.length + (xs.length + 1) < sizeLine := hl
    have ih := fun acc' hl' => lcF_filter (ρ := ρ) (g := g) (u := u) (fe := fe) (f := f) (p := p) (val := val) hG (xs := xs) (acc := acc') hl' fun y hy => h y (List.mem_cons_of_mem _ hy)
    show (if G st then (match g (f x) ρ with | some ρ1 => _ | none => _) else _) = _
    rw [if_pos hG, h1]
    simp only [h2]
    by_cases hp : p x = true
    · rw [hp]
      simp only [h3 hp]
      rw [if_pos (by omega), ih _ (by rw [List.length_append]; show acc.length + 1 + xs.length < sizeLine; omega), List.filter_cons_of_pos hp]
      simp
    · have hp' : p x = false := by simpa using hp
      rw [hp']
      simp only
      rw [ih _ (by omega), List.filter_cons_of_neg (by simp [hp'])]
theorem lcF_map {α : Type} {ρ : Rho} {g : A → Rho → Option Rho} {fe : FE} {G : Sto → Prop} {f : α → A} {val : α → A} {st : Sto} {xs : List α} (hG : G st) (hl : xs.length < sizeLine) (h : ∀ x ∈ xs, ∃ ρ1, g (f x) ρ = some ρ1 ∧ fB fe ρ1 st = .ok (val x) st) :
    lcF ρ g uYes fe G (xs.map f) [] st = .ok (xs.map val) st := by
  have := lcF_filter (ρ := ρ) (g := g) (u := uYes) (fe := fe) (f := f) (p := fun _ => true) (val := val) hG (xs := xs) (acc := []) (by simpa using hl) fun x hx => by
    obtain ⟨ρ1, h1, h2⟩ := h x hx
    exact ⟨ρ1, h1, rfl, fun _ => h2⟩
  rw [this, List.filter_eq_self.mpr (fun _ _ => rfl)]
  rfl
/-! loops that run through -/
theorem loop_fold {α β : Type} {body : FS} {g : FG} {G : Sto → Prop} {f : α → A} (env : β → Rho) (sto : β → Sto) (step : β → α → β) (Pv : β → Prop) : ∀ {xs : List α} {b : β}, Pv b → (∀ b, Pv b → G (sto b)) →
    (∀ b x, x ∈ xs → Pv b → Pv (step b x) ∧ ∃ ρ1 st1, g (f x) (env b) (sto b) = .ok ρ1 st1 ∧ (body ρ1 st1 = .nx (env (step b x)) (sto (step b x)) ∨ body ρ1 st1 = .ct (env (step b x)) (sto (step b x)))) →
      loopF body g G (xs.map f) (env b) (sto b) = .nx (env (xs.foldl step b)) (sto (xs.foldl step b)) ∧ Pv (xs.foldl step b)
  | [], b, hb, hG, _ => by
    refine ⟨?_, hb⟩
    show (if G (sto b) then _ else _) = _
    rw [if_pos (hG b hb)]
    rfl
  | x :: xs, b, hb, hG, h => by
    obtain ⟨h1, ρ1, st1, h2, h3⟩ := h b x (by simp) hb
    have ih := loop_fold (f := f) (g := g) (body := body) (G := G) env sto step Pv (xs := xs) (b := step b x) h1 hG fun c y hy => h c y (List.mem_cons_of_mem _ hy)
    refine ⟨?_, ih.2⟩
    show (if G (sto b) then (match g (f x) (env b) (sto b) with | .ok ρ1 st1 => _ | .no => _) else _) = _
    rw [if_pos (hG b hb), h2]
    rcases h3 with h3 | h3
    · simp only [h3]
      exact ih.1
    · simp only [h3]
      exact ih.1
/-- .. by an invariant over what is done and what is left -/
theorem loop_inv {body : FS} {g : FG} {G : Sto → Prop} (Pv : List A → Rho → Sto → Prop) (T : SR → Prop) : ∀ {xs : List A} {ρ : Rho} {st : Sto}, Pv xs ρ st → (∀ xs ρ st, Pv xs ρ st → G st) →
    (∀ ρ st, Pv [] ρ st → T (.nx ρ st)) → (∀ x xs ρ st, Pv (x :: xs) ρ st → ∃ ρ1 st1, g x ρ st = .ok ρ1 st1 ∧
      ((∃ ρ2 st2, (body ρ1 st1 = .nx ρ2 st2 ∨ body ρ1 st1 = .ct ρ2 st2) ∧ Pv xs ρ2 st2) ∨ (∃ ρ2 st2, body ρ1 st1 = .bk ρ2 st2 ∧ T (.nx ρ2 st2)) ∨ ∃ a st2, body ρ1 st1 = .rt a st2 ∧ T (.rt a st2))) → T (loopF body g G xs ρ st)
  | [], ρ, st, h, hG, h0, _ => by
    show T (if G st then _ else _)
    rw [if_pos (hG _ _ _ h)]
    exact h0 _ _ h
  | x :: xs, ρ, st, h, hG, h0, hs => by
    obtain ⟨ρ1, st1, h1, h2⟩ := hs _ _ _ _ h
    show T (if G st then (match g x ρ st with | .ok ρ1 st1 => _ | .no => _) else _)
    rw [if_pos (hG _ _ _ h), h1]
    rcases h2 with ⟨ρ2, st2, h3 | h3, h4⟩ | ⟨ρ2, st2, h3, h4⟩ | ⟨a, st2, h3, h4⟩
    · simp only [h3]
      exact loop_inv Pv T h4 hG h0 hs
    · simp only [h3]
      exact loop_inv Pv T h4 hG h0 hs
    · simp only [h3]
      exact h4
    · simp only [h3]
      exact h4
/-- a while, by an invariant and a measure -/
theorem while_inv {u : FT} {body : FS} (Pv : Rho → Sto → Prop) (m : Rho → Sto → Nat) (T : SR → Prop) (hs : ∀ ρ st, Pv ρ st → (∃ st1, u ρ st = .ok false st1 ∧ T (.nx ρ st1)) ∨
      ∃ st1, u ρ st = .ok true st1 ∧ ((∃ ρ2 st2, (body ρ st1 = .nx ρ2 st2 ∨ body ρ st1 = .ct ρ2 st2) ∧ Pv ρ2 st2 ∧ m ρ2 st2 < m ρ st) ∨ (∃ ρ2 st2, body ρ st1 = .bk ρ2 st2 ∧ T (.nx ρ2 st2)) ∨ ∃ a st2, body ρ st1 = .rt a st2 ∧ T (.rt a st2))) :
    ∀ {ρ : Rho} {st : Sto}, Pv ρ st → T (sWhile u body ρ st) := by
  suffices main : ∀ k ρ st, m ρ st < k → Pv ρ st → T (sWhile u body ρ st) from fun {ρ st} h => main _ ρ st (Nat.lt_succ_self _) h
  intro k
  induction k with
  | zero => exact fun _ _ h => absurd h (by omega)
  | succ k ih =>
    intro ρ st hk h
    rw [sWhile_eq]
    rcases hs ρ st h with ⟨st1, h1, h2⟩ | ⟨st1, h1, ⟨ρ2, st2, h3 | h3, h4, h5⟩ | ⟨ρ2, st2, h3, h4⟩ | ⟨a, st2, h3, h4⟩⟩
    · rw [h1]
      exact h2
    · rw [h1]
      simp only [h3]
      exact ih _ _ (by omega) h4
    · rw [h1]
      simp only [h3]
      exact ih _ _ (by omega) h4
    · rw [h1]
      simp only [h3]
      exact h4
    · rw [h1]
      simp only [h3]
      exact h4
/-! what a def leaves -/
theorem kept_self (st suf : Sto) : Kept st (st ++ suf) := ⟨by rw [List.length_append]; omega, fun l hl => .inl (List.getElem?_append_left hl)⟩
/-! a value without lists -/
mutual
def A.dry : A → Bool
  | .loc _ => false
  | .tmp _ => false
  | .frz _ => false
  | .dtm _ => false
  | .tup xs => dryL xs
  | .pr a b => a.dry && b.dry
  | _ => true
def dryL : List A → Bool
  | [] => true
  | a :: r => a.dry && dryL r
end
mutual
theorem dry_bel {n : Nat} : ∀ {a : A}, a.dry = true → a.bel n = true
  | .non, _ => rfl
  | .bl _, _ => rfl
  | .int _, _ => rfl
  | .str _, _ => rfl
  | .tup xs, h => dryL_bel (xs := xs) h
  | .pr a b, h => by
    have h' : (a.dry && b.dry) = true := h
    rw [Bool.and_eq_true] at h'
    show (a.bel n && b.bel n) = true
    rw [dry_bel h'.1, dry_bel h'.2]
    rfl
theorem dryL_bel {n : Nat} : ∀ {xs : List A}, dryL xs = true → belL n xs = true
  | [], _ => rfl
  | a :: r, h => by
    have h' : (a.dry && dryL r) = true := h
    rw [Bool.and_eq_true] at h'
    show (a.bel n && belL n r) = true
    rw [dry_bel h'.1, dryL_bel h'.2]
    rfl
end
theorem dryL_map {α : Type} {f : α → A} : ∀ {xs : List α}, (∀ x ∈ xs, (f x).dry = true) → dryL (xs.map f) = true
  | [], _ => rfl
  | x :: xs, h => by
    show ((f x).dry && dryL (xs.map f)) = true
    rw [h x (by simp), dryL_map fun y hy => h y (List.mem_cons_of_mem _ hy)]
    rfl
theorem dryL_append : ∀ {xs ys : List A}, dryL xs = true → dryL ys = true → dryL (xs ++ ys) = true
  | [], _, _, h => h
  | x :: xs, ys, h, h2 => by
    have h' : (x.dry && dryL xs) = true := h
    rw [Bool.and_eq_true] at h'
    show (x.dry && dryL (xs ++ ys)) = true
    rw [h'.1, dryL_append h'.2 h2]
    rfl
/-- a dry value comes back alone -/
theorem finish_dry {st st' : Sto} {a : A} (h : a.dry = true) (k : Kept st st') : finish st a st' = .ok a (st'.take st.length) := by
  unfold finish
  rw [if_pos k]
  cases a with
  | loc l => cases h
  | _ => exact if_pos (dry_bel h)
theorem finish_pure {st suf : Sto} {a : A} (h : a.dry = true) : finish st a (st ++ suf) = .ok a st := by
  rw [finish_dry h (kept_self st suf), List.take_left]
/-- a new list comes back as a new one -/
theorem finish_list {st st' : Sto} {l : Nat} {xs : List A} (k : Kept st st') (hl : st.length ≤ l) (h : st'[l]? = some (.lst xs)) (d : dryL xs = true) : finish st (.loc l) st' = .ok (.tmp xs) (st'.take st.length) := by
  unfold finish
  rw [if_pos k]
  simp only
  rw [if_neg (by omega), h]
  exact if_pos (dryL_bel d)
theorem finish_tmp {st st' : Sto} {xs : List A} (k : Kept st st') (d : dryL xs = true) : finish st (.tmp xs) st' = .ok (.tmp xs) (st'.take st.length) := by
  unfold finish
  rw [if_pos k]
  exact if_pos (dryL_bel d)
theorem defn_rt {p m : Nat} {g : FS} {as : List A} {st st' : Sto} {a : A} {r : R A} (hl : as.length = p) (e : g (as.map some ++ List.replicate m none) st = .rt a st') (f : finish st a st' = r) : defn p m g as st = r := by
  unfold defn
  rw [if_pos hl, e]
  exact f
theorem defn_nx {p m : Nat} {g : FS} {as : List A} {st st' : Sto} {ρ : Rho} {r : R A} (hl : as.length = p) (e : g (as.map some ++ List.replicate m none) st = .nx ρ st') (f : finish st .non st' = r) : defn p m g as st = r := by
  unfold defn
  rw [if_pos hl, e]
  exact f
/-! the source of draws: J is what the source's making has left -/
def D3 (J : O) (cs : List Int) (b : Int) (suf : Sto) : Sto := J :: .lst (iL cs) :: .lst [.loc 1, .int b] :: suf
structure Src (J : O) (cs : List Int) (b : Int) : Prop where
  b0 : 0 ≤ b
  b1 : b < 2 ^ 40
  c0 : ∀ c ∈ cs, 0 ≤ c
  len : cs.length ≤ 48
theorem D3_app {J : O} {cs : List Int} {b : Int} {suf more : Sto} : D3 J cs b suf ++ more = D3 J cs b (suf ++ more) := rfl
theorem D3_len {J : O} {cs : List Int} {b : Int} {suf : Sto} : (D3 J cs b suf).length = suf.length + 3 := rfl
theorem D3_take {J : O} {cs cs' : List Int} {b b' : Int} {suf more : Sto} : (D3 J cs' b' (suf ++ more)).take (D3 J cs b suf).length = D3 J cs' b' suf := by
  rw [D3_len]
  show J :: .lst (iL cs') :: .lst [.loc 1, .int b'] :: (suf ++ more).take suf.length = _
  rw [List.take_left]
  rfl
theorem dryL_ints (ns : List Int) : dryL (iL ns) = true := dryL_map fun _ _ => rfl
theorem dryL_nats (ns : List Nat) : dryL (nL ns) = true := dryL_map fun _ _ => rfl
theorem D3_kept {J : O} {cs cs' : List Int} {b b' : Int} {suf more : Sto} : Kept (D3 J cs b suf) (D3 J cs' b' (suf ++ more)) := by
  refine ⟨by rw [D3_len, D3_len, List.length_append]; omega, fun l hl => ?_⟩
  rw [D3_len] at hl
  match l, hl with
  | 0, _ => exact .inl rfl
  | 1, _ => exact .inr ⟨_, rfl, dryL_bel (dryL_ints cs')⟩
  | 2, _ =>
    refine .inr ⟨_, rfl, ?_⟩
    rw [D3_len]
    show (decide (1 < suf.length + 3) && (true && true)) = true
    simp
  | l + 3, hl =>
    refine .inl ?_
    show (suf ++ more)[l]? = suf[l]?
    exact List.getElem?_append_left (by omega)
/-! data -/
theorem dWs_map {α : Type} {g : Nat → Option PyData} {f : α → A} {d : α → PyData} : ∀ {xs : List α}, (∀ x ∈ xs, dW g (f x) = some (d x)) → dWs g (xs.map f) = some (xs.map d)
  | [], _ => rfl
  | x :: xs, h => by
    show (match dW g (f x), dWs g (xs.map f) with | some d, some ds => some (d :: ds) | _, _ => none) = _
    rw [h x (by simp), dWs_map fun y hy => h y (List.mem_cons_of_mem _ hy)]
    rfl
theorem dWs_iL (g : Nat → Option PyData) (cs : List Int) : dWs g (iL cs) = some (cs.map PyData.int) := dWs_map fun _ _ => rfl
theorem dWs_nL (g : Nat → Option PyData) (cs : List Nat) : dWs g (nL cs) = some (cs.map fun n : Nat => PyData.int (n : Int)) := dWs_map fun _ _ => rfl
theorem shaped_iL (cs : List Int) : SeqAt.shaped (.list (cs.map PyData.int)) = true := by
  have h1 : ∀ cs : List Int, PyData.canLayAll0 (cs.map PyData.int) = true := fun cs => by
    induction cs with
    | nil => rfl
    | cons c cs ih => simp [PyData.canLayAll0, PyData.canLay0, ih]
  have h2 : ∀ cs : List Int, PyData.depthAll (cs.map PyData.int) = 0 := fun cs => by
    induction cs with
    | nil => rfl
    | cons c cs ih => simp [PyData.depthAll, PyData.depth, ih]
  unfold SeqAt.shaped
  simp [PyData.canLay0, PyData.depth, h1, h2]
theorem eqv_nilL (cs : List PyData) : PyData.eqv (.list cs) (.list []) = cs.isEmpty := by
  cases cs with
  | nil => rfl
  | cons c cs => rfl
/-- data of a list -/
theorem toD_lst {a : A} {st : Sto} {xs : List A} {ds : List PyData} (h : lstOf a st = some xs) (hd : ∀ g, dWs g xs = some ds) : toD st a = some (.list ds) := by
  cases a with
  | tmp ys =>
    cases h
    show (dWs _ xs).map PyData.list = _
    rw [hd]
    rfl
  | frz ys =>
    cases h
    show (dWs _ xs).map PyData.list = _
    rw [hd]
    rfl
  | loc l =>
    unfold lstOf at h
    simp only at h
    split at h
    · rename_i ys h2
      cases h
      show (match st[l]? with | some (.lst xs) => _ | _ => none) = _
      rw [h2]
      simp only [hd]
      rfl
    · cases h
  | _ => cases h
/-- xs != [] -/
def A.isStr : A → Bool
  | .str _ => true
  | _ => false
theorem opEq_of {a b : A} {st : Sto} {d e : PyData} (h : toD st a = some d) (h2 : toD st b = some e) (s1 : SeqAt.shaped d = true) (s2 : SeqAt.shaped e = true) (n : a.isStr = false ∨ b.isStr = false) : opEq a b st = .ok (.bl (PyData.eqv d e)) st := by
  have key : (match toD st a, toD st b with
    | some d, some e => if (SeqAt.shaped d && SeqAt.shaped e) = true then R.ok (A.bl (PyData.eqv d e)) st else .no
    | _, _ => .no) = .ok (.bl (PyData.eqv d e)) st := by
    rw [h, h2]
    exact if_pos (by rw [s1, s2]; rfl)
  cases a <;> cases b <;> first | exact key | (rcases n with n | n <;> cases n)
theorem opNe_of {a b : A} {st : Sto} {d e : PyData} (h : toD st a = some d) (h2 : toD st b = some e) (s1 : SeqAt.shaped d = true) (s2 : SeqAt.shaped e = true) (n : a.isStr = false ∨ b.isStr = false) : opNe a b st = .ok (.bl (!PyData.eqv d e)) st := by
  have key : (match toD st a, toD st b with
    | some d, some e => if (SeqAt.shaped d && SeqAt.shaped e) = true then R.ok (A.bl (!PyData.eqv d e)) st else .no
    | _, _ => .no) = .ok (.bl (!PyData.eqv d e)) st := by
    rw [h, h2]
    exact if_pos (by rw [s1, s2]; rfl)
  cases a <;> cases b <;> first | exact key | (rcases n with n | n <;> cases n)
/-- xs != [] -/
theorem opNe_nil {a : A} {st : Sto} {xs : List A} {ds : List PyData} (h : lstOf a st = some xs) (hd : ∀ g, dWs g xs = some ds) (hs : SeqAt.shaped (.list ds) = true) : opNe a (.tmp []) st = .ok (.bl (!ds.isEmpty)) st := by
  rw [opNe_of (toD_lst h hd) (e := .list []) rfl hs (by decide) (.inr rfl), eqv_nilL]
theorem eqv_int (i j : Int) : PyData.eqv (.int i) (.int j) = decide (i = j) := by
  show (i == j) = _
  rw [Bool.beq_eq_decide_eq]
theorem opEq_int (i j : Int) (st : Sto) : opEq (.int i) (.int j) st = .ok (.bl (decide (i = j))) st := by
  rw [opEq_of (d := .int i) (e := .int j) rfl rfl (by rfl) (by rfl) (.inl rfl), eqv_int]
theorem opNe_int (i j : Int) (st : Sto) : opNe (.int i) (.int j) st = .ok (.bl (!decide (i = j))) st := by
  rw [opNe_of (d := .int i) (e := .int j) rfl rfl (by rfl) (by rfl) (.inl rfl), eqv_int]
/-- repr(x) != repr(y), both one -/
theorem opNe_same (x : Str) (st : Sto) : opNe (.str x) (.str x) st = .ok (.bl false) st := by
  show R.ok (A.bl (!decide (x = x))) st = _
  rw [decide_eq_true rfl]
  rfl
theorem bRepr_of {a : A} {st : Sto} {d : PyData} (h : toD st a = some d) (ok : ReprOk d) : bRepr [a] st = .ok (.str d.shown) st := by
  show (match toD st a with | some d => (if ReprOk d then R.ok (A.str d.shown) st else .no) | none => .no) = _
  rw [h]
  exact if_pos ok
/-! rows of numbers -/
abbrev tN (xs : List Nat) : A := .tup (nL xs)
abbrev tR (rows : List (List Nat)) : A := .tup (rows.map tN)
def dN (xs : List Nat) : PyData := .tuple (xs.map fun n : Nat => PyData.int (n : Int))
def dR (rows : List (List Nat)) : PyData := .tuple (rows.map dN)
abbrev sD (b : Nat) (rows : List (List Nat)) : A := .tup [.int (b : Int), tR rows]
def dSD (b : Nat) (rows : List (List Nat)) : PyData := .tuple [.int (b : Int), dR rows]
theorem dry_tN (xs : List Nat) : (tN xs).dry = true := dryL_nats xs
theorem dry_tR (rows : List (List Nat)) : (tR rows).dry = true := dryL_map fun _ _ => dry_tN _
theorem dry_sD (b : Nat) (rows : List (List Nat)) : (sD b rows).dry = true := by
  show (true && ((tR rows).dry && true)) = true
  rw [dry_tR]
  rfl
theorem dW_tN (g : Nat → Option PyData) (xs : List Nat) : dW g (tN xs) = some (dN xs) := by
  show (dWs g (nL xs)).map PyData.tuple = _
  rw [dWs_nL]
  rfl
theorem dW_tR (g : Nat → Option PyData) (rows : List (List Nat)) : dW g (tR rows) = some (dR rows) := by
  show (dWs g (rows.map tN)).map PyData.tuple = _
  rw [dWs_map (d := dN) fun x _ => dW_tN g x]
  rfl
theorem dW_sD (g : Nat → Option PyData) (b : Nat) (rows : List (List Nat)) : dW g (sD b rows) = some (dSD b rows) := by
  show (match dW g (.int (b : Int)), (match dW g (tR rows), (some [] : Option (List PyData)) with | some d, some ds => some (d :: ds) | _, _ => none) with | some d, some ds => some (d :: ds) | _, _ => none).map PyData.tuple = _
  rw [dW_tR]
  rfl
theorem toD_tN (st : Sto) (xs : List Nat) : toD st (tN xs) = some (dN xs) := dW_tN _ xs
theorem toD_tR (st : Sto) (rows : List (List Nat)) : toD st (tR rows) = some (dR rows) := dW_tR _ rows
theorem toD_sD (st : Sto) (b : Nat) (rows : List (List Nat)) : toD st (sD b rows) = some (dSD b rows) := dW_sD _ b rows
theorem can_dN (xs : List Nat) : (dN xs).canLay0 = true ∧ (dN xs).depth = 1 := by
  have h1 : ∀ xs : List Nat, PyData.canLayAll0 (xs.map fun n : Nat => PyData.int (n : Int)) = true := fun xs => by
    induction xs with
    | nil => rfl
    | cons c cs ih => simp [PyData.canLayAll0, PyData.canLay0, ih]
  have h2 : ∀ xs : List Nat, PyData.depthAll (xs.map fun n : Nat => PyData.int (n : Int)) = 0 := fun xs => by
    induction xs with
    | nil => rfl
    | cons c cs ih => simp [PyData.depthAll, PyData.depth, ih]
  simp [dN, PyData.canLay0, PyData.depth, h1, h2]
theorem shaped_dN (xs : List Nat) : SeqAt.shaped (dN xs) = true := by
  obtain ⟨h1, h2⟩ := can_dN xs
  unfold SeqAt.shaped
  rw [h1, h2]
  rfl
theorem sm_ints {d : Nat} : ∀ xs : List Nat, (∀ x ∈ xs, x ≤ 999999999999) → SmAll d (41 * xs.length) (xs.map fun n : Nat => PyData.int (n : Int))
  | [], _ => .nil
  | i :: ns, h => by
    have a := sm_ints (d := d) ns fun j hj => h j (List.mem_cons_of_mem _ hj)
    have b := h i (by simp)
    have := SmAll.cons (d := d) (.int (i := (i : Int)) (by omega) (by omega)) a
    rw [List.length_cons, show 41 * (ns.length + 1) = 40 + 1 + 41 * ns.length by omega]
    exact this
theorem sm_dN {d : Nat} {xs : List Nat} (h : ∀ x ∈ xs, x ≤ 999999999999) : Sm (d + 1) (41 * xs.length) (dN xs) := .tup (sm_ints xs h)
theorem repr_dN {xs : List Nat} (h : ∀ x ∈ xs, x ≤ 999999999999) (hl : xs.length ≤ 20000) : ReprOk (dN xs) := ⟨1, _, sm_dN h, by decide, by omega⟩
theorem sm_rows {d m : Nat} : ∀ {rows : List (List Nat)}, (∀ xs ∈ rows, xs.length ≤ m ∧ ∀ x ∈ xs, x ≤ 999999999999) → ∃ n, n ≤ (41 * m + 1) * rows.length ∧ SmAll (d + 1) n (rows.map dN)
  | [], _ => ⟨0, Nat.zero_le _, .nil⟩
  | xs :: l, h => by
    obtain ⟨h1, h2⟩ := h xs (by simp)
    obtain ⟨n, hn, hl⟩ := sm_rows (d := d) fun y hy => h y (List.mem_cons_of_mem _ hy)
    refine ⟨41 * xs.length + 1 + n, ?_, .cons (sm_dN h2) hl⟩
    rw [List.length_cons, Nat.mul_add]
    have : 41 * xs.length ≤ 41 * m := Nat.mul_le_mul_left _ h1
    omega
theorem repr_dR {rows : List (List Nat)} (m : Nat) (hm : (41 * m + 1) * rows.length ≤ 1000000) (h : ∀ xs ∈ rows, xs.length ≤ m ∧ ∀ x ∈ xs, x ≤ 999999999999) : ReprOk (dR rows) := by
  obtain ⟨n, hn, hs⟩ := sm_rows (d := 0) h
  exact ⟨2, n, .tup hs, by decide, by omega⟩
theorem repr_dSD {b : Nat} {rows : List (List Nat)} (m : Nat) (hb : b ≤ 999999999999) (hm : (41 * m + 1) * rows.length ≤ 1000000) (h : ∀ xs ∈ rows, xs.length ≤ m ∧ ∀ x ∈ xs, x ≤ 999999999999) : ReprOk (dSD b rows) := by
  obtain ⟨n, hn, hs⟩ := sm_rows (d := 0) h
  exact ⟨3, 40 + 1 + (n + 1 + 0), .tup (.cons (.int (by omega) (by omega)) (.cons (.tup hs) .nil)), by decide, by omega⟩
theorem eqv_dN (as bs : List Nat) : PyData.eqv (dN as) (dN bs) = decide (as = bs) := by
  show PyData.eqvAll _ _ = _
  induction as generalizing bs with
  | nil => cases bs <;> rfl
  | cons a as ih =>
    cases bs with
    | nil => rfl
    | cons b bs =>
      show (PyData.eqv (.int (a : Int)) (.int (b : Int)) && PyData.eqvAll _ _) = _
      rw [ih, eqv_int]
      have e : decide ((a : Int) = (b : Int)) = decide (a = b) := by
        by_cases h : a = b
        · rw [decide_eq_true h, decide_eq_true (by omega)]
        · rw [decide_eq_false h, decide_eq_false (by omega)]
      rw [e]
      by_cases h1 : a = b <;> by_cases h2 : as = bs <;> simp [h1, h2]
theorem repr_bool (b : Bool) : ReprOk (.bool b) := ⟨0, 0, .bl b, by decide, by decide⟩
theorem repr_int {i : Int} (h : -999999999999 ≤ i) (h' : i ≤ 999999999999) : ReprOk (.int i) := ⟨0, 40, .int h h', by decide, by decide⟩
end Ev
/-! one step after another -/
namespace Ev
open PySem PySem.Spec PyProof.Rows L2 Gd
section
variable {ρ ρ1 ρ2 : Rho} {st st1 st2 st3 : Sto} {a b c : A} {as : List A} {f fa fb fc : FE} {g : FA} {u v : FT} {r : R A} {rL : R (List A)} {rb : R Bool} {s t : FS} {z : SR} {k : Bool}
theorem e_f2 {gg : F2} (h1 : fa ρ st = .ok a st1) (h2 : fb ρ st1 = .ok b st2) (h3 : gg a b st2 = r) : f2 gg fa fb ρ st = r := by
  unfold f2; rw [h1]; simp only; rw [h2]; exact h3
theorem e_f1 {gg : F1} (h1 : fa ρ st = .ok a st1) (h3 : gg a st1 = r) : f1 gg fa ρ st = r := by
  unfold f1; rw [h1]; exact h3
theorem e_fN {gg : FN} (h1 : g ρ st = .ok as st1) (h2 : gg as st1 = r) : fN gg g ρ st = r := by
  unfold fN; rw [h1]; exact h2
theorem e_fNK {gg : FN} (h1 : g ρ st = .ok as st1) (h2 : gg as.reverse st1 = r) : fNK gg g ρ st = r := by
  unfold fNK; rw [h1]; exact h2
theorem e_aC (h1 : f ρ st = .ok a st1) (h2 : g ρ st1 = .ok as st2) : aC f g ρ st = .ok (a :: as) st2 := by
  unfold aC; rw [h1]; simp only; rw [h2]
theorem e_aN : aN ρ st = .ok [] st := rfl
theorem e_fB (h1 : f ρ st = .ok a st1) (h2 : locd a st1 = r) : fB f ρ st = r := by
  unfold fB; rw [h1]; exact h2
theorem e_fM {gg : A → FN} (h1 : f ρ st = .ok a st1) (hl : isL a st1 = true) (h2 : g ρ st1 = .ok as st2) (h3 : gg a as st2 = r) : fM gg f g ρ st = r := by
  unfold fM; rw [h1]; simp only; rw [if_pos hl, h2]; exact h3
theorem e_fMT {gg : A → FN} (h1 : f ρ st = .ok a st1) (hl : isT a = true) (h2 : g ρ st1 = .ok as st2) (h3 : gg a as st2 = r) : fMT gg f g ρ st = r := by
  unfold fMT; rw [h1]; simp only; rw [if_pos hl, h2]; exact h3
theorem e_fNeg {i : Int} (h1 : f ρ st = .ok (.int i) st1) : fNeg f ρ st = .ok (.int (-i)) st1 := by
  unfold fNeg; rw [h1]
theorem e_fNot {x : Bool} (h1 : f ρ st = .ok (.bl x) st1) : fNot f ρ st = .ok (.bl (!x)) st1 := by
  unfold fNot; rw [h1]
theorem e_fSl {lo hi : FO} {l h : Option Int} (h1 : f ρ st = .ok a st1) (h2 : lo ρ st1 = .ok l st2) (h3 : hi ρ st2 = .ok h st3) (h4 : cut a l h st3 = r) : fSl f lo hi ρ st = r := by
  unfold fSl; rw [h1]; simp only; rw [h2]; simp only; rw [h3]; exact h4
theorem e_oS {i : Int} (h1 : f ρ st = .ok (.int i) st1) : oS f ρ st = .ok (some i) st1 := by
  unfold oS; rw [h1]
theorem e_oN : oN ρ st = .ok none st := rfl
theorem e_uB (h : f ρ st = .ok (.bl k) st1) : uB f ρ st = .ok k st1 := by
  unfold uB; rw [h]
theorem e_uT (h : f ρ st = .ok a st1) (h2 : tru a st1 = some k) : uT f ρ st = .ok k st1 := by
  unfold uT; rw [h]; simp only; rw [h2]
theorem e_uNot (h : u ρ st = .ok k st1) : uNot u ρ st = .ok (!k) st1 := by
  unfold uNot; rw [h]
theorem e_uAndT (h : u ρ st = .ok true st1) (h2 : v ρ st1 = rb) : uAnd u v ρ st = rb := by
  unfold uAnd; rw [h]; exact h2
theorem e_uAndF (h : u ρ st = .ok false st1) : uAnd u v ρ st = .ok false st1 := by
  unfold uAnd; rw [h]
theorem e_uOrT (h : u ρ st = .ok true st1) : uOr u v ρ st = .ok true st1 := by
  unfold uOr; rw [h]
theorem e_uOrF (h : u ρ st = .ok false st1) (h2 : v ρ st1 = rb) : uOr u v ρ st = rb := by
  unfold uOr; rw [h]; exact h2
theorem e_uAnd {k2 : Bool} (h : u ρ st = .ok k st) (h2 : k = true → v ρ st = .ok k2 st) : uAnd u v ρ st = .ok (k && k2) st := by
  unfold uAnd; rw [h]
  cases k with
  | true => simpa using h2 rfl
  | false => rfl
theorem e_uOr {k2 : Bool} (h : u ρ st = .ok k st) (h2 : k = false → v ρ st = .ok k2 st) : uOr u v ρ st = .ok (k || k2) st := by
  unfold uOr; rw [h]
  cases k with
  | false => simpa using h2 rfl
  | true => rfl
theorem e_fAnd {k2 : Bool} (h : fa ρ st = .ok (.bl k) st) (h2 : k = true → fb ρ st = .ok (.bl k2) st) : fAnd fa fb ρ st = .ok (.bl (k && k2)) st := by
  unfold fAnd; rw [h]
  cases k with
  | true => simpa using h2 rfl
  | false => rfl
theorem e_fOr {k2 : Bool} (h : fa ρ st = .ok (.bl k) st) (h2 : k = false → fb ρ st = .ok (.bl k2) st) : fOr fa fb ρ st = .ok (.bl (k || k2)) st := by
  unfold fOr; rw [h]
  cases k with
  | false => simpa using h2 rfl
  | true => rfl
theorem e_fIfT (h : u ρ st = .ok true st1) (h2 : fa ρ st1 = r) : fIf u fa fb ρ st = r := by
  unfold fIf; rw [h]; exact h2
theorem e_fIfF (h : u ρ st = .ok false st1) (h2 : fb ρ st1 = r) : fIf u fa fb ρ st = r := by
  unfold fIf; rw [h]; exact h2
theorem e_seq (h : s ρ st = .nx ρ1 st1) (h2 : t ρ1 st1 = z) : sSeq s t ρ st = z := by
  unfold sSeq; rw [h]; exact h2
theorem e_seqR (h : s ρ st = .rt a st1) : sSeq s t ρ st = .rt a st1 := by
  unfold sSeq; rw [h]
theorem e_seqB (h : s ρ st = .bk ρ1 st1) : sSeq s t ρ st = .bk ρ1 st1 := by
  unfold sSeq; rw [h]
theorem e_seqC (h : s ρ st = .ct ρ1 st1) : sSeq s t ρ st = .ct ρ1 st1 := by
  unfold sSeq; rw [h]
theorem e_exp (h : f ρ st = .ok a st1) : sExp f ρ st = .nx ρ st1 := by
  unfold sExp; rw [h]
theorem e_ret (h : f ρ st = .ok a st1) : sRet f ρ st = .rt a st1 := by
  unfold sRet; rw [h]
theorem e_ifT (h : u ρ st = .ok true st1) (h2 : s ρ st1 = z) : sIf u s t ρ st = z := by
  unfold sIf; rw [h]; exact h2
theorem e_ifF (h : u ρ st = .ok false st1) (h2 : t ρ st1 = z) : sIf u s t ρ st = z := by
  unfold sIf; rw [h]; exact h2
theorem e_asg {gg : FG} (h : fB f ρ st = .ok a st1) (h2 : gg a ρ st1 = .ok ρ2 st2) : sAsg f gg ρ st = .nx ρ2 st2 := by
  unfold sAsg; rw [h]; simp only; rw [h2]
theorem e_par {i j : Nat} (h : g ρ st = .ok [a, b] st1) : sPar i j g ρ st = .nx ((ρ.set i (some a)).set j (some b)) st1 := by
  unfold sPar; rw [h]
theorem e_for {fi : FI} {gg : FG} {xs : List A} {G : Sto → Prop} (h : fi ρ st = .ok (xs, G) st1) (h2 : loopF s gg G xs ρ st1 = z) : sFor fi gg s ρ st = z := by
  unfold sFor; rw [h]; exact h2
theorem e_lc {fi : FI} {js : List Nat} {gg : A → Rho → Option Rho} {xs acc : List A} {G : Sto → Prop} (h : fi ρ st = .ok (xs, G) st1) (h2 : lcF (wipeR ρ js) gg u f G xs [] st1 = .ok acc st2) : fLc fi js gg u f ρ st = .ok (.tmp acc) st2 := by
  unfold fLc; rw [h]; simp only; rw [h2]
theorem e_augI {i : Nat} {op : F2} {x y w : A} (h : ρ[i]? = some (some x)) (h1 : f ρ st = .ok y st1) (h2 : op x y st1 = .ok w st2) : sAug i op f ρ st = .nx (ρ.set i (some w)) st2 := by
  unfold sAug; rw [h]; simp only; rw [h1]; simp only; rw [h2]
theorem e_sub {o i : A} {fo fi : FE} (h1 : fo ρ st = .ok o st1) (h2 : fi ρ st1 = .ok i st2) (h3 : setA o i a st2 = some st3) : gSubF fo fi a ρ st = .ok ρ st3 := by
  unfold gSubF; rw [h1]; simp only; rw [h2]; simp only; rw [h3]
theorem e_mul {i j : Int} (h : CMulW i j) : opMul (.int i) (.int j) st = .ok (.int (i * j)) st := if_pos h
theorem e_div {i j : Int} (h : CDivW i j) : opDiv (.int i) (.int j) st = .ok (.int (i / j)) st := if_pos h
theorem e_mod {i j : Int} (h : 0 < j) : opMod (.int i) (.int j) st = .ok (.int (i % j)) st := if_pos h
theorem e_pow {i j : Int} (h : CPow i j) : opPow (.int i) (.int j) st = .ok (.int (i ^ j.toNat)) st := if_pos h
end
end Ev
/-! more reckoning: lists at the end of the store, rows -/
namespace Ev
open PySem PySem.Spec PyProof.Rows L2 Gd
open Classical
open Wi
def wt (ws : List Nat) (r : Nat) : Nat := ws.getD r 0
theorem ix_nL {xs : List Nat} {i : Nat} (h : i < xs.length) : atI (nL xs) ((i : Nat) : Int) = some (.int ((wt xs i : Nat) : Int)) := by
  refine atI_nat ?_
  rw [nL, List.getElem?_map, List.getElem?_eq_getElem h]
  show some (A.int ((xs[i] : Nat) : Int)) = _
  rw [wt, List.getD_eq_getElem?_getD, List.getElem?_eq_getElem h]
  rfl
theorem ixT {xs : List Nat} {i : Nat} {st : Sto} (h : i < xs.length) : opIx (tN xs) (.int (i : Int)) st = .ok (.int ((wt xs i : Nat) : Int)) st := by
  show (match atI (nL xs) ((i : Nat) : Int) with | some x => R.ok x st | none => .no) = _
  rw [ix_nL h]
theorem len_nL (xs : List Nat) : (nL xs).length = xs.length := List.length_map ..
theorem set_nL (xs : List Nat) (i v : Nat) : (nL xs).set i (.int (v : Int)) = nL (xs.set i v) := by
  rw [nL, nL, List.map_set]
theorem sumI (xs : List Nat) : (xs.map fun n : Nat => (n : Int)).sum = ((xs.sum : Nat) : Int) := by
  induction xs with
  | nil => rfl
  | cons x xs ih =>
    rw [List.map_cons, List.sum_cons, List.sum_cons, ih]
    omega
/-- a new list of zeros -/
theorem zeros {n : Nat} {st : Sto} (h : n ≤ 1000000) : opMul (.tmp [.int 0]) (.int (n : Int)) st = .ok (.tmp (nL (List.replicate n 0))) st := by
  unfold opMul
  simp only [lstM]
  rw [if_pos ⟨by omega, by omega, by show 1 * ((n : Nat) : Int).toNat ≤ sizeLine; have := size_big h; omega⟩]
  rw [List.flatten_replicate_singleton, nL, List.map_replicate]
  rfl
theorem end_get (st : Sto) (o : O) : (st ++ [o])[st.length]? = some o := by simp
theorem end_set (st : Sto) (o o' : O) : (st ++ [o]).set st.length o' = st ++ [o'] := by simp
theorem end_lst (st : Sto) (xs : List A) : lstOf (.loc st.length) (st ++ [.lst xs]) = some xs := by
  simp only [lstOf, end_get]
theorem end_seq (st : Sto) (xs : List A) : seqOf (.loc st.length) (st ++ [.lst xs]) = some xs := end_lst st xs
theorem fin0 {st : Sto} {a : A} (h : a.dry = true) : Ev.finish st a st = .ok a st := by
  have := finish_pure (st := st) (suf := []) (a := a) h
  rw [List.append_nil] at this
  exact this
theorem bTup_end (st : Sto) (xs : List A) : bTup [.loc st.length] (st ++ [.lst xs]) = .ok (.tup xs) (st ++ [.lst xs]) := by
  unfold bTup
  simp only [end_lst]
theorem ixN_nat {n i : Nat} (h : i < n) : ixN n (i : Int) = some i := by
  unfold ixN
  rw [if_pos (by omega), if_pos (by omega)]
  rfl
theorem len_tN (xs : List Nat) (st : Sto) : bLen [tN xs] st = .ok (.int (xs.length : Nat)) st := by
  show R.ok (A.int ((nL xs).length : Nat)) st = _
  rw [len_nL]
theorem len_tR (xs : List (List Nat)) (st : Sto) : bLen [tR xs] st = .ok (.int (xs.length : Nat)) st := by
  show R.ok (A.int ((xs.map tN).length : Nat)) st = _
  rw [List.length_map]
theorem ix_tR {rows : List (List Nat)} {i : Nat} {xs : List Nat} {st : Sto} (h : rows[i]? = some xs) : opIx (tR rows) (.int (i : Int)) st = .ok (tN xs) st := by
  have e : atI (rows.map tN) ((i : Nat) : Int) = some (tN xs) := atI_nat (by rw [List.getElem?_map, h]; rfl)
  show (match atI (rows.map tN) ((i : Nat) : Int) with | some x => R.ok x st | none => .no) = _
  rw [e]
theorem rg_nat (n : Nat) : rgA 0 (n : Int) = nL (List.range n) := by
  unfold rgA
  rw [Int.sub_zero, Int.toNat_natCast, nL]
  exact List.map_congr_left fun i _ => by rw [Int.zero_add]
theorem fRg1_nat {f : FE} {ρ : Rho} {st st1 : Sto} {n : Nat} (h : f ρ st = .ok (.int (n : Int)) st1) (hn : n ≤ 1000000) : fRg1 f ρ st = .ok (nL (List.range n), fun _ => True) st1 := by
  unfold fRg1
  rw [h]
  simp only
  rw [if_pos (show ends _ from ⟨by omega, by omega⟩), rg_nat]
theorem eqI (a b : Nat) : decide ((a : Int) = (b : Int)) = decide (a = b) := by
  by_cases h : a = b
  · rw [decide_eq_true h, decide_eq_true (by omega)]
  · rw [decide_eq_false h, decide_eq_false (by omega)]
theorem loop_nil {body : FS} {g : FG} {G : Sto → Prop} {ρ : Rho} {st : Sto} (hG : G st) : loopF body g G [] ρ st = .nx ρ st := if_pos hG
theorem loop_cons {body : FS} {g : FG} {G : Sto → Prop} {x : A} {xs : List A} {ρ ρ1 ρ2 : Rho} {st st1 st2 : Sto} {z : SR} (hG : G st) (h : g x ρ st = .ok ρ1 st1) (h2 : body ρ1 st1 = .nx ρ2 st2 ∨ body ρ1 st1 = .ct ρ2 st2) (h3 : loopF body g G xs ρ2 st2 = z) : loopF body g G (x :: xs) ρ st = z := by
  show (if G st then (match g x ρ st with | .ok ρ1 st1 => _ | .no => _) else _) = _
  rw [if_pos hG, h]
  rcases h2 with h2 | h2
  · simp only [h2]
    exact h3
  · simp only [h2]
    exact h3
theorem loop_consR {body : FS} {g : FG} {G : Sto → Prop} {x a : A} {xs : List A} {ρ ρ1 : Rho} {st st1 st2 : Sto} (hG : G st) (h : g x ρ st = .ok ρ1 st1) (h2 : body ρ1 st1 = .rt a st2) : loopF body g G (x :: xs) ρ st = .rt a st2 := by
  show (if G st then (match g x ρ st with | .ok ρ1 st1 => _ | .no => _) else _) = _
  rw [if_pos hG, h]
  simp only [h2]
end Ev
namespace Lw
open PySem PySem.Spec PyProof.Rows L2 Gd Ev
def topS (i : Nat) : Stmt := PySem.Challenge.pw_fewestpours_k02_wishes_and_crowds.main.body.getD i (.Pass ⟨0, 0, 0, 0⟩)
structure Zs (K : PySem.W.Frag) (mg : Str → Option Value) : Prop where
  z_abs : mg "abs" = none
  z_bool : mg "bool" = none
  z_enumerate : mg "enumerate" = none
  z_int : mg "int" = none
  z_isinstance : mg "isinstance" = none
  z_len : mg "len" = none
  z_list : mg "list" = none
  z_range : mg "range" = none
  z_repr : mg "repr" = none
  z_sorted : mg "sorted" = none
  z_sum : mg "sum" = none
  z_tuple : mg "tuple" = none

abbrev s_is_whole : Stmt := topS 1
abbrev n_is_whole : List Str := ["value"]
theorem sc_is_whole : FnScope n_is_whole ["value"] (defScope s_is_whole) := ⟨rfl, rfl, rfl, by decide +kernel, rfl, by decide +kernel, by decide +kernel⟩
noncomputable def g_is_whole : FS := (sRet (fAnd (fIsi .int (fVar 0)) (fNot (fIsi .bl (fVar 0)))))
noncomputable def c_is_whole : FN := defn 1 0 g_is_whole
abbrev s_is_number : Stmt := topS 2
abbrev n_is_number : List Str := ["value"]
theorem sc_is_number : FnScope n_is_number ["value"] (defScope s_is_number) := ⟨rfl, rfl, rfl, by decide +kernel, rfl, by decide +kernel, by decide +kernel⟩
noncomputable def g_is_number : FS := (sRet (fAnd (fN c_is_whole (aC (fB (fVar 0)) aN)) (f2 opGe (fVar 0) (fC (.int 0)))))
noncomputable def c_is_number : FN := defn 1 0 g_is_number
abbrev s_is_tuple_of : Stmt := topS 3
abbrev n_is_tuple_of : List Str := ["value", "many"]
theorem sc_is_tuple_of : FnScope n_is_tuple_of ["value", "many"] (defScope s_is_tuple_of) := ⟨rfl, rfl, rfl, by decide +kernel, rfl, by decide +kernel, by decide +kernel⟩
noncomputable def g_is_tuple_of : FS := (sRet (fAnd (fIsi .tup (fVar 0)) (f2 opEq (fN bLen (aC (fVar 0) aN)) (fVar 1))))
noncomputable def c_is_tuple_of : FN := defn 2 0 g_is_tuple_of
abbrev s_record_count : Stmt := topS 5
abbrev n_record_count : List Str := ["standing", "block"]
theorem sc_record_count : FnScope n_record_count ["standing"] (defScope s_record_count) := ⟨rfl, rfl, rfl, by decide +kernel, rfl, by decide +kernel, by decide +kernel⟩
noncomputable def g_record_count : FS := (sRet (fN bSum (aC (fLc (fIter (f2 opIx (fVar 0) (fC (.int 1)))) [1] (lN 1) uYes (fN bLen (aC (fVar 1) aN))) aN)))
noncomputable def c_record_count : FN := defn 1 1 g_record_count
abbrev s_is_wish : Stmt := topS 6
abbrev n_is_wish : List Str := ["standing", "value", "b", "blocks", "wishers", "goal"]
theorem sc_is_wish : FnScope n_is_wish ["standing", "value"] (defScope s_is_wish) := ⟨rfl, rfl, rfl, by decide +kernel, rfl, by decide +kernel, by decide +kernel⟩
noncomputable def g_is_wish : FS := (sSeq (sAsg (fVar 0) (gTupF 2 (gC (gSet 2) (gC (gSet 3) gN))))
    (sSeq (sIf (uNot (uT (fN c_is_tuple_of (aC (fB (fVar 1)) (aC (fB (fN c_record_count (aC (fB (fVar 0)) aN))) aN))))) (sRet (fC (.bl false))) sNil)
    (sSeq (sAsg (f2 opMul (fN mkLst (aC (fB (fC (.int 0))) aN)) (fN bLen (aC (fVar 3) aN))) (gSet 4))
    (sSeq (sFor (fIter (fVar 1)) (gSet 5) (sSeq (sIf (uOr (uNot (uT (fN c_is_number (aC (fB (fVar 5)) aN)))) (uOr (uB (f2 opGe (fVar 5) (fN bLen (aC (fVar 3) aN)))) (uB (f2 opEq (f2 opIx (fVar 4) (fVar 5)) (fVar 2))))) (sRet (fC (.bl false))) sNil)
    (sAugS (fVar 4) (fVar 5) (fC (.int 1)) opAddI)))
    (sRet (fC (.bl true)))))))
noncomputable def c_is_wish : FN := defn 2 4 g_is_wish
abbrev s_crowd : Stmt := topS 7
abbrev n_crowd : List Str := ["block", "wish", "many", "counts", "record"]
theorem sc_crowd : FnScope n_crowd ["block", "wish", "many"] (defScope s_crowd) := ⟨rfl, rfl, rfl, by decide +kernel, rfl, by decide +kernel, by decide +kernel⟩
noncomputable def g_crowd : FS := (sSeq (sAsg (f2 opMul (fN mkLst (aC (fB (fC (.int 0))) aN)) (fVar 2)) (gSet 3))
    (sSeq (sFor (fIter (fVar 0)) (gSet 4) (sAugS (fVar 3) (f2 opIx (fVar 1) (fVar 4)) (fC (.int 1)) opAddI))
    (sRet (fN bTup (aC (fVar 3) aN)))))
noncomputable def c_crowd : FN := defn 3 2 g_crowd
abbrev s_crowds : Stmt := topS 8
abbrev n_crowds : List Str := ["standing", "wish", "blocks", "block"]
theorem sc_crowds : FnScope n_crowds ["standing", "wish"] (defScope s_crowds) := ⟨rfl, rfl, rfl, by decide +kernel, rfl, by decide +kernel, by decide +kernel⟩
noncomputable def g_crowds : FS := (sSeq (sAsg (f2 opIx (fVar 0) (fC (.int 1))) (gSet 2))
    (sRet (fN bTup (aC (fLc (fIter (fVar 2)) [3] (lN 3) uYes (fN c_crowd (aC (fB (fVar 3)) (aC (fB (fVar 1)) (aC (fB (fN bLen (aC (fVar 2) aN))) aN))))) aN))))
noncomputable def c_crowds : FN := defn 2 2 g_crowds
abbrev s_is_met : Stmt := topS 9
abbrev n_is_met : List Str := ["standing", "wish", "at", "block", "record"]
theorem sc_is_met : FnScope n_is_met ["standing", "wish"] (defScope s_is_met) := ⟨rfl, rfl, rfl, by decide +kernel, rfl, by decide +kernel, by decide +kernel⟩
noncomputable def g_is_met : FS := (sSeq (sFor (fEnum (f2 opIx (fVar 0) (fC (.int 1)))) (gTupF 2 (gC (gSet 2) (gC (gSet 3) gN))) (sFor (fIter (fVar 3)) (gSet 4) (sIf (uB (f2 opNe (f2 opIx (fVar 1) (fVar 4)) (fVar 2))) (sRet (fC (.bl false))) sNil)))
    (sRet (fC (.bl true))))
noncomputable def c_is_met : FN := defn 2 3 g_is_met
abbrev s_wish_of : Stmt := topS 10
abbrev n_wish_of : List Str := ["standing", "other", "goals", "at", "block", "record"]
theorem sc_wish_of : FnScope n_wish_of ["standing", "other"] (defScope s_wish_of) := ⟨rfl, rfl, rfl, by decide +kernel, rfl, by decide +kernel, by decide +kernel⟩
noncomputable def g_wish_of : FS := (sSeq (sAsg (f2 opMul (fN mkLst (aC (fB (fC (.int 0))) aN)) (fN c_record_count (aC (fB (fVar 0)) aN))) (gSet 2))
    (sSeq (sFor (fEnum (f2 opIx (fVar 1) (fC (.int 1)))) (gTupF 2 (gC (gSet 3) (gC (gSet 4) gN))) (sFor (fIter (fVar 4)) (gSet 5) (sAsg (fVar 3) (gSubF (fVar 2) (fVar 5)))))
    (sRet (fN bTup (aC (fVar 2) aN)))))
noncomputable def c_wish_of : FN := defn 2 4 g_wish_of
abbrev s_renamed_blocks : Stmt := topS 11
abbrev n_renamed_blocks : List Str := ["standing", "names", "b", "blocks", "laid", "at", "block"]
theorem sc_renamed_blocks : FnScope n_renamed_blocks ["standing", "names"] (defScope s_renamed_blocks) := ⟨rfl, rfl, rfl, by decide +kernel, rfl, by decide +kernel, by decide +kernel⟩
noncomputable def g_renamed_blocks : FS := (sSeq (sAsg (fVar 0) (gTupF 2 (gC (gSet 2) (gC (gSet 3) gN))))
    (sSeq (sAsg (fN bLst (aC (fVar 3) aN)) (gSet 4))
    (sSeq (sFor (fEnum (fVar 3)) (gTupF 2 (gC (gSet 5) (gC (gSet 6) gN))) (sAsg (fVar 6) (gSubF (fVar 4) (f2 opIx (fVar 1) (fVar 5)))))
    (sRet (fN mkTup (aC (fB (fVar 2)) (aC (fB (fN bTup (aC (fVar 4) aN))) aN)))))))
noncomputable def c_renamed_blocks : FN := defn 2 5 g_renamed_blocks
abbrev s_renamed_wish : Stmt := topS 12
abbrev n_renamed_wish : List Str := ["wish", "names", "goal"]
theorem sc_renamed_wish : FnScope n_renamed_wish ["wish", "names"] (defScope s_renamed_wish) := ⟨rfl, rfl, rfl, by decide +kernel, rfl, by decide +kernel, by decide +kernel⟩
noncomputable def g_renamed_wish : FS := (sRet (fN bTup (aC (fLc (fIter (fVar 0)) [2] (lN 2) uYes (f2 opIx (fVar 1) (fVar 2))) aN)))
noncomputable def c_renamed_wish : FN := defn 2 1 g_renamed_wish
abbrev s_alike_records : Stmt := topS 13
abbrev n_alike_records : List Str := ["standing", "wish", "one", "other"]
theorem sc_alike_records : FnScope n_alike_records ["standing", "wish", "one", "other"] (defScope s_alike_records) := ⟨rfl, rfl, rfl, by decide +kernel, rfl, by decide +kernel, by decide +kernel⟩
noncomputable def g_alike_records : FS := (sRet (f2 opEq (f2 opIx (fVar 1) (fVar 2)) (f2 opIx (fVar 1) (fVar 3))))
noncomputable def c_alike_records : FN := defn 4 0 g_alike_records
abbrev s_exchanged : Stmt := topS 14
abbrev n_exchanged : List Str := ["standing", "one", "other", "b", "blocks", "turned", "block", "record"]
theorem sc_exchanged : FnScope n_exchanged ["standing", "one", "other"] (defScope s_exchanged) := ⟨rfl, rfl, rfl, by decide +kernel, rfl, by decide +kernel, by decide +kernel⟩
noncomputable def g_exchanged : FS := (sSeq (sAsg (fVar 0) (gTupF 2 (gC (gSet 3) (gC (gSet 4) gN))))
    (sSeq (sAsg (fDisp [((fVar 1), (fVar 2)), ((fVar 2), (fVar 1))]) (gSet 5))
    (sRet (fN mkTup (aC (fB (fVar 3)) (aC (fB (fN bTup (aC (fLc (fIter (fVar 4)) [6] (lN 6) uYes (fN bTup (aC (fN bSrt (aC (fLc (fIter (fVar 6)) [7] (lN 7) uYes (fDGet2 (fVar 5) (fVar 7) (fVar 7))) aN)) aN))) aN))) aN))))))
noncomputable def c_exchanged : FN := defn 3 5 g_exchanged
abbrev s_law_draw : Stmt := topS 16
abbrev n_law_draw : List Str := ["script", "salt", "cells", "blend", "cell"]
theorem sc_law_draw : FnScope n_law_draw ["script", "salt"] (defScope s_law_draw) := ⟨rfl, rfl, rfl, by decide +kernel, rfl, by decide +kernel, by decide +kernel⟩
noncomputable def g_law_draw : FS := (sSeq (sAsg (fLc (fIter (fSl (fVar 0) oN (oS (fC (.int 48))))) [4] (lN 4) uYes (fN bAbs (aC (fN bInt (aC (fVar 4) aN)) aN))) (gSet 2))
    (sSeq (sAsg (f2 opAdd (fC (.int 7919)) (f2 opMul (fC (.int 104729)) (fVar 1))) (gSet 3))
    (sSeq (sFor (fIter (fVar 2)) (gSet 4) (sAsg (f2 opMod (fN bInt (aC (f2 opAdd (f2 opAdd (f2 opMul (fVar 3) (fC (.int 48271))) (f2 opMod (fVar 4) (fC (.int 2147483549)))) (fC (.int 11))) aN)) (fC (.int 2147483647))) (gSet 3)))
    (sRet (fN mkLst (aC (fB (fRev (fLc (fIter (fVar 2)) [4] (lN 4) (uB (f2 opGe (fVar 4) (f2 opPow (fC (.int 10)) (fC (.int 18))))) (fVar 4)))) (aC (fB (fVar 3)) aN)))))))
noncomputable def c_law_draw : FN := defn 2 3 g_law_draw
abbrev s_law_any : Stmt := topS 17
abbrev n_law_any : List Str := ["deal", "bound", "rest"]
theorem sc_law_any : FnScope n_law_any ["deal", "bound"] (defScope s_law_any) := ⟨rfl, rfl, rfl, by decide +kernel, rfl, by decide +kernel, by decide +kernel⟩
noncomputable def g_law_any : FS := (sSeq (sWhile (uAnd (uB (f2 opNe (f2 opIx (fVar 0) (fC (.int 0))) (fN mkLst aN))) (uB (f2 opEq (f2 opIx (f2 opIx (fVar 0) (fC (.int 0))) (fNeg (fC (.int 1)))) (fC (.int 0))))) (sExp (fM mPop (f2 opIx (fVar 0) (fC (.int 0))) aN)))
    (sSeq (sIf (uB (f2 opNe (f2 opIx (fVar 0) (fC (.int 0))) (fN mkLst aN))) (sSeq (sAsg (fN bInt (aC (fM mPop (f2 opIx (fVar 0) (fC (.int 0))) aN) aN)) (gSet 2))
    (sSeq (sExp (fM mApp (f2 opIx (fVar 0) (fC (.int 0))) (aC (fB (f2 opDiv (fVar 2) (fVar 1))) aN)))
    (sRet (f2 opMod (fVar 2) (fVar 1))))) sNil)
    (sSeq (sAsg (f2 opMod (fN bInt (aC (f2 opAdd (f2 opMul (f2 opIx (fVar 0) (fC (.int 1))) (fC (.int 40693))) (fC (.int 71))) aN)) (fC (.int 2147483647))) (gSubF (fVar 0) (fC (.int 1))))
    (sRet (f2 opMod (fN bInt (aC (f2 opDiv (f2 opIx (fVar 0) (fC (.int 1))) (fC (.int 64))) aN)) (fVar 1))))))
noncomputable def c_law_any : FN := defn 2 1 g_law_any
abbrev s_law_of : Stmt := topS 18
abbrev n_law_of : List Str := ["deal", "some"]
theorem sc_law_of : FnScope n_law_of ["deal", "some"] (defScope s_law_of) := ⟨rfl, rfl, rfl, by decide +kernel, rfl, by decide +kernel, by decide +kernel⟩
noncomputable def g_law_of : FS := (sRet (f2 opIx (fVar 1) (fN c_law_any (aC (fB (fVar 0)) (aC (fB (fN bLen (aC (fVar 1) aN))) aN)))))
noncomputable def c_law_of : FN := defn 2 0 g_law_of
abbrev s_law_mixed : Stmt := topS 19
abbrev n_law_mixed : List Str := ["deal", "some", "left", "found"]
theorem sc_law_mixed : FnScope n_law_mixed ["deal", "some"] (defScope s_law_mixed) := ⟨rfl, rfl, rfl, by decide +kernel, rfl, by decide +kernel, by decide +kernel⟩
noncomputable def g_law_mixed : FS := (sSeq (sPar 2 3 (aC (fB (fN bLst (aC (fVar 1) aN))) (aC (fB (fN mkLst aN)) aN)))
    (sSeq (sWhile (uB (f2 opNe (fVar 2) (fN mkLst aN))) (sExp (fM mApp (fVar 3) (aC (fB (fM mPopAt (fVar 2) (aC (fB (fN c_law_any (aC (fB (fVar 0)) (aC (fB (fN bLen (aC (fVar 2) aN))) aN)))) aN))) aN))))
    (sRet (fVar 3))))
noncomputable def c_law_mixed : FN := defn 2 2 g_law_mixed
abbrev s_law_dealt : Stmt := topS 20
abbrev n_law_dealt : List Str := ["deal", "b", "many", "records", "blocks", "record", "free", "block", "at"]
theorem sc_law_dealt : FnScope n_law_dealt ["deal", "b", "many", "records"] (defScope s_law_dealt) := ⟨rfl, rfl, rfl, by decide +kernel, rfl, by decide +kernel, by decide +kernel⟩
noncomputable def g_law_dealt : FS := (sSeq (sAsg (fLc (fRg1 (fVar 2)) [7] (lN 7) uYes (fN mkLst aN)) (gSet 4))
    (sSeq (sFor (fIter (fN c_law_mixed (aC (fB (fVar 0)) (aC (fB (fVar 3)) aN)))) (gSet 5) (sSeq (sAsg (fLc (fRg1 (fVar 2)) [8] (lN 8) (uB (f2 opLt (fN bLen (aC (f2 opIx (fVar 4) (fVar 8)) aN)) (fVar 1))) (fVar 8)) (gSet 6))
    (sExp (fM mApp (f2 opIx (fVar 4) (fN c_law_of (aC (fB (fVar 0)) (aC (fB (fVar 6)) aN)))) (aC (fB (fVar 5)) aN)))))
    (sRet (fN bTup (aC (fLc (fIter (fVar 4)) [7] (lN 7) uYes (fN bTup (aC (fN bSrt (aC (fVar 7) aN)) aN))) aN)))))
noncomputable def c_law_dealt : FN := defn 4 5 g_law_dealt
abbrev s_law_standing : Stmt := topS 21
abbrev n_law_standing : List Str := ["deal", "most", "size", "b", "many", "full", "count"]
theorem sc_law_standing : FnScope n_law_standing ["deal", "most", "size"] (defScope s_law_standing) := ⟨rfl, rfl, rfl, by decide +kernel, rfl, by decide +kernel, by decide +kernel⟩
noncomputable def g_law_standing : FS := (sSeq (sPar 3 4 (aC (fB (f2 opAdd (fC (.int 1)) (fN c_law_any (aC (fB (fVar 0)) (aC (fB (fVar 2)) aN))))) (aC (fB (f2 opAdd (fC (.int 1)) (fN c_law_any (aC (fB (fVar 0)) (aC (fB (fVar 1)) aN))))) aN)))
    (sSeq (sAsg (f2 opMul (fVar 3) (fVar 4)) (gSet 5))
    (sSeq (sAsg (fIf (uB (f2 opEq (fN c_law_any (aC (fB (fVar 0)) (aC (fB (fC (.int 3))) aN))) (fC (.int 0)))) (fVar 5) (fN c_law_any (aC (fB (fVar 0)) (aC (fB (f2 opAdd (fVar 5) (fC (.int 1)))) aN)))) (gSet 6))
    (sRet (fN mkTup (aC (fB (fVar 3)) (aC (fB (fN c_law_dealt (aC (fB (fVar 0)) (aC (fB (fVar 3)) (aC (fB (fVar 4)) (aC (fB (fLRg1 (fVar 6))) aN)))))) aN)))))))
noncomputable def c_law_standing : FN := defn 3 4 g_law_standing
abbrev s_law_count : Stmt := topS 22
abbrev n_law_count : List Str := ["standing", "block"]
theorem sc_law_count : FnScope n_law_count ["standing"] (defScope s_law_count) := ⟨rfl, rfl, rfl, by decide +kernel, rfl, by decide +kernel, by decide +kernel⟩
noncomputable def g_law_count : FS := (sRet (fN bSum (aC (fLc (fIter (f2 opIx (fVar 0) (fC (.int 1)))) [1] (lN 1) uYes (fN bLen (aC (fVar 1) aN))) aN)))
noncomputable def c_law_count : FN := defn 1 1 g_law_count
abbrev s_law_places : Stmt := topS 23
abbrev n_law_places : List Str := ["standing", "found", "at", "block", "record"]
theorem sc_law_places : FnScope n_law_places ["standing"] (defScope s_law_places) := ⟨rfl, rfl, rfl, by decide +kernel, rfl, by decide +kernel, by decide +kernel⟩
noncomputable def g_law_places : FS := (sSeq (sAsg (f2 opMul (fN mkLst (aC (fB (fC (.int 0))) aN)) (fN c_law_count (aC (fB (fVar 0)) aN))) (gSet 1))
    (sSeq (sFor (fEnum (f2 opIx (fVar 0) (fC (.int 1)))) (gTupF 2 (gC (gSet 2) (gC (gSet 3) gN))) (sFor (fIter (fVar 3)) (gSet 4) (sAsg (fVar 2) (gSubF (fVar 1) (fVar 4)))))
    (sRet (fN bTup (aC (fVar 1) aN)))))
noncomputable def c_law_places : FN := defn 1 4 g_law_places
abbrev s_law_wish : Stmt := topS 24
abbrev n_law_wish : List Str := ["deal", "standing", "b", "blocks"]
theorem sc_law_wish : FnScope n_law_wish ["deal", "standing"] (defScope s_law_wish) := ⟨rfl, rfl, rfl, by decide +kernel, rfl, by decide +kernel, by decide +kernel⟩
noncomputable def g_law_wish : FS := (sSeq (sAsg (fVar 1) (gTupF 2 (gC (gSet 2) (gC (gSet 3) gN))))
    (sRet (fN c_law_places (aC (fB (fN mkTup (aC (fB (fVar 2)) (aC (fB (fN c_law_dealt (aC (fB (fVar 0)) (aC (fB (fVar 2)) (aC (fB (fN bLen (aC (fVar 3) aN))) (aC (fB (fLRg1 (fN c_law_count (aC (fB (fVar 1)) aN)))) aN)))))) aN)))) aN))))
noncomputable def c_law_wish : FN := defn 2 2 g_law_wish
abbrev s_law_crowds : Stmt := topS 25
abbrev n_law_crowds : List Str := ["standing", "wish", "many", "block", "at", "record"]
theorem sc_law_crowds : FnScope n_law_crowds ["standing", "wish"] (defScope s_law_crowds) := ⟨rfl, rfl, rfl, by decide +kernel, rfl, by decide +kernel, by decide +kernel⟩
noncomputable def g_law_crowds : FS := (sSeq (sAsg (fN bLen (aC (f2 opIx (fVar 0) (fC (.int 1))) aN)) (gSet 2))
    (sRet (fN bTup (aC (fLc (fIter (f2 opIx (fVar 0) (fC (.int 1)))) [3] (lN 3) uYes (fN bTup (aC (fLc (fRg1 (fVar 2)) [4] (lN 4) uYes (fN bLen (aC (fLc (fIter (fVar 3)) [5] (lN 5) (uB (f2 opEq (f2 opIx (fVar 1) (fVar 5)) (fVar 4))) (fVar 5)) aN))) aN))) aN))))
noncomputable def c_law_crowds : FN := defn 2 4 g_law_crowds
abbrev s_law : Stmt := topS 26
abbrev n_law : List Str := ["script", "deal", "turn", "standing", "b", "blocks", "many", "count", "wish", "odd", "other", "names", "told", "row", "one", "two", "turned", "block", "record", "at"]
theorem sc_law : FnScope n_law ["script"] (defScope s_law) := ⟨rfl, rfl, rfl, by decide +kernel, rfl, by decide +kernel, by decide +kernel⟩
noncomputable def g_law : FS := (sSeq (sAsg (fN c_law_draw (aC (fB (fVar 0)) (aC (fB (fC (.int 2))) aN))) (gSet 1))
    (sSeq (sFor (fRg1 (fC (.int 4))) (gSet 2) (sSeq (sAsg (fN c_law_standing (aC (fB (fVar 1)) (aC (fB (fC (.int 7))) (aC (fB (fC (.int 5))) aN)))) (gSet 3))
    (sSeq (sAsg (fVar 3) (gTupF 2 (gC (gSet 4) (gC (gSet 5) gN))))
    (sSeq (sPar 6 7 (aC (fB (fN bLen (aC (fVar 5) aN))) (aC (fB (fN c_law_count (aC (fB (fVar 3)) aN))) aN)))
    (sSeq (sAsg (fIf (uB (f2 opGt (fN c_law_any (aC (fB (fVar 1)) (aC (fB (fC (.int 4))) aN))) (fC (.int 0)))) (fN c_law_wish (aC (fB (fVar 1)) (aC (fB (fVar 3)) aN))) (fN c_law_places (aC (fB (fVar 3)) aN))) (gSet 8))
    (sSeq (sIf (uOr (uB (f2 opIsN (fNK c_is_wish (aC (fB (fVar 8)) (aC (fB (fVar 3)) aN))) (fC (.bl true)))) (uB (f2 opNe (fN bRepr (aC (fNK c_crowds (aC (fB (fVar 8)) (aC (fB (fVar 3)) aN))) aN)) (fN bRepr (aC (fN c_law_crowds (aC (fB (fVar 3)) (aC (fB (fVar 8)) aN))) aN))))) (sRet (fC (.bl false))) sNil)
    (sSeq (sIf (uB (f2 opNe (fN bRepr (aC (fNK c_is_met (aC (fB (fVar 8)) (aC (fB (fVar 3)) aN))) aN)) (fN bRepr (aC (f2 opEq (fVar 8) (fN c_law_places (aC (fB (fVar 3)) aN))) aN)))) (sRet (fC (.bl false))) sNil)
    (sSeq (sAsg (fN mkLst (aC (fB (fN bLst (aC (fVar 8) aN))) (aC (fB (f2 opAdd (fVar 8) (fN mkTup (aC (fB (fC (.int 0))) aN)))) (aC (fB (fIf (uB (f2 opGt (fVar 7) (fC (.int 0)))) (fSl (fVar 8) (oS (fC (.int 1))) oN) (fN mkTup (aC (fB (fC (.int 0))) aN)))) (aC (fB (fIf (uB (f2 opGt (fVar 7) (fC (.int 0)))) (f2 opMul (fN mkTup (aC (fB (fVar 6)) aN)) (fVar 7)) (fC .non))) (aC (fB (fC .non)) (aC (fB (fIf (uB (f2 opGt (fVar 7) (fC (.int 0)))) (f2 opMul (fN mkTup (aC (fB (fC (.bl true))) aN)) (fVar 7)) (fC (.int 7)))) aN))))))) (gSet 9))
    (sSeq (sAsg (f2 opAdd (fVar 9) (fN mkLst (aC (fB (fIf (uB (f2 opGt (fVar 7) (fVar 4))) (f2 opMul (fN mkTup (aC (fB (fC (.int 0))) aN)) (fVar 7)) (fN mkLst aN))) (aC (fB (fIf (uB (f2 opGt (fVar 7) (fC (.int 0)))) (f2 opAdd (fN mkTup (aC (fB (fNeg (fC (.int 1)))) aN)) (fSl (fVar 8) (oS (fC (.int 1))) oN)) (fC (.str "")))) (aC (fB (fIf (uB (f2 opGt (fVar 7) (fC (.int 0)))) (f2 opAdd (fN mkTup (aC (fB (fC (.str "0"))) aN)) (fSl (fVar 8) (oS (fC (.int 1))) oN)) (fN mkTup (aC (fB (fC (.int 0))) (aC (fB (fC (.int 0))) aN))))) aN))))) (gSet 9))
    (sSeq (sIf (uB (f2 opIsN (fN c_is_wish (aC (fB (fVar 3)) (aC (fB (fN c_law_of (aC (fB (fVar 1)) (aC (fB (fVar 9)) aN)))) aN))) (fC (.bl false)))) (sRet (fC (.bl false))) sNil)
    (sSeq (sAsg (fN mkTup (aC (fB (fVar 4)) (aC (fB (fN c_law_dealt (aC (fB (fVar 1)) (aC (fB (fVar 4)) (aC (fB (fVar 6)) (aC (fB (fLRg1 (fVar 7))) aN)))))) aN))) (gSet 10))
    (sSeq (sIf (uB (f2 opNe (fN bRepr (aC (fNK c_wish_of (aC (fB (fVar 10)) (aC (fB (fVar 3)) aN))) aN)) (fN bRepr (aC (fN c_law_places (aC (fB (fVar 10)) aN)) aN)))) (sRet (fC (.bl false))) sNil)
    (sSeq (sAsg (fN bTup (aC (fN c_law_mixed (aC (fB (fVar 1)) (aC (fB (fLRg1 (fVar 6))) aN))) aN)) (gSet 11))
    (sSeq (sPar 12 13 (aC (fB (fNK c_renamed_blocks (aC (fB (fVar 11)) (aC (fB (fVar 3)) aN)))) (aC (fB (fNK c_renamed_wish (aC (fB (fVar 11)) (aC (fB (fVar 8)) aN)))) aN)))
    (sSeq (sIf (uOr (uB (f2 opNe (fN bRepr (aC (fVar 12) aN)) (fN bRepr (aC (fN mkTup (aC (fB (fVar 4)) (aC (fB (fN bTup (aC (fLc (fRg1 (fVar 6)) [19] (lN 19) uYes (f2 opIx (fVar 5) (fMT mIndexT (fVar 11) (aC (fB (fVar 19)) aN)))) aN))) aN))) aN)))) (uB (f2 opNe (fN bRepr (aC (fVar 13) aN)) (fN bRepr (aC (fN bTup (aC (fLc (fIter (fVar 8)) [14] (lN 14) uYes (f2 opIx (fVar 11) (fVar 14))) aN)) aN))))) (sRet (fC (.bl false))) sNil)
    (sIf (uB (f2 opGt (fVar 7) (fC (.int 0)))) (sSeq (sAsg (fN mkTup (aC (fB (fN c_law_any (aC (fB (fVar 1)) (aC (fB (fVar 7)) aN)))) (aC (fB (fN c_law_any (aC (fB (fVar 1)) (aC (fB (fVar 7)) aN)))) aN))) (gTupF 2 (gC (gSet 14) (gC (gSet 15) gN))))
    (sSeq (sIf (uB (f2 opNe (fN bRepr (aC (fNK c_alike_records (aC (fB (fVar 15)) (aC (fB (fVar 14)) (aC (fB (fVar 8)) (aC (fB (fVar 3)) aN))))) aN)) (fN bRepr (aC (f2 opEq (f2 opIx (fVar 8) (fVar 14)) (f2 opIx (fVar 8) (fVar 15))) aN)))) (sRet (fC (.bl false))) sNil)
    (sSeq (sAsg (fLc (fIter (fVar 5)) [17] (lN 17) uYes (fLc (fIter (fVar 17)) [18] (lN 18) uYes (fIf (uB (f2 opEq (fVar 18) (fVar 14))) (fVar 15) (fIf (uB (f2 opEq (fVar 18) (fVar 15))) (fVar 14) (fVar 18))))) (gSet 16))
    (sIf (uB (f2 opNe (fN bRepr (aC (fNK c_exchanged (aC (fB (fVar 15)) (aC (fB (fVar 14)) (aC (fB (fVar 3)) aN)))) aN)) (fN bRepr (aC (fN mkTup (aC (fB (fVar 4)) (aC (fB (fN bTup (aC (fLc (fIter (fVar 16)) [17] (lN 17) uYes (fN bTup (aC (fN bSrt (aC (fVar 17) aN)) aN))) aN))) aN))) aN)))) (sRet (fC (.bl false))) sNil)))) sNil))))))))))))))))
    (sRet (fC (.bl true)))))
noncomputable def c_law : FN := defn 1 19 g_law
section
variable {P : Program} {w : World} {K : PySem.W.Frag} {mg : Str → Option Value} {base : Heap}
theorem ok_is_whole {f : Addr} {fd : FuncData} (F : Fun K "is_whole" "is_whole" s_is_whole f fd) (Z : Zs K mg) : FnG P w K mg base (0 + 1) f fd ["value"] (spOf K c_is_whole) := by
  refine ok_def F sc_is_whole rfl fun cdv A outer s H E still hr0 => ?_
  have hr : Room 0 _ := hr0
  have st : Still _ := still
  have hu := hu_of hr
  have sc := sc_is_whole
  exact (dss_one (ds_ret (dx_and (dx_isi .int rfl Z.z_isinstance (dv 0) (pe_bltn (v := .ty "int") (by rfl) Z.z_int (by decide +kernel) rfl)) (pe_one (dx_not (dx_isi .bl rfl Z.z_isinstance (dv 0) (pe_bltn (v := .ty "bool") (by rfl) Z.z_bool (by decide +kernel) rfl)))))))
theorem ok_is_number {f : Addr} {fd : FuncData} (F : Fun K "is_number" "is_number" s_is_number f fd) (Z : Zs K mg) (C_is_whole : Cal P w K mg base 1 "is_whole" ["value"] (spOf K c_is_whole)) : FnG P w K mg base (1 + 1) f fd ["value"] (spOf K c_is_number) := by
  refine ok_def F sc_is_number rfl fun cdv A outer s H E still hr0 => ?_
  have hr : Room 1 _ := hr0
  have st : Still _ := still
  have hu := hu_of hr
  have sc := sc_is_number
  exact (dss_one (ds_ret (dx_and (dx_call C_is_whole st (hr.mono (by decide)) (db_cons (dv 0) db_nil)) (pe_one (dx_cmp op_ge og_ge (dv 0) dx_int (nomark _))))))
theorem ok_is_tuple_of {f : Addr} {fd : FuncData} (F : Fun K "is_tuple_of" "is_tuple_of" s_is_tuple_of f fd) (Z : Zs K mg) : FnG P w K mg base (0 + 1) f fd ["value", "many"] (spOf K c_is_tuple_of) := by
  refine ok_def F sc_is_tuple_of rfl fun cdv A outer s H E still hr0 => ?_
  have hr : Room 0 _ := hr0
  have st : Still _ := still
  have hu := hu_of hr
  have sc := sc_is_tuple_of
  exact (dss_one (ds_ret (dx_and (dx_isi .tup rfl Z.z_isinstance (dv 0) (pe_bltn (v := .ty "tuple") (by rfl) Z.z_tuple (by decide +kernel) rfl)) (pe_one (dx_cmp (or_eq rfl hr.units) og_eq (dx_callB (cr_len rfl) on_len (da_cons (dv 0) da_nil) Z.z_len (by decide +kernel)) (dv 1) (nomark _))))))
theorem ok_record_count {f : Addr} {fd : FuncData} (F : Fun K "record_count" "record_count" s_record_count f fd) (Z : Zs K mg) : FnG P w K mg base (0 + 1) f fd ["standing"] (spOf K c_record_count) := by
  refine ok_def F sc_record_count rfl fun cdv A outer s H E still hr0 => ?_
  have hr : Room 0 _ := hr0
  have st : Still _ := still
  have hu := hu_of hr
  have sc := sc_record_count
  exact (dss_one (ds_ret (dx_callB (sum2K rfl rfl) on_sum (da_cons (dx_lc (own := [("block", 1)]) rfl sc.nd (di_seq rfl (dx_ix (or_ix rfl) og_ix (dv 0) dx_int (fun _ _ => rfl))) (blk_in (N := n_record_count) (by decide +kernel) (by repeat (first | exact trivial | exact Or.inl rfl | exact Or.inr rfl | refine And.intro ?_ ?_))) lt_name (fun _ _ _ _ _ => (pg_name (i := 1) sc.nd rfl (.inl rfl))) (fun _ _ _ _ _ => du_nil) (fun _ _ _ _ _ => (dx_callB (cr_len rfl) on_len (da_cons (dv 1) da_nil) Z.z_len (by decide +kernel)))) da_nil) Z.z_sum (by decide +kernel))))
theorem ok_is_wish {f : Addr} {fd : FuncData} (F : Fun K "is_wish" "is_wish" s_is_wish f fd) (Z : Zs K mg) (C_is_number : Cal P w K mg base 2 "is_number" ["value"] (spOf K c_is_number)) (C_is_tuple_of : Cal P w K mg base 1 "is_tuple_of" ["value", "many"] (spOf K c_is_tuple_of)) (C_record_count : Cal P w K mg base 1 "record_count" ["standing"] (spOf K c_record_count)) : FnG P w K mg base (2 + 1) f fd ["standing", "value"] (spOf K c_is_wish) := by
  refine ok_def F sc_is_wish rfl fun cdv A outer s H E still hr0 => ?_
  have hr : Room 2 _ := hr0
  have st : Still _ := still
  have hu := hu_of hr
  have sc := sc_is_wish
  exact (dss_cons (ds_asg (dv 0) (dg_tup rfl rfl (dgs_cons (dg_name (i := 2) sc.nd rfl (.inl rfl)) (dgs_cons (dg_name (i := 3) sc.nd rfl (.inl rfl)) dgs_nil)))) (dss_cons (ds_if (dt_not (dt_truth rfl (dx_call C_is_tuple_of st (hr.mono (by decide)) (db_cons (dv 1) (db_cons (dx_call C_record_count st (hr.mono (by decide)) (db_cons (dv 0) db_nil)) db_nil))))) (dss_one (ds_ret dx_bl)) dss_nil) (dss_cons (ds_set (i := 4) sc.nd rfl (.inl rfl) (dx_op (or_mul rfl) og_mul (dx_lst (db_cons dx_int db_nil)) (dx_callB (cr_len rfl) on_len (da_cons (dv 3) da_nil) Z.z_len (by decide +kernel)))) (dss_cons (ds_for PassesOwn.never rfl (di_seq rfl (dv 1)) (dg_name (i := 5) sc.nd rfl (.inl rfl)) (dss_cons (ds_if (PW.pt (dw_or (dt_not (dt_truth rfl (dx_call C_is_number st (hr.mono (by decide)) (db_cons (dv 5) db_nil)))) (dw_or (dt_cmp op_ge og_ge (dv 5) (dx_callB (cr_len rfl) on_len (da_cons (dv 3) da_nil) Z.z_len (by decide +kernel)) (nomark _)) (dw_or1 (dt_cmp (or_eq rfl hr.units) og_eq (dx_ix (or_ix rfl) og_ix (dv 4) (dv 5) (fun _ _ => rfl)) (dv 2) (nomark _)))))) (dss_one (ds_ret dx_bl)) dss_nil) (dss_one (ds_augS rfl (dv 4) (dv 5) dx_int ip_add gg_add)))) (dss_one (ds_ret dx_bl))))))
theorem ok_crowd {f : Addr} {fd : FuncData} (F : Fun K "crowd" "crowd" s_crowd f fd) (Z : Zs K mg) : FnG P w K mg base (0 + 1) f fd ["block", "wish", "many"] (spOf K c_crowd) := by
  refine ok_def F sc_crowd rfl fun cdv A outer s H E still hr0 => ?_
  have hr : Room 0 _ := hr0
  have st : Still _ := still
  have hu := hu_of hr
  have sc := sc_crowd
  exact (dss_cons (ds_set (i := 3) sc.nd rfl (.inl rfl) (dx_op (or_mul rfl) og_mul (dx_lst (db_cons dx_int db_nil)) (dv 2))) (dss_cons (ds_for PassesOwn.never rfl (di_seq rfl (dv 0)) (dg_name (i := 4) sc.nd rfl (.inl rfl)) (dss_one (ds_augS rfl (dv 3) (dx_ix (or_ix rfl) og_ix (dv 1) (dv 4) (fun _ _ => rfl)) dx_int ip_add gg_add))) (dss_one (ds_ret (dx_callTy (tupXK rfl) on_tup (da_cons (dv 3) da_nil) Z.z_tuple (by decide +kernel))))))
theorem ok_crowds {f : Addr} {fd : FuncData} (F : Fun K "crowds" "crowds" s_crowds f fd) (Z : Zs K mg) (C_crowd : Cal P w K mg base 1 "crowd" ["block", "wish", "many"] (spOf K c_crowd)) : FnG P w K mg base (1 + 1) f fd ["standing", "wish"] (spOf K c_crowds) := by
  refine ok_def F sc_crowds rfl fun cdv A outer s H E still hr0 => ?_
  have hr : Room 1 _ := hr0
  have st : Still _ := still
  have hu := hu_of hr
  have sc := sc_crowds
  exact (dss_cons (ds_set (i := 2) sc.nd rfl (.inr rfl) (dx_ix (or_ix rfl) og_ix (dv 0) dx_int (fun _ _ => rfl))) (dss_one (ds_ret (dx_callTy (tupXK rfl) on_tup (da_cons (dx_lc (own := [("block", 3)]) rfl sc.nd (di_seq rfl (dv 2)) (blk_in (N := n_crowds) (by decide +kernel) (by repeat (first | exact trivial | exact Or.inl rfl | exact Or.inr rfl | refine And.intro ?_ ?_))) lt_name (fun _ _ _ _ _ => (pg_name (i := 3) sc.nd rfl (.inl rfl))) (fun _ _ _ _ _ => du_nil) (fun _ _ _ _ _ => (dx_call C_crowd st (hr.mono (by decide)) (db_cons (dv 3) (db_cons (dv 1) (db_cons (dx_callB (cr_len rfl) on_len (da_cons (dv 2) da_nil) Z.z_len (by decide +kernel)) db_nil)))))) da_nil) Z.z_tuple (by decide +kernel)))))
theorem ok_is_met {f : Addr} {fd : FuncData} (F : Fun K "is_met" "is_met" s_is_met f fd) (Z : Zs K mg) : FnG P w K mg base (0 + 1) f fd ["standing", "wish"] (spOf K c_is_met) := by
  refine ok_def F sc_is_met rfl fun cdv A outer s H E still hr0 => ?_
  have hr : Room 0 _ := hr0
  have st : Still _ := still
  have hu := hu_of hr
  have sc := sc_is_met
  exact (dss_cons (ds_for PassesOwn.never rfl (di_enum rfl Z.z_enumerate (dx_ix (or_ix rfl) og_ix (dv 0) dx_int (fun _ _ => rfl))) (dg_tup rfl rfl (dgs_cons (dg_name (i := 2) sc.nd rfl (.inl rfl)) (dgs_cons (dg_name (i := 3) sc.nd rfl (.inl rfl)) dgs_nil))) (dss_one (ds_for PassesOwn.never rfl (di_seq rfl (dv 3)) (dg_name (i := 4) sc.nd rfl (.inl rfl)) (dss_one (ds_if (dt_cmp (or_ne rfl hr.units) og_ne (dx_ix (or_ix rfl) og_ix (dv 1) (dv 4) (fun _ _ => rfl)) (dv 2) (nomark _)) (dss_one (ds_ret dx_bl)) dss_nil))))) (dss_one (ds_ret dx_bl)))
theorem ok_wish_of {f : Addr} {fd : FuncData} (F : Fun K "wish_of" "wish_of" s_wish_of f fd) (Z : Zs K mg) (C_record_count : Cal P w K mg base 1 "record_count" ["standing"] (spOf K c_record_count)) : FnG P w K mg base (1 + 1) f fd ["standing", "other"] (spOf K c_wish_of) := by
  refine ok_def F sc_wish_of rfl fun cdv A outer s H E still hr0 => ?_
  have hr : Room 1 _ := hr0
  have st : Still _ := still
  have hu := hu_of hr
  have sc := sc_wish_of
  exact (dss_cons (ds_set (i := 2) sc.nd rfl (.inl rfl) (dx_op (or_mul rfl) og_mul (dx_lst (db_cons dx_int db_nil)) (dx_call C_record_count st (hr.mono (by decide)) (db_cons (dv 0) db_nil)))) (dss_cons (ds_for PassesOwn.never rfl (di_enum rfl Z.z_enumerate (dx_ix (or_ix rfl) og_ix (dv 1) dx_int (fun _ _ => rfl))) (dg_tup rfl rfl (dgs_cons (dg_name (i := 3) sc.nd rfl (.inl rfl)) (dgs_cons (dg_name (i := 4) sc.nd rfl (.inl rfl)) dgs_nil))) (dss_one (ds_for PassesOwn.never rfl (di_seq rfl (dv 4)) (dg_name (i := 5) sc.nd rfl (.inl rfl)) (dss_one (ds_asg (dv 3) (dg_sub (dv 2) (dv 5))))))) (dss_one (ds_ret (dx_callTy (tupXK rfl) on_tup (da_cons (dv 2) da_nil) Z.z_tuple (by decide +kernel))))))
theorem ok_renamed_blocks {f : Addr} {fd : FuncData} (F : Fun K "renamed_blocks" "renamed_blocks" s_renamed_blocks f fd) (Z : Zs K mg) : FnG P w K mg base (0 + 1) f fd ["standing", "names"] (spOf K c_renamed_blocks) := by
  refine ok_def F sc_renamed_blocks rfl fun cdv A outer s H E still hr0 => ?_
  have hr : Room 0 _ := hr0
  have st : Still _ := still
  have hu := hu_of hr
  have sc := sc_renamed_blocks
  exact (dss_cons (ds_asg (dv 0) (dg_tup rfl rfl (dgs_cons (dg_name (i := 2) sc.nd rfl (.inl rfl)) (dgs_cons (dg_name (i := 3) sc.nd rfl (.inl rfl)) dgs_nil)))) (dss_cons (ds_set (i := 4) sc.nd rfl (.inl rfl) (dx_callTy (lstK rfl) on_lst (da_cons (dv 3) da_nil) Z.z_list (by decide +kernel))) (dss_cons (ds_for PassesOwn.never rfl (di_enum rfl Z.z_enumerate (dv 3)) (dg_tup rfl rfl (dgs_cons (dg_name (i := 5) sc.nd rfl (.inl rfl)) (dgs_cons (dg_name (i := 6) sc.nd rfl (.inl rfl)) dgs_nil))) (dss_one (ds_asg (dv 6) (dg_sub (dv 4) (dx_ix (or_ix rfl) og_ix (dv 1) (dv 5) (fun _ _ => rfl)))))) (dss_one (ds_ret (dx_tup (db_cons (dv 2) (db_cons (dx_callTy (tupXK rfl) on_tup (da_cons (dv 4) da_nil) Z.z_tuple (by decide +kernel)) db_nil))))))))
theorem ok_renamed_wish {f : Addr} {fd : FuncData} (F : Fun K "renamed_wish" "renamed_wish" s_renamed_wish f fd) (Z : Zs K mg) : FnG P w K mg base (0 + 1) f fd ["wish", "names"] (spOf K c_renamed_wish) := by
  refine ok_def F sc_renamed_wish rfl fun cdv A outer s H E still hr0 => ?_
  have hr : Room 0 _ := hr0
  have st : Still _ := still
  have hu := hu_of hr
  have sc := sc_renamed_wish
  exact (dss_one (ds_ret (dx_callTy (tupXK rfl) on_tup (da_cons (dx_lc (own := [("goal", 2)]) rfl sc.nd (di_seq rfl (dv 0)) (blk_in (N := n_renamed_wish) (by decide +kernel) (by repeat (first | exact trivial | exact Or.inl rfl | exact Or.inr rfl | refine And.intro ?_ ?_))) lt_name (fun _ _ _ _ _ => (pg_name (i := 2) sc.nd rfl (.inl rfl))) (fun _ _ _ _ _ => du_nil) (fun _ _ _ _ _ => (dx_ix (or_ix rfl) og_ix (dv 1) (dv 2) (fun _ _ => rfl)))) da_nil) Z.z_tuple (by decide +kernel))))
theorem ok_alike_records {f : Addr} {fd : FuncData} (F : Fun K "alike_records" "alike_records" s_alike_records f fd) (Z : Zs K mg) : FnG P w K mg base (0 + 1) f fd ["standing", "wish", "one", "other"] (spOf K c_alike_records) := by
  refine ok_def F sc_alike_records rfl fun cdv A outer s H E still hr0 => ?_
  have hr : Room 0 _ := hr0
  have st : Still _ := still
  have hu := hu_of hr
  have sc := sc_alike_records
  exact (dss_one (ds_ret (dx_cmp (or_eq rfl hr.units) og_eq (dx_ix (or_ix rfl) og_ix (dv 1) (dv 2) (fun _ _ => rfl)) (dx_ix (or_ix rfl) og_ix (dv 1) (dv 3) (fun _ _ => rfl)) (nomark _))))
theorem ok_exchanged {f : Addr} {fd : FuncData} (F : Fun K "exchanged" "exchanged" s_exchanged f fd) (Z : Zs K mg) : FnG P w K mg base (0 + 1) f fd ["standing", "one", "other"] (spOf K c_exchanged) := by
  refine ok_def F sc_exchanged rfl fun cdv A outer s H E still hr0 => ?_
  have hr : Room 0 _ := hr0
  have st : Still _ := still
  have hu := hu_of hr
  have sc := sc_exchanged
  exact (dss_cons (ds_asg (dv 0) (dg_tup rfl rfl (dgs_cons (dg_name (i := 3) sc.nd rfl (.inl rfl)) (dgs_cons (dg_name (i := 4) sc.nd rfl (.inl rfl)) dgs_nil)))) (dss_cons (ds_set (i := 5) sc.nd rfl (.inr rfl) (dx_disp (dp_cons (dv 1) (dv 2) (dp_cons (dv 2) (dv 1) dp_nil)) rfl rfl (by simp) (by decide))) (dss_one (ds_ret (dx_tup (db_cons (dv 3) (db_cons (dx_callTy (tupXK rfl) on_tup (da_cons (dx_lc (own := [("block", 6)]) rfl sc.nd (di_seq rfl (dv 4)) (blk_in (N := n_exchanged) (by decide +kernel) (by repeat (first | exact trivial | exact Or.inl rfl | exact Or.inr rfl | refine And.intro ?_ ?_))) lt_name (fun _ _ _ _ _ => (pg_name (i := 6) sc.nd rfl (.inl rfl))) (fun _ _ _ _ _ => du_nil) (fun _ _ _ _ _ => (dx_callTy (tupXK rfl) on_tup (da_cons (dx_callB (srtK rfl) on_srt (da_cons (dx_lc (own := [("record", 7)]) rfl sc.nd (di_seq rfl (dv 6)) (blk_in (N := n_exchanged) (by decide +kernel) (by repeat (first | exact trivial | exact Or.inl rfl | exact Or.inr rfl | refine And.intro ?_ ?_))) lt_name (fun _ _ _ _ _ => (pg_name (i := 7) sc.nd rfl (.inl rfl))) (fun _ _ _ _ _ => du_nil) (fun _ _ _ _ _ => (dx_dgetM2 hu (dv 5) (dv 7) (dv 7) ⟨rfl, rfl, rfl, rfl⟩))) da_nil) Z.z_sorted (by decide +kernel)) da_nil) Z.z_tuple (by decide +kernel)))) da_nil) Z.z_tuple (by decide +kernel)) db_nil)))))))
theorem ok_law_draw {f : Addr} {fd : FuncData} (F : Fun K "_law_draw" "_law_draw" s_law_draw f fd) (Z : Zs K mg) : FnG P w K mg base (0 + 1) f fd ["script", "salt"] (spOf K c_law_draw) := by
  refine ok_def F sc_law_draw rfl fun cdv A outer s H E still hr0 => ?_
  have hr : Room 0 _ := hr0
  have st : Still _ := still
  have hu := hu_of hr
  have sc := sc_law_draw
  exact (dss_cons (ds_setLc (i := 2) (own := [("cell", 4)]) rfl sc.nd rfl rfl (sw_true rfl rfl rfl (by decide +kernel)) (di_seq rfl (dx_slice rfl (dv 0) dpo_n (dpo_s dx_int))) (blk_in (N := n_law_draw) (by decide +kernel) (by repeat (first | exact trivial | exact Or.inl rfl | exact Or.inr rfl | refine And.intro ?_ ?_))) lt_name (fun _ _ _ _ _ => (pg_name (i := 4) sc.nd rfl (.inl rfl))) (fun _ _ _ _ _ => du_nil) (fun _ _ _ _ _ => (dx_callB call_abs on_abs (da_cons (dx_callTy call_int1 on_int (da_cons (dv 4) da_nil) Z.z_int (by decide +kernel)) da_nil) Z.z_abs (by decide +kernel)))) (dss_cons (ds_set (i := 3) sc.nd rfl (.inl rfl) (dx_op (or_add rfl) og_add dx_int (dx_op (or_mul rfl) og_mul dx_int (dv 1)))) (dss_cons (ds_for PassesOwn.never rfl (di_seq rfl (dv 2)) (dg_name (i := 4) sc.nd rfl (.inl rfl)) (dss_one (ds_set (i := 3) sc.nd rfl (.inl rfl) (dx_op op_mod (og_I (C := fun _ j => 0 < j) (f := (· % ·))) (dx_callTy call_int1 on_int (da_cons (dx_op (or_add rfl) og_add (dx_op (or_add rfl) og_add (dx_op (or_mul rfl) og_mul (dv 3) dx_int) (dx_op op_mod (og_I (C := fun _ j => 0 < j) (f := (· % ·))) (dv 4) dx_int)) dx_int) da_nil) Z.z_int (by decide +kernel)) dx_int)))) (dss_one (ds_ret (dx_lst (db_cons (dx_rev rfl (dx_lc (own := [("cell", 4)]) rfl sc.nd (di_seq rfl (dv 2)) (blk_in (N := n_law_draw) (by decide +kernel) (by repeat (first | exact trivial | exact Or.inl rfl | exact Or.inr rfl | refine And.intro ?_ ?_))) lt_name (fun _ _ _ _ _ => (pg_name (i := 4) sc.nd rfl (.inl rfl))) (fun _ _ _ _ _ => (du_one (dt_cmp op_ge og_ge (dv 4) (dx_op op_pow (og_I (C := CPow) (f := fun i j => i ^ j.toNat)) dx_int dx_int) (nomark _)))) (fun _ _ _ _ _ => (dv 4)))) (db_cons (dv 3) db_nil))))))))
theorem ok_law_any {f : Addr} {fd : FuncData} (F : Fun K "_law_any" "_law_any" s_law_any f fd) (Z : Zs K mg) : FnG P w K mg base (0 + 1) f fd ["deal", "bound"] (spOf K c_law_any) := by
  refine ok_def F sc_law_any rfl fun cdv A outer s H E still hr0 => ?_
  have hr : Room 0 _ := hr0
  have st : Still _ := still
  have hu := hu_of hr
  have sc := sc_law_any
  exact (dss_cons (ds_while PassesOwn.never (PW.pt (dw_and (dt_cmp (or_ne rfl hr.units) og_ne (dx_ix (or_ix rfl) og_ix (dv 0) dx_int (fun _ _ => rfl)) (dx_lst db_nil) (nomark _)) (dw_and1 (dt_cmp (or_eq rfl hr.units) og_eq (dx_ix (or_ix rfl) og_ix (dx_ix (or_ix rfl) og_ix (dv 0) dx_int (fun _ _ => rfl)) (dx_neg dx_int) (fun _ _ => rfl)) dx_int (nomark _))))) (dss_one (ds_exp (dx_bm0 rfl PySem.F.plainAttrs_list PySem.F.slot_list_pop PySem.F.type_list_pop mt_pop om_pop (dx_ix (or_ix rfl) og_ix (dv 0) dx_int (fun _ _ => rfl)))))) (dss_cons (ds_if (dt_cmp (or_ne rfl hr.units) og_ne (dx_ix (or_ix rfl) og_ix (dv 0) dx_int (fun _ _ => rfl)) (dx_lst db_nil) (nomark _)) (dss_cons (ds_set (i := 2) sc.nd rfl (.inl rfl) (dx_callTy call_int1 on_int (da_cons (dx_bm0 rfl PySem.F.plainAttrs_list PySem.F.slot_list_pop PySem.F.type_list_pop mt_pop om_pop (dx_ix (or_ix rfl) og_ix (dv 0) dx_int (fun _ _ => rfl))) da_nil) Z.z_int (by decide +kernel))) (dss_cons (ds_exp (dx_bm rfl PySem.F.plainAttrs_list PySem.F.slot_list_append PySem.F.type_list_append mt_append om_app (dx_ix (or_ix rfl) og_ix (dv 0) dx_int (fun _ _ => rfl)) (db_cons (dx_op op_fdivW (og_I (C := CDivW) (f := (· / ·))) (dv 2) (dv 1)) db_nil))) (dss_one (ds_ret (dx_op op_mod (og_I (C := fun _ j => 0 < j) (f := (· % ·))) (dv 2) (dv 1)))))) dss_nil) (dss_cons (ds_asg (dx_op op_mod (og_I (C := fun _ j => 0 < j) (f := (· % ·))) (dx_callTy call_int1 on_int (da_cons (dx_op (or_add rfl) og_add (dx_op (or_mul rfl) og_mul (dx_ix (or_ix rfl) og_ix (dv 0) dx_int (fun _ _ => rfl)) dx_int) dx_int) da_nil) Z.z_int (by decide +kernel)) dx_int) (dg_sub (dv 0) dx_int)) (dss_one (ds_ret (dx_op op_mod (og_I (C := fun _ j => 0 < j) (f := (· % ·))) (dx_callTy call_int1 on_int (da_cons (dx_op op_fdivW (og_I (C := CDivW) (f := (· / ·))) (dx_ix (or_ix rfl) og_ix (dv 0) dx_int (fun _ _ => rfl)) dx_int) da_nil) Z.z_int (by decide +kernel)) (dv 1)))))))
theorem ok_law_of {f : Addr} {fd : FuncData} (F : Fun K "_law_of" "_law_of" s_law_of f fd) (Z : Zs K mg) (C_law_any : Cal P w K mg base 1 "_law_any" ["deal", "bound"] (spOf K c_law_any)) : FnG P w K mg base (1 + 1) f fd ["deal", "some"] (spOf K c_law_of) := by
  refine ok_def F sc_law_of rfl fun cdv A outer s H E still hr0 => ?_
  have hr : Room 1 _ := hr0
  have st : Still _ := still
  have hu := hu_of hr
  have sc := sc_law_of
  exact (dss_one (ds_ret (dx_ix (or_ix rfl) og_ix (dv 1) (dx_call C_law_any st (hr.mono (by decide)) (db_cons (dv 0) (db_cons (dx_callB (cr_len rfl) on_len (da_cons (dv 1) da_nil) Z.z_len (by decide +kernel)) db_nil))) (fun _ _ => rfl))))
theorem ok_law_mixed {f : Addr} {fd : FuncData} (F : Fun K "_law_mixed" "_law_mixed" s_law_mixed f fd) (Z : Zs K mg) (C_law_any : Cal P w K mg base 1 "_law_any" ["deal", "bound"] (spOf K c_law_any)) : FnG P w K mg base (1 + 1) f fd ["deal", "some"] (spOf K c_law_mixed) := by
  refine ok_def F sc_law_mixed rfl fun cdv A outer s H E still hr0 => ?_
  have hr : Room 1 _ := hr0
  have st : Still _ := still
  have hu := hu_of hr
  have sc := sc_law_mixed
  exact (dss_cons (ds_par (i := 2) (j := 3) rfl sc.nd rfl rfl (by decide) rfl rfl (db_cons (dx_callTy (lstK rfl) on_lst (da_cons (dv 1) da_nil) Z.z_list (by decide +kernel)) (db_cons (dx_lst db_nil) db_nil)) (by rfl)) (dss_cons (ds_while PassesOwn.never (dt_cmp (or_ne rfl hr.units) og_ne (dv 2) (dx_lst db_nil) (nomark _)) (dss_one (ds_exp (dx_bm rfl PySem.F.plainAttrs_list PySem.F.slot_list_append PySem.F.type_list_append mt_append om_app (dv 3) (db_cons (dx_bm rfl PySem.F.plainAttrs_list PySem.F.slot_list_pop PySem.F.type_list_pop mt_popAt om_popAt (dv 2) (db_cons (dx_call C_law_any st (hr.mono (by decide)) (db_cons (dv 0) (db_cons (dx_callB (cr_len rfl) on_len (da_cons (dv 2) da_nil) Z.z_len (by decide +kernel)) db_nil))) db_nil)) db_nil))))) (dss_one (ds_ret (dv 3)))))
theorem ok_law_dealt {f : Addr} {fd : FuncData} (F : Fun K "_law_dealt" "_law_dealt" s_law_dealt f fd) (Z : Zs K mg) (C_law_of : Cal P w K mg base 2 "_law_of" ["deal", "some"] (spOf K c_law_of)) (C_law_mixed : Cal P w K mg base 2 "_law_mixed" ["deal", "some"] (spOf K c_law_mixed)) : FnG P w K mg base (2 + 1) f fd ["deal", "b", "many", "records"] (spOf K c_law_dealt) := by
  refine ok_def F sc_law_dealt rfl fun cdv A outer s H E still hr0 => ?_
  have hr : Room 2 _ := hr0
  have st : Still _ := still
  have hu := hu_of hr
  have sc := sc_law_dealt
  exact (dss_cons (ds_set (i := 4) sc.nd rfl (.inr rfl) (dx_lc (own := [("block", 7)]) rfl sc.nd (di_rg1 Z.z_range (dv 2)) (blk_in (N := n_law_dealt) (by decide +kernel) (by repeat (first | exact trivial | exact Or.inl rfl | exact Or.inr rfl | refine And.intro ?_ ?_))) lt_name (fun _ _ _ _ _ => (pg_name (i := 7) sc.nd rfl (.inl rfl))) (fun _ _ _ _ _ => du_nil) (fun _ _ _ _ _ => (dx_lst db_nil)))) (dss_cons (ds_for PassesOwn.never rfl (di_seq rfl (dx_call C_law_mixed st (hr.mono (by decide)) (db_cons (dv 0) (db_cons (dv 3) db_nil)))) (dg_name (i := 5) sc.nd rfl (.inl rfl)) (dss_cons (ds_setLc (i := 6) (own := [("at", 8)]) rfl sc.nd rfl rfl (sw_true rfl rfl rfl (by decide +kernel)) (di_rg1 Z.z_range (dv 2)) (blk_in (N := n_law_dealt) (by decide +kernel) (by repeat (first | exact trivial | exact Or.inl rfl | exact Or.inr rfl | refine And.intro ?_ ?_))) lt_name (fun _ _ _ _ _ => (pg_name (i := 8) sc.nd rfl (.inl rfl))) (fun _ _ _ _ _ => (du_one (dt_cmp op_lt og_lt (dx_callB (cr_len rfl) on_len (da_cons (dx_ix (or_ix rfl) og_ix (dv 4) (dv 8) (fun _ _ => rfl)) da_nil) Z.z_len (by decide +kernel)) (dv 1) (nomark _)))) (fun _ _ _ _ _ => (dv 8))) (dss_one (ds_exp (dx_bm rfl PySem.F.plainAttrs_list PySem.F.slot_list_append PySem.F.type_list_append mt_append om_app (dx_ix (or_ix rfl) og_ix (dv 4) (dx_call C_law_of st (hr.mono (by decide)) (db_cons (dv 0) (db_cons (dv 6) db_nil))) (fun _ _ => rfl)) (db_cons (dv 5) db_nil)))))) (dss_one (ds_ret (dx_callTy (tupXK rfl) on_tup (da_cons (dx_lc (own := [("block", 7)]) rfl sc.nd (di_seq rfl (dv 4)) (blk_in (N := n_law_dealt) (by decide +kernel) (by repeat (first | exact trivial | exact Or.inl rfl | exact Or.inr rfl | refine And.intro ?_ ?_))) lt_name (fun _ _ _ _ _ => (pg_name (i := 7) sc.nd rfl (.inl rfl))) (fun _ _ _ _ _ => du_nil) (fun _ _ _ _ _ => (dx_callTy (tupXK rfl) on_tup (da_cons (dx_callB (srtK rfl) on_srt (da_cons (dv 7) da_nil) Z.z_sorted (by decide +kernel)) da_nil) Z.z_tuple (by decide +kernel)))) da_nil) Z.z_tuple (by decide +kernel))))))
theorem ok_law_standing {f : Addr} {fd : FuncData} (F : Fun K "_law_standing" "_law_standing" s_law_standing f fd) (Z : Zs K mg) (C_law_any : Cal P w K mg base 1 "_law_any" ["deal", "bound"] (spOf K c_law_any)) (C_law_dealt : Cal P w K mg base 3 "_law_dealt" ["deal", "b", "many", "records"] (spOf K c_law_dealt)) : FnG P w K mg base (3 + 1) f fd ["deal", "most", "size"] (spOf K c_law_standing) := by
  refine ok_def F sc_law_standing rfl fun cdv A outer s H E still hr0 => ?_
  have hr : Room 3 _ := hr0
  have st : Still _ := still
  have hu := hu_of hr
  have sc := sc_law_standing
  exact (dss_cons (ds_par (i := 3) (j := 4) rfl sc.nd rfl rfl (by decide) rfl rfl (db_cons (dx_op (or_add rfl) og_add dx_int (dx_call C_law_any st (hr.mono (by decide)) (db_cons (dv 0) (db_cons (dv 2) db_nil)))) (db_cons (dx_op (or_add rfl) og_add dx_int (dx_call C_law_any st (hr.mono (by decide)) (db_cons (dv 0) (db_cons (dv 1) db_nil)))) db_nil)) (by rfl)) (dss_cons (ds_set (i := 5) sc.nd rfl (.inl rfl) (dx_op (or_mul rfl) og_mul (dv 3) (dv 4))) (dss_cons (ds_set (i := 6) sc.nd rfl (.inl rfl) (dx_ifExp (dt_cmp (or_eq rfl hr.units) og_eq (dx_call C_law_any st (hr.mono (by decide)) (db_cons (dv 0) (db_cons dx_int db_nil))) dx_int (nomark _)) (dv 5) (dx_call C_law_any st (hr.mono (by decide)) (db_cons (dv 0) (db_cons (dx_op (or_add rfl) og_add (dv 5) dx_int) db_nil))))) (dss_one (ds_ret (dx_tup (db_cons (dv 3) (db_cons (dx_call C_law_dealt st (hr.mono (by decide)) (db_cons (dv 0) (db_cons (dv 3) (db_cons (dv 4) (db_cons (dx_lrg1 rfl Z.z_list Z.z_range (dv 6)) db_nil))))) db_nil))))))))
theorem ok_law_count {f : Addr} {fd : FuncData} (F : Fun K "_law_count" "_law_count" s_law_count f fd) (Z : Zs K mg) : FnG P w K mg base (0 + 1) f fd ["standing"] (spOf K c_law_count) := by
  refine ok_def F sc_law_count rfl fun cdv A outer s H E still hr0 => ?_
  have hr : Room 0 _ := hr0
  have st : Still _ := still
  have hu := hu_of hr
  have sc := sc_law_count
  exact (dss_one (ds_ret (dx_callB (sum2K rfl rfl) on_sum (da_cons (dx_lc (own := [("block", 1)]) rfl sc.nd (di_seq rfl (dx_ix (or_ix rfl) og_ix (dv 0) dx_int (fun _ _ => rfl))) (blk_in (N := n_law_count) (by decide +kernel) (by repeat (first | exact trivial | exact Or.inl rfl | exact Or.inr rfl | refine And.intro ?_ ?_))) lt_name (fun _ _ _ _ _ => (pg_name (i := 1) sc.nd rfl (.inl rfl))) (fun _ _ _ _ _ => du_nil) (fun _ _ _ _ _ => (dx_callB (cr_len rfl) on_len (da_cons (dv 1) da_nil) Z.z_len (by decide +kernel)))) da_nil) Z.z_sum (by decide +kernel))))
theorem ok_law_places {f : Addr} {fd : FuncData} (F : Fun K "_law_places" "_law_places" s_law_places f fd) (Z : Zs K mg) (C_law_count : Cal P w K mg base 1 "_law_count" ["standing"] (spOf K c_law_count)) : FnG P w K mg base (1 + 1) f fd ["standing"] (spOf K c_law_places) := by
  refine ok_def F sc_law_places rfl fun cdv A outer s H E still hr0 => ?_
  have hr : Room 1 _ := hr0
  have st : Still _ := still
  have hu := hu_of hr
  have sc := sc_law_places
  exact (dss_cons (ds_set (i := 1) sc.nd rfl (.inl rfl) (dx_op (or_mul rfl) og_mul (dx_lst (db_cons dx_int db_nil)) (dx_call C_law_count st (hr.mono (by decide)) (db_cons (dv 0) db_nil)))) (dss_cons (ds_for PassesOwn.never rfl (di_enum rfl Z.z_enumerate (dx_ix (or_ix rfl) og_ix (dv 0) dx_int (fun _ _ => rfl))) (dg_tup rfl rfl (dgs_cons (dg_name (i := 2) sc.nd rfl (.inl rfl)) (dgs_cons (dg_name (i := 3) sc.nd rfl (.inl rfl)) dgs_nil))) (dss_one (ds_for PassesOwn.never rfl (di_seq rfl (dv 3)) (dg_name (i := 4) sc.nd rfl (.inl rfl)) (dss_one (ds_asg (dv 2) (dg_sub (dv 1) (dv 4))))))) (dss_one (ds_ret (dx_callTy (tupXK rfl) on_tup (da_cons (dv 1) da_nil) Z.z_tuple (by decide +kernel))))))
theorem ok_law_wish {f : Addr} {fd : FuncData} (F : Fun K "_law_wish" "_law_wish" s_law_wish f fd) (Z : Zs K mg) (C_law_dealt : Cal P w K mg base 3 "_law_dealt" ["deal", "b", "many", "records"] (spOf K c_law_dealt)) (C_law_count : Cal P w K mg base 1 "_law_count" ["standing"] (spOf K c_law_count)) (C_law_places : Cal P w K mg base 2 "_law_places" ["standing"] (spOf K c_law_places)) : FnG P w K mg base (3 + 1) f fd ["deal", "standing"] (spOf K c_law_wish) := by
  refine ok_def F sc_law_wish rfl fun cdv A outer s H E still hr0 => ?_
  have hr : Room 3 _ := hr0
  have st : Still _ := still
  have hu := hu_of hr
  have sc := sc_law_wish
  exact (dss_cons (ds_asg (dv 1) (dg_tup rfl rfl (dgs_cons (dg_name (i := 2) sc.nd rfl (.inl rfl)) (dgs_cons (dg_name (i := 3) sc.nd rfl (.inl rfl)) dgs_nil)))) (dss_one (ds_ret (dx_call C_law_places st (hr.mono (by decide)) (db_cons (dx_tup (db_cons (dv 2) (db_cons (dx_call C_law_dealt st (hr.mono (by decide)) (db_cons (dv 0) (db_cons (dv 2) (db_cons (dx_callB (cr_len rfl) on_len (da_cons (dv 3) da_nil) Z.z_len (by decide +kernel)) (db_cons (dx_lrg1 rfl Z.z_list Z.z_range (dx_call C_law_count st (hr.mono (by decide)) (db_cons (dv 1) db_nil))) db_nil))))) db_nil))) db_nil)))))
theorem ok_law_crowds {f : Addr} {fd : FuncData} (F : Fun K "_law_crowds" "_law_crowds" s_law_crowds f fd) (Z : Zs K mg) : FnG P w K mg base (0 + 1) f fd ["standing", "wish"] (spOf K c_law_crowds) := by
  refine ok_def F sc_law_crowds rfl fun cdv A outer s H E still hr0 => ?_
  have hr : Room 0 _ := hr0
  have st : Still _ := still
  have hu := hu_of hr
  have sc := sc_law_crowds
  exact (dss_cons (ds_set (i := 2) sc.nd rfl (.inr rfl) (dx_callB (cr_len rfl) on_len (da_cons (dx_ix (or_ix rfl) og_ix (dv 0) dx_int (fun _ _ => rfl)) da_nil) Z.z_len (by decide +kernel))) (dss_one (ds_ret (dx_callTy (tupXK rfl) on_tup (da_cons (dx_lc (own := [("block", 3)]) rfl sc.nd (di_seq rfl (dx_ix (or_ix rfl) og_ix (dv 0) dx_int (fun _ _ => rfl))) (blk_in (N := n_law_crowds) (by decide +kernel) (by repeat (first | exact trivial | exact Or.inl rfl | exact Or.inr rfl | refine And.intro ?_ ?_))) lt_name (fun _ _ _ _ _ => (pg_name (i := 3) sc.nd rfl (.inr rfl))) (fun _ _ _ _ _ => du_nil) (fun _ _ _ _ _ => (dx_callTy (tupXK rfl) on_tup (da_cons (dx_lc (own := [("at", 4)]) rfl sc.nd (di_rg1 Z.z_range (dv 2)) (blk_in (N := n_law_crowds) (by decide +kernel) (by repeat (first | exact trivial | exact Or.inl rfl | exact Or.inr rfl | refine And.intro ?_ ?_))) lt_name (fun _ _ _ _ _ => (pg_name (i := 4) sc.nd rfl (.inr rfl))) (fun _ _ _ _ _ => du_nil) (fun _ _ _ _ _ => (dx_callB (cr_len rfl) on_len (da_cons (dx_lc (own := [("record", 5)]) rfl sc.nd (di_seq rfl (dv 3)) (blk_in (N := n_law_crowds) (by decide +kernel) (by repeat (first | exact trivial | exact Or.inl rfl | exact Or.inr rfl | refine And.intro ?_ ?_))) lt_name (fun _ _ _ _ _ => (pg_name (i := 5) sc.nd rfl (.inl rfl))) (fun _ _ _ _ _ => (du_one (dt_cmp (or_eq rfl hr.units) og_eq (dx_ix (or_ix rfl) og_ix (dv 1) (dv 5) (fun _ _ => rfl)) (dv 4) (nomark _)))) (fun _ _ _ _ _ => (dv 5))) da_nil) Z.z_len (by decide +kernel)))) da_nil) Z.z_tuple (by decide +kernel)))) da_nil) Z.z_tuple (by decide +kernel)))))
theorem ok_law {f : Addr} {fd : FuncData} (F : Fun K "law" "law" s_law f fd) (Z : Zs K mg) (C_is_wish : Cal P w K mg base 3 "is_wish" ["standing", "value"] (spOf K c_is_wish)) (kb_is_wish : KBinds K C_is_wish.fd ["standing", "value"] ["value", "standing"] (fun us ws => us ++ ws.reverse) (fun us ws => us ++ ws.reverse)) (C_crowds : Cal P w K mg base 2 "crowds" ["standing", "wish"] (spOf K c_crowds)) (kb_crowds : KBinds K C_crowds.fd ["standing", "wish"] ["wish", "standing"] (fun us ws => us ++ ws.reverse) (fun us ws => us ++ ws.reverse)) (C_is_met : Cal P w K mg base 1 "is_met" ["standing", "wish"] (spOf K c_is_met)) (kb_is_met : KBinds K C_is_met.fd ["standing", "wish"] ["wish", "standing"] (fun us ws => us ++ ws.reverse) (fun us ws => us ++ ws.reverse)) (C_wish_of : Cal P w K mg base 2 "wish_of" ["standing", "other"] (spOf K c_wish_of)) (kb_wish_of : KBinds K C_wish_of.fd ["standing", "other"] ["other", "standing"] (fun us ws => us ++ ws.reverse) (fun us ws => us ++ ws.reverse)) (C_renamed_blocks : Cal P w K mg base 1 "renamed_blocks" ["standing", "names"] (spOf K c_renamed_blocks)) (kb_renamed_blocks : KBinds K C_renamed_blocks.fd ["standing", "names"] ["names", "standing"] (fun us ws => us ++ ws.reverse) (fun us ws => us ++ ws.reverse)) (C_renamed_wish : Cal P w K mg base 1 "renamed_wish" ["wish", "names"] (spOf K c_renamed_wish)) (kb_renamed_wish : KBinds K C_renamed_wish.fd ["wish", "names"] ["names", "wish"] (fun us ws => us ++ ws.reverse) (fun us ws => us ++ ws.reverse)) (C_alike_records : Cal P w K mg base 1 "alike_records" ["standing", "wish", "one", "other"] (spOf K c_alike_records)) (kb_alike_records : KBinds K C_alike_records.fd ["standing", "wish", "one", "other"] ["other", "one", "wish", "standing"] (fun us ws => us ++ ws.reverse) (fun us ws => us ++ ws.reverse)) (C_exchanged : Cal P w K mg base 1 "exchanged" ["standing", "one", "other"] (spOf K c_exchanged)) (kb_exchanged : KBinds K C_exchanged.fd ["standing", "one", "other"] ["other", "one", "standing"] (fun us ws => us ++ ws.reverse) (fun us ws => us ++ ws.reverse)) (C_law_draw : Cal P w K mg base 1 "_law_draw" ["script", "salt"] (spOf K c_law_draw)) (C_law_any : Cal P w K mg base 1 "_law_any" ["deal", "bound"] (spOf K c_law_any)) (C_law_of : Cal P w K mg base 2 "_law_of" ["deal", "some"] (spOf K c_law_of)) (C_law_mixed : Cal P w K mg base 2 "_law_mixed" ["deal", "some"] (spOf K c_law_mixed)) (C_law_dealt : Cal P w K mg base 3 "_law_dealt" ["deal", "b", "many", "records"] (spOf K c_law_dealt)) (C_law_standing : Cal P w K mg base 4 "_law_standing" ["deal", "most", "size"] (spOf K c_law_standing)) (C_law_count : Cal P w K mg base 1 "_law_count" ["standing"] (spOf K c_law_count)) (C_law_places : Cal P w K mg base 2 "_law_places" ["standing"] (spOf K c_law_places)) (C_law_wish : Cal P w K mg base 4 "_law_wish" ["deal", "standing"] (spOf K c_law_wish)) (C_law_crowds : Cal P w K mg base 1 "_law_crowds" ["standing", "wish"] (spOf K c_law_crowds)) : FnG P w K mg base (4 + 1) f fd ["script"] (spOf K c_law) := by
  refine ok_def F sc_law rfl fun cdv A outer s H E still hr0 => ?_
  have hr : Room 4 _ := hr0
  have st : Still _ := still
  have hu := hu_of hr
  have sc := sc_law
  exact (dss_cons (ds_set (i := 1) sc.nd rfl (.inl rfl) (dx_call C_law_draw st (hr.mono (by decide)) (db_cons (dv 0) (db_cons dx_int db_nil)))) (dss_cons (ds_for PassesOwn.never rfl (di_rg1 Z.z_range dx_int) (dg_name (i := 2) sc.nd rfl (.inl rfl)) (dss_cons (ds_set (i := 3) sc.nd rfl (.inl rfl) (dx_call C_law_standing st (hr.mono (by decide)) (db_cons (dv 1) (db_cons dx_int (db_cons dx_int db_nil))))) (dss_cons (ds_asg (dv 3) (dg_tup rfl rfl (dgs_cons (dg_name (i := 4) sc.nd rfl (.inl rfl)) (dgs_cons (dg_name (i := 5) sc.nd rfl (.inr rfl)) dgs_nil)))) (dss_cons (ds_par (i := 6) (j := 7) rfl sc.nd rfl rfl (by decide) rfl rfl (db_cons (dx_callB (cr_len rfl) on_len (da_cons (dv 5) da_nil) Z.z_len (by decide +kernel)) (db_cons (dx_call C_law_count st (hr.mono (by decide)) (db_cons (dv 3) db_nil)) db_nil)) (by rfl)) (dss_cons (ds_set (i := 8) sc.nd rfl (.inl rfl) (dx_ifExp (dt_cmp op_gt og_gt (dx_call C_law_any st (hr.mono (by decide)) (db_cons (dv 1) (db_cons dx_int db_nil))) dx_int (nomark _)) (dx_call C_law_wish st (hr.mono (by decide)) (db_cons (dv 1) (db_cons (dv 3) db_nil))) (dx_call C_law_places st (hr.mono (by decide)) (db_cons (dv 3) db_nil)))) (dss_cons (ds_if (PW.pt (dw_or (dt_cmp or_isn og_isn (dx_callK C_is_wish kb_is_wish st (hr.mono (by decide)) (dk_cons (dv 8) (dk_cons (dv 3) dk_nil))) dx_bl (nomark _)) (dw_or1 (dt_cmp (or_ne rfl hr.units) og_ne (dx_callB (reprS rfl st hr.units) on_repr (da_cons (dx_callK C_crowds kb_crowds st (hr.mono (by decide)) (dk_cons (dv 8) (dk_cons (dv 3) dk_nil))) da_nil) Z.z_repr (by decide +kernel)) (dx_callB (reprS rfl st hr.units) on_repr (da_cons (dx_call C_law_crowds st (hr.mono (by decide)) (db_cons (dv 3) (db_cons (dv 8) db_nil))) da_nil) Z.z_repr (by decide +kernel)) (nomark _))))) (dss_one (ds_ret dx_bl)) dss_nil) (dss_cons (ds_if (dt_cmp (or_ne rfl hr.units) og_ne (dx_callB (reprS rfl st hr.units) on_repr (da_cons (dx_callK C_is_met kb_is_met st (hr.mono (by decide)) (dk_cons (dv 8) (dk_cons (dv 3) dk_nil))) da_nil) Z.z_repr (by decide +kernel)) (dx_callB (reprS rfl st hr.units) on_repr (da_cons (dx_cmp (or_eq rfl hr.units) og_eq (dv 8) (dx_call C_law_places st (hr.mono (by decide)) (db_cons (dv 3) db_nil)) (nomark _)) da_nil) Z.z_repr (by decide +kernel)) (nomark _)) (dss_one (ds_ret dx_bl)) dss_nil) (dss_cons (ds_set (i := 9) sc.nd rfl (.inl rfl) (dx_lst (db_cons (dx_callTy (lstK rfl) on_lst (da_cons (dv 8) da_nil) Z.z_list (by decide +kernel)) (db_cons (dx_op (or_add rfl) og_add (dv 8) (dx_tup (db_cons dx_int db_nil))) (db_cons (dx_ifExp (dt_cmp op_gt og_gt (dv 7) dx_int (nomark _)) (dx_slice rfl (dv 8) (dpo_s dx_int) dpo_n) (dx_tup (db_cons dx_int db_nil))) (db_cons (dx_ifExp (dt_cmp op_gt og_gt (dv 7) dx_int (nomark _)) (dx_op (or_mul rfl) og_mul (dx_tup (db_cons (dv 6) db_nil)) (dv 7)) dx_non) (db_cons dx_non (db_cons (dx_ifExp (dt_cmp op_gt og_gt (dv 7) dx_int (nomark _)) (dx_op (or_mul rfl) og_mul (dx_tup (db_cons dx_bl db_nil)) (dv 7)) dx_int) db_nil)))))))) (dss_cons (ds_set (i := 9) sc.nd rfl (.inl rfl) (dx_op (or_add rfl) og_add (dv 9) (dx_lst (db_cons (dx_ifExp (dt_cmp op_gt og_gt (dv 7) (dv 4) (nomark _)) (dx_op (or_mul rfl) og_mul (dx_tup (db_cons dx_int db_nil)) (dv 7)) (dx_lst db_nil)) (db_cons (dx_ifExp (dt_cmp op_gt og_gt (dv 7) dx_int (nomark _)) (dx_op (or_add rfl) og_add (dx_tup (db_cons (dx_neg dx_int) db_nil)) (dx_slice rfl (dv 8) (dpo_s dx_int) dpo_n)) dx_str) (db_cons (dx_ifExp (dt_cmp op_gt og_gt (dv 7) dx_int (nomark _)) (dx_op (or_add rfl) og_add (dx_tup (db_cons dx_str db_nil)) (dx_slice rfl (dv 8) (dpo_s dx_int) dpo_n)) (dx_tup (db_cons dx_int (db_cons dx_int db_nil)))) db_nil)))))) (dss_cons (ds_if (dt_cmp or_isn og_isn (dx_call C_is_wish st (hr.mono (by decide)) (db_cons (dv 3) (db_cons (dx_call C_law_of st (hr.mono (by decide)) (db_cons (dv 1) (db_cons (dv 9) db_nil))) db_nil))) dx_bl (nomark _)) (dss_one (ds_ret dx_bl)) dss_nil) (dss_cons (ds_set (i := 10) sc.nd rfl (.inl rfl) (dx_tup (db_cons (dv 4) (db_cons (dx_call C_law_dealt st (hr.mono (by decide)) (db_cons (dv 1) (db_cons (dv 4) (db_cons (dv 6) (db_cons (dx_lrg1 rfl Z.z_list Z.z_range (dv 7)) db_nil))))) db_nil)))) (dss_cons (ds_if (dt_cmp (or_ne rfl hr.units) og_ne (dx_callB (reprS rfl st hr.units) on_repr (da_cons (dx_callK C_wish_of kb_wish_of st (hr.mono (by decide)) (dk_cons (dv 10) (dk_cons (dv 3) dk_nil))) da_nil) Z.z_repr (by decide +kernel)) (dx_callB (reprS rfl st hr.units) on_repr (da_cons (dx_call C_law_places st (hr.mono (by decide)) (db_cons (dv 10) db_nil)) da_nil) Z.z_repr (by decide +kernel)) (nomark _)) (dss_one (ds_ret dx_bl)) dss_nil) (dss_cons (ds_set (i := 11) sc.nd rfl (.inr rfl) (dx_callTy (tupXK rfl) on_tup (da_cons (dx_call C_law_mixed st (hr.mono (by decide)) (db_cons (dv 1) (db_cons (dx_lrg1 rfl Z.z_list Z.z_range (dv 6)) db_nil))) da_nil) Z.z_tuple (by decide +kernel))) (dss_cons (ds_par (i := 12) (j := 13) rfl sc.nd rfl rfl (by decide) rfl rfl (db_cons (dx_callK C_renamed_blocks kb_renamed_blocks st (hr.mono (by decide)) (dk_cons (dv 11) (dk_cons (dv 3) dk_nil))) (db_cons (dx_callK C_renamed_wish kb_renamed_wish st (hr.mono (by decide)) (dk_cons (dv 11) (dk_cons (dv 8) dk_nil))) db_nil)) (by rfl)) (dss_cons (ds_if (PW.pt (dw_or (dt_cmp (or_ne rfl hr.units) og_ne (dx_callB (reprS rfl st hr.units) on_repr (da_cons (dv 12) da_nil) Z.z_repr (by decide +kernel)) (dx_callB (reprS rfl st hr.units) on_repr (da_cons (dx_tup (db_cons (dv 4) (db_cons (dx_callTy (tupXK rfl) on_tup (da_cons (dx_lc (own := [("at", 19)]) rfl sc.nd (di_rg1 Z.z_range (dv 6)) (blk_in (N := n_law) (by decide +kernel) (by repeat (first | exact trivial | exact Or.inl rfl | exact Or.inr rfl | refine And.intro ?_ ?_))) lt_name (fun _ _ _ _ _ => (pg_name (i := 19) sc.nd rfl (.inl rfl))) (fun _ _ _ _ _ => du_nil) (fun _ _ _ _ _ => (dx_ix (or_ix rfl) og_ix (dv 5) (dx_bmT rfl PySem.F.plainAttrs_tuple PySem.F.slot_tuple_index PySem.F.type_tuple_index (mt_indexIK rfl) om_indexT (dv 11) (db_cons (dv 19) db_nil)) (fun _ _ => rfl)))) da_nil) Z.z_tuple (by decide +kernel)) db_nil))) da_nil) Z.z_repr (by decide +kernel)) (nomark _)) (dw_or1 (dt_cmp (or_ne rfl hr.units) og_ne (dx_callB (reprS rfl st hr.units) on_repr (da_cons (dv 13) da_nil) Z.z_repr (by decide +kernel)) (dx_callB (reprS rfl st hr.units) on_repr (da_cons (dx_callTy (tupXK rfl) on_tup (da_cons (dx_lc (own := [("one", 14)]) rfl sc.nd (di_seq rfl (dv 8)) (blk_in (N := n_law) (by decide +kernel) (by repeat (first | exact trivial | exact Or.inl rfl | exact Or.inr rfl | refine And.intro ?_ ?_))) lt_name (fun _ _ _ _ _ => (pg_name (i := 14) sc.nd rfl (.inl rfl))) (fun _ _ _ _ _ => du_nil) (fun _ _ _ _ _ => (dx_ix (or_ix rfl) og_ix (dv 11) (dv 14) (fun _ _ => rfl)))) da_nil) Z.z_tuple (by decide +kernel)) da_nil) Z.z_repr (by decide +kernel)) (nomark _))))) (dss_one (ds_ret dx_bl)) dss_nil) (dss_one (ds_if (dt_cmp op_gt og_gt (dv 7) dx_int (nomark _)) (dss_cons (ds_asg (dx_tup (db_cons (dx_call C_law_any st (hr.mono (by decide)) (db_cons (dv 1) (db_cons (dv 7) db_nil))) (db_cons (dx_call C_law_any st (hr.mono (by decide)) (db_cons (dv 1) (db_cons (dv 7) db_nil))) db_nil))) (dg_tup rfl rfl (dgs_cons (dg_name (i := 14) sc.nd rfl (.inr rfl)) (dgs_cons (dg_name (i := 15) sc.nd rfl (.inr rfl)) dgs_nil)))) (dss_cons (ds_if (dt_cmp (or_ne rfl hr.units) og_ne (dx_callB (reprS rfl st hr.units) on_repr (da_cons (dx_callK C_alike_records kb_alike_records st (hr.mono (by decide)) (dk_cons (dv 15) (dk_cons (dv 14) (dk_cons (dv 8) (dk_cons (dv 3) dk_nil))))) da_nil) Z.z_repr (by decide +kernel)) (dx_callB (reprS rfl st hr.units) on_repr (da_cons (dx_cmp (or_eq rfl hr.units) og_eq (dx_ix (or_ix rfl) og_ix (dv 8) (dv 14) (fun _ _ => rfl)) (dx_ix (or_ix rfl) og_ix (dv 8) (dv 15) (fun _ _ => rfl)) (nomark _)) da_nil) Z.z_repr (by decide +kernel)) (nomark _)) (dss_one (ds_ret dx_bl)) dss_nil) (dss_cons (ds_setLc (i := 16) (own := [("block", 17)]) rfl sc.nd rfl rfl (sw_true rfl rfl rfl (by decide +kernel)) (di_seq rfl (dv 5)) (blk_in (N := n_law) (by decide +kernel) (by repeat (first | exact trivial | exact Or.inl rfl | exact Or.inr rfl | refine And.intro ?_ ?_))) lt_name (fun _ _ _ _ _ => (pg_name (i := 17) sc.nd rfl (.inl rfl))) (fun _ _ _ _ _ => du_nil) (fun _ _ _ _ _ => (dx_lc (own := [("record", 18)]) rfl sc.nd (di_seq rfl (dv 17)) (blk_in (N := n_law) (by decide +kernel) (by repeat (first | exact trivial | exact Or.inl rfl | exact Or.inr rfl | refine And.intro ?_ ?_))) lt_name (fun _ _ _ _ _ => (pg_name (i := 18) sc.nd rfl (.inl rfl))) (fun _ _ _ _ _ => du_nil) (fun _ _ _ _ _ => (dx_ifExp (dt_cmp (or_eq rfl hr.units) og_eq (dv 18) (dv 14) (nomark _)) (dv 15) (dx_ifExp (dt_cmp (or_eq rfl hr.units) og_eq (dv 18) (dv 15) (nomark _)) (dv 14) (dv 18))))))) (dss_one (ds_if (dt_cmp (or_ne rfl hr.units) og_ne (dx_callB (reprS rfl st hr.units) on_repr (da_cons (dx_callK C_exchanged kb_exchanged st (hr.mono (by decide)) (dk_cons (dv 15) (dk_cons (dv 14) (dk_cons (dv 3) dk_nil)))) da_nil) Z.z_repr (by decide +kernel)) (dx_callB (reprS rfl st hr.units) on_repr (da_cons (dx_tup (db_cons (dv 4) (db_cons (dx_callTy (tupXK rfl) on_tup (da_cons (dx_lc (own := [("block", 17)]) rfl sc.nd (di_seq rfl (dv 16)) (blk_in (N := n_law) (by decide +kernel) (by repeat (first | exact trivial | exact Or.inl rfl | exact Or.inr rfl | refine And.intro ?_ ?_))) lt_name (fun _ _ _ _ _ => (pg_name (i := 17) sc.nd rfl (.inl rfl))) (fun _ _ _ _ _ => du_nil) (fun _ _ _ _ _ => (dx_callTy (tupXK rfl) on_tup (da_cons (dx_callB (srtK rfl) on_srt (da_cons (dv 17) da_nil) Z.z_sorted (by decide +kernel)) da_nil) Z.z_tuple (by decide +kernel)))) da_nil) Z.z_tuple (by decide +kernel)) db_nil))) da_nil) Z.z_repr (by decide +kernel)) (nomark _)) (dss_one (ds_ret dx_bl)) dss_nil))))) dss_nil))))))))))))))))) (dss_one (ds_ret dx_bl))))
end
end Lw
namespace Lw
open PySem PySem.Spec PyProof.Rows L2 Gd Ev
open Classical
theorem cut48 (ns : List Int) : cutA (iL ns) none (some 48) = iL (ns.take 48) := by
  unfold cutA
  rw [show HT.sIx (iL ns).length 0 none = 0 from rfl, show HT.sIx (iL ns).length (iL ns).length (some 48) = min 48 (iL ns).length from HT.sIx_nat _ _ 48]
  rw [List.drop_zero, Nat.sub_zero]
  show _ = (ns.take 48).map A.int
  rw [List.map_take]
  by_cases h : 48 ≤ (iL ns).length
  · rw [Nat.min_eq_left h]
  · have e : (iL ns).length = ns.length := List.length_map ..
    rw [Nat.min_eq_right (by omega), List.take_length, List.take_of_length_le (by rw [List.length_map]; omega)]
theorem wideA {i j : Int} (a b : Nat) (ha : i.natAbs < 2 ^ a) (hb : j.natAbs < 2 ^ b) (h0 : 0 < a := by decide) (h1 : 0 < b := by decide) (h : a + b ≤ 1000000 := by decide) : CMulW i j := wide_mul ha hb h0 h1 h
theorem absI (z : Int) : (if z < 0 then -z else z) = ((z.natAbs : Nat) : Int) := by split <;> omega
theorem draw_ok (ns : List Int) (salt : Int) (h0 : 0 ≤ salt) (h1 : salt ≤ 1000) : ∃ J cs b, Src J cs b ∧ c_law_draw [.frz (iL ns), .int salt] [] = .ok (.tmp [.loc 1, .int b]) [J, .lst (iL cs)] := by
  let ks : List Int := (ns.take 48).map fun z => ((z.natAbs : Nat) : Int)
  have lks : ks.length ≤ 48 := by simp only [ks, List.length_map, List.length_take]; omega
  have pks : ∀ z ∈ ks, 0 ≤ z := fun z hz => by
    obtain ⟨y, _, rfl⟩ := List.mem_map.mp hz
    omega
  have e1 : fLc (fIter (fSl (fVar 0) oN (oS (fC (.int 48))))) [4] (lN 4) uYes (fN bAbs (aC (fN bInt (aC (fVar 4) aN)) aN)) [some (.frz (iL ns)), some (.int salt), none, none, none] [] = .ok (.tmp (iL ks)) [] := by
    have hi : fIter (fSl (fVar 0) oN (oS (fC (.int 48)))) [some (.frz (iL ns)), some (.int salt), none, none, none] [] = .ok (iL (ns.take 48), fun _ => True) [] := by
      rw [← cut48]
      rfl
    unfold fLc
    rw [hi]
    simp only
    rw [lcF_map (val := fun z : Int => A.int ((z.natAbs : Nat) : Int)) trivial (size_big (by rw [List.length_take]; omega)) fun x hx => ⟨_, rfl, by
      rw [← absI]
      rfl⟩]
    simp only [ks, iL, List.map_map]
    rfl
  have e2 : f2 opAdd (fC (.int 7919)) (f2 opMul (fC (.int 104729)) (fVar 1)) [some (.frz (iL ns)), some (.int salt), some (.loc 0), none, none] [.lst (iL ks)] = .ok (.int (7919 + 104729 * salt)) [.lst (iL ks)] := by
    simp only [f2, fC, fVar, List.getElem?_cons_zero, List.getElem?_cons_succ, opMul, opAdd]
    rw [if_pos (wideA 20 20 (by decide) (by omega))]
  -- the loop
  have e3 : ∃ (v : Option A) (b : Int), (0 ≤ b ∧ b < 2 ^ 40) ∧ sFor (fIter (fVar 2)) (gSet 4) (sAsg (f2 opMod (fN bInt (aC (f2 opAdd (f2 opAdd (f2 opMul (fVar 3) (fC (.int 48271))) (f2 opMod (fVar 4) (fC (.int 2147483549)))) (fC (.int 11))) aN)) (fC (.int 2147483647))) (gSet 3))
      [some (.frz (iL ns)), some (.int salt), some (.loc 0), some (.int (7919 + 104729 * salt)), none] [.lst (iL ks)] = .nx [some (.frz (iL ns)), some (.int salt), some (.loc 0), some (.int b), v] [.lst (iL ks)] := by
    unfold sFor
    have hi : fIter (fVar 2) [some (.frz (iL ns)), some (.int salt), some (.loc 0), some (.int (7919 + 104729 * salt)), none] [.lst (iL ks)] = .ok (iL ks, fun st => st[0]? = some (.lst (iL ks))) [.lst (iL ks)] := rfl
    rw [hi]
    simp only
    refine loop_inv (fun xs ρ st => (∃ l : List Int, xs = iL l) ∧ ∃ (v : Option A) (b : Int), 0 ≤ b ∧ b < 2 ^ 40 ∧ ρ = [some (.frz (iL ns)), some (.int salt), some (.loc 0), some (.int b), v] ∧ st = [.lst (iL ks)]) (fun r => ∃ (v : Option A) (b : Int), (0 ≤ b ∧ b < 2 ^ 40) ∧ r = .nx [some (.frz (iL ns)), some (.int salt), some (.loc 0), some (.int b), v] [.lst (iL ks)])
      ⟨⟨ks, rfl⟩, none, _, by omega, by omega, rfl, rfl⟩ (fun xs ρ st ⟨_, v, b, _, _, _, e⟩ => by rw [e]; rfl) ?_ ?_
    · rintro ρ st ⟨_, v, b, hb, hb2, rfl, rfl⟩
      exact ⟨v, b, ⟨hb, hb2⟩, rfl⟩
    · rintro x xs ρ st ⟨⟨l, hl⟩, v, b, hb, hb2, rfl, rfl⟩
      cases l with
      | nil => cases hl
      | cons z l =>
        cases hl
        refine ⟨_, _, rfl, .inl ⟨[some (.frz (iL ns)), some (.int salt), some (.loc 0), some (.int ((b * 48271 + z % 2147483549 + 11) % 2147483647)), some (.int z)], _, .inl ?_, ⟨l, rfl⟩, _, _, Int.emod_nonneg _ (by decide), Int.lt_trans (Int.emod_lt_of_pos _ (by decide)) (by decide), rfl, rfl⟩⟩
        simp only [sAsg, fB, f2, fC, fVar, fN, aC, aN, List.set_cons_zero, List.set_cons_succ, List.getElem?_cons_zero, List.getElem?_cons_succ, opMul, opAdd, opInt, bInt, locd, gSet]
        rw [if_pos (wideA 41 20 (by omega) (by decide))]
        rfl
  obtain ⟨v, b, hb, e3⟩ := e3
  let cs : List Int := (ks.filter fun z => decide ((10 : Int) ^ (18 : Nat) ≤ z)).reverse
  have e4 : fB (fRev (fLc (fIter (fVar 2)) [4] (lN 4) (uB (f2 opGe (fVar 4) (f2 opPow (fC (.int 10)) (fC (.int 18))))) (fVar 4))) [some (.frz (iL ns)), some (.int salt), some (.loc 0), some (.int b), v] [.lst (iL ks)] = .ok (.loc 1) [.lst (iL ks), .lst (iL cs)] := by
    unfold fB fRev fLc
    have hi : fIter (fVar 2) [some (.frz (iL ns)), some (.int salt), some (.loc 0), some (.int b), v] [.lst (iL ks)] = .ok (iL ks, fun st => st[0]? = some (.lst (iL ks))) [.lst (iL ks)] := rfl
    rw [hi]
    simp only
    rw [lcF_filter (f := A.int) (p := fun z : Int => decide ((10 : Int) ^ (18 : Nat) ≤ z)) (val := A.int)]
    · simp only [lstOf, List.nil_append, locd, List.length_cons, List.length_nil, cs, iL, List.map_reverse]
      rfl
    · rfl
    · exact size_big (by simp only [List.length_nil]; omega)
    · intro x hx
      refine ⟨_, rfl, ?_, fun _ => rfl⟩
      simp only [uB, f2, fVar, fC, lN, wipeR, List.set_cons_zero, List.set_cons_succ, List.getElem?_cons_zero, List.getElem?_cons_succ, opInt]
      rw [if_pos (show CPow 10 18 from ⟨by decide, by decide, by decide⟩)]
      rfl
  refine ⟨.lst (iL ks), cs, b, ⟨hb.1, hb.2, fun c hc => pks c ((List.mem_filter.mp (List.mem_reverse.mp hc)).1), ?_⟩, ?_⟩
  · simp only [cs, List.length_reverse]
    exact Nat.le_trans (List.length_filter_le _ _) lks
  · refine defn_rt rfl (st' := [.lst (iL ks), .lst (iL cs)]) (a := .tmp [.loc 1, .int b]) ?_ ?_
    · show g_law_draw [some (.frz (iL ns)), some (.int salt), none, none, none] [] = _
      unfold g_law_draw
      simp only [sSeq, sAsg, fB, e1, locd, gSet, List.nil_append, List.length_nil, List.set_cons_succ, List.set_cons_zero]
      simp only [e2, locd, List.set_cons_succ, List.set_cons_zero, e3, sRet, fN, aC, e4]
      rfl
    · unfold Ev.finish
      rw [if_pos ⟨by simp, fun l hl => by simp at hl⟩]
      exact if_neg (by simp [A.bel, belL])
theorem any_ok {J : O} {cs : List Int} {b : Int} (S : Src J cs b) (suf : Sto) {n : Int} (n0 : 0 < n) (n1 : n < 2 ^ 64) :
    ∃ r cs' b', Src J cs' b' ∧ 0 ≤ r ∧ r < n ∧ c_law_any [.loc 2, .int n] (D3 J cs b suf) = .ok (.int r) (D3 J cs' b' suf) := by
  have ne : ∀ (ρ : Rho) ds b, ρ[0]? = some (some (.loc 2)) → uB (f2 opNe (f2 opIx (fVar 0) (fC (.int 0))) (fN mkLst aN)) ρ (D3 J ds b suf) = .ok (!ds.isEmpty) (D3 J ds b suf) := fun ρ ds b h => by
    refine e_uB (e_f2 (a := .loc 1) (st1 := D3 J ds b suf) (e_f2 (show fVar 0 ρ (D3 J ds b suf) = .ok (.loc 2) (D3 J ds b suf) by unfold fVar; rw [h]) rfl rfl) rfl ?_)
    rw [opNe_nil (xs := iL ds) rfl (fun g => dWs_iL g ds) (shaped_iL ds)]
    cases ds <;> rfl
  have ixz : ∀ (ρ : Rho) es z b, ρ[0]? = some (some (.loc 2)) → f2 opIx (f2 opIx (fVar 0) (fC (.int 0))) (fNeg (fC (.int 1))) ρ (D3 J (es ++ [z]) b suf) = .ok (.int z) (D3 J (es ++ [z]) b suf) := fun ρ es z b h => by
    refine e_f2 (a := .loc 1) (st1 := D3 J (es ++ [z]) b suf) (e_f2 (show fVar 0 ρ (D3 J (es ++ [z]) b suf) = .ok (.loc 2) (D3 J (es ++ [z]) b suf) by unfold fVar; rw [h]) rfl rfl) (e_fNeg rfl) ?_
    show (match atI (iL (es ++ [z])) (-1) with | some x => R.ok x (D3 J (es ++ [z]) b suf) | none => .no) = _
    rw [iL, List.map_append]
    show (match atI (es.map A.int ++ [.int z]) (-1) with | some x => R.ok x (D3 J (es ++ [z]) b suf) | none => .no) = _
    rw [atI_last]
  have pop : ∀ (ρ : Rho) es z b, ρ[0]? = some (some (.loc 2)) → fM mPop (f2 opIx (fVar 0) (fC (.int 0))) aN ρ (D3 J (es ++ [z]) b suf) = .ok (.int z) (D3 J es b suf) := fun ρ es z b h => by
    refine e_fM (a := .loc 1) (st1 := D3 J (es ++ [z]) b suf) (e_f2 (show fVar 0 ρ (D3 J (es ++ [z]) b suf) = .ok (.loc 2) (D3 J (es ++ [z]) b suf) by unfold fVar; rw [h]) rfl rfl) rfl e_aN ?_
    show (match (iL (es ++ [z]))[(iL (es ++ [z])).length - 1]? with | some y => R.ok y ((D3 J (es ++ [z]) b suf).set 1 (.lst (iL (es ++ [z])).dropLast)) | none => .no) = _
    rw [iL, List.map_append]
    simp
    rfl
  -- while deal[0] != [] and deal[0][-1] == 0
  have wh : ∃ ds, Src J ds b ∧ sWhile (uAnd (uB (f2 opNe (f2 opIx (fVar 0) (fC (.int 0))) (fN mkLst aN))) (uB (f2 opEq (f2 opIx (f2 opIx (fVar 0) (fC (.int 0))) (fNeg (fC (.int 1)))) (fC (.int 0))))) (sExp (fM mPop (f2 opIx (fVar 0) (fC (.int 0))) aN)) [some (.loc 2), some (.int n), none] (D3 J cs b suf) = .nx [some (.loc 2), some (.int n), none] (D3 J ds b suf) := by
    refine while_inv (fun ρ' st => ρ' = [some (.loc 2), some (.int n), none] ∧ ∃ ds, Src J ds b ∧ st = D3 J ds b suf) (fun _ (st : Sto) => match st[1]? with | some (O.lst xs) => xs.length | _ => 0) (fun r => ∃ ds, Src J ds b ∧ r = .nx [some (.loc 2), some (.int n), none] (D3 J ds b suf)) ?_ ⟨rfl, cs, S, rfl⟩
    rintro _ _ ⟨rfl, ds, Sd, rfl⟩
    have h1 := ne [some (.loc 2), some (.int n), none] ds b rfl
    rcases List.eq_nil_or_concat ds with rfl | ⟨es, z, e⟩
    · exact .inl ⟨_, e_uAndF h1, [], Sd, rfl⟩
    · rw [List.concat_eq_append] at e
      subst e
      rw [show (!(es ++ [z]).isEmpty) = true by simp] at h1
      have h2 := e_uAndT (v := uB (f2 opEq (f2 opIx (f2 opIx (fVar 0) (fC (.int 0))) (fNeg (fC (.int 1)))) (fC (.int 0)))) h1 (e_uB (e_f2 (ixz [some (.loc 2), some (.int n), none] es z b rfl) rfl (opEq_int z 0 _)))
      by_cases hz : z = 0
      · rw [decide_eq_true hz] at h2
        refine .inr ⟨_, h2, .inl ⟨_, D3 J es b suf, .inl (e_exp (pop _ es z b rfl)), ⟨rfl, es, ⟨Sd.b0, Sd.b1, fun c hc => Sd.c0 c (List.mem_append_left _ hc), by have := Sd.len; simp at this; omega⟩, rfl⟩, ?_⟩⟩
        show (iL es).length < (iL (es ++ [z])).length
        simp [iL]
      · rw [decide_eq_false hz] at h2
        exact .inl ⟨_, h2, _, Sd, rfl⟩
  obtain ⟨ds, Sd, wh⟩ := wh
  have fin : ∀ cs' b' r, finish (D3 J cs b suf) (.int r) (D3 J cs' b' suf) = .ok (.int r) (D3 J cs' b' suf) := fun cs' b' r => by
    have := finish_dry (st := D3 J cs b suf) (st' := D3 J cs' b' (suf ++ [])) (a := .int r) rfl D3_kept
    rw [D3_take, List.append_nil] at this
    exact this
  have h1 := ne [some (.loc 2), some (.int n), none] ds b rfl
  rcases List.eq_nil_or_concat ds with rfl | ⟨es, z, e⟩
  · -- there are none left
    refine ⟨(b * 40693 + 71) % 2147483647 / 64 % n, [], (b * 40693 + 71) % 2147483647, ⟨Int.emod_nonneg _ (by decide), Int.lt_trans (Int.emod_lt_of_pos _ (by decide)) (by decide), fun c hc => absurd hc List.not_mem_nil, by simp⟩, Int.emod_nonneg _ (by omega), Int.emod_lt_of_pos _ n0, ?_⟩
    refine defn_rt rfl ?_ (fin [] _ _)
    refine e_seq wh (e_seq (ρ1 := [some (.loc 2), some (.int n), none]) (st1 := D3 J [] b suf) (e_ifF h1 rfl) (e_seq (ρ1 := [some (.loc 2), some (.int n), none]) (st1 := D3 J [] ((b * 40693 + 71) % 2147483647) suf) ?_ ?_))
    · repeat' (first | exact e_aN | exact e_oN | assumption | apply e_f2 | apply e_fN | apply e_fNK | apply e_aC | apply e_fB | apply e_fM | apply e_fMT | apply e_fNeg | apply e_fNot | apply e_fSl | apply e_oS | apply e_uB | apply e_uT | apply e_uNot | apply e_exp | apply e_ret | apply e_asg | apply e_par | apply e_sub | apply e_augI | apply e_mul | apply e_div | apply e_mod | apply e_pow | exact opEq_int _ _ _ | exact opNe_int _ _ _ | rfl)
      · exact wideA 41 20 (by have := Sd.b0; have := Sd.b1; omega) (by decide)
      · decide
    · repeat' (first | exact e_aN | exact e_oN | assumption | apply e_f2 | apply e_fN | apply e_fNK | apply e_aC | apply e_fB | apply e_fM | apply e_fMT | apply e_fNeg | apply e_fNot | apply e_fSl | apply e_oS | apply e_uB | apply e_uT | apply e_uNot | apply e_exp | apply e_ret | apply e_asg | apply e_par | apply e_sub | apply e_augI | apply e_mul | apply e_div | apply e_mod | apply e_pow | exact opEq_int _ _ _ | exact opNe_int _ _ _ | rfl)
      exact ⟨by decide, by decide⟩
  · rw [List.concat_eq_append] at e
    subst e
    rw [show (!(es ++ [z]).isEmpty) = true by simp] at h1
    have z0 : 0 ≤ z := Sd.c0 z (by simp)
    refine ⟨z % n, es ++ [z / n], b, ⟨Sd.b0, Sd.b1, fun c hc => ?_, by have := Sd.len; simp at this ⊢; omega⟩, Int.emod_nonneg _ (by omega), Int.emod_lt_of_pos _ n0, ?_⟩
    · rcases List.mem_append.mp hc with h | h
      · exact Sd.c0 c (List.mem_append_left _ h)
      · rw [List.mem_singleton.mp h]
        exact Int.ediv_nonneg z0 (by omega)
    · refine defn_rt rfl ?_ (fin (es ++ [z / n]) b _)
      have lz : (iL es).length < sizeLine := size_big (by have := Sd.len; simp at this; simp [iL]; omega)
      have app : fM mApp (f2 opIx (fVar 0) (fC (.int 0))) (aC (fB (f2 opDiv (fVar 2) (fVar 1))) aN) [some (.loc 2), some (.int n), some (.int z)] (D3 J es b suf) = .ok .non (D3 J (es ++ [z / n]) b suf) := by
        refine e_fM (a := .loc 1) (st1 := D3 J es b suf) rfl rfl (e_aC (e_fB (e_f2 rfl rfl (e_div (wide_div n0 (b := 64) (by omega) (by decide) (by decide)))) rfl) e_aN) ?_
        show (if (iL es).length < sizeLine then R.ok A.non ((D3 J es b suf).set 1 (.lst (iL es ++ [.int (z / n)]))) else .no) = _
        rw [if_pos lz]
        have e9 : iL (es ++ [z / n]) = iL es ++ [.int (z / n)] := List.map_append
        unfold D3
        rw [e9]
        rfl
      refine e_seq wh (e_seqR (e_ifT h1 (e_seq (ρ1 := [some (.loc 2), some (.int n), some (.int z)]) (st1 := D3 J es b suf) (e_asg (e_fB (e_fN (e_aC (pop _ es z b rfl) e_aN) rfl) rfl) rfl) (e_seq (e_exp app) ?_))))
      repeat' (first | exact e_aN | exact e_oN | assumption | apply e_f2 | apply e_fN | apply e_fNK | apply e_aC | apply e_fB | apply e_fM | apply e_fMT | apply e_fNeg | apply e_fNot | apply e_fSl | apply e_oS | apply e_uB | apply e_uT | apply e_uNot | apply e_exp | apply e_ret | apply e_asg | apply e_par | apply e_sub | apply e_augI | apply e_mul | apply e_div | apply e_mod | apply e_pow | exact opEq_int _ _ _ | exact opNe_int _ _ _ | rfl)
theorem of_ok {J : O} {cs : List Int} {b : Int} (S : Src J cs b) (suf : Sto) {s : A} {xs : List A} (h : ∀ cs b, seqOf s (D3 J cs b suf) = some xs) (h2 : ∀ z, s ≠ .str z) (hs : s.nt) (x0 : xs ≠ []) (xl : xs.length ≤ 1000) (xd : ∀ x ∈ xs, x.dry = true) :
    ∃ x cs' b', Src J cs' b' ∧ x ∈ xs ∧ c_law_of [.loc 2, s] (D3 J cs b suf) = .ok x (D3 J cs' b' suf) := by
  have xp : 0 < xs.length := List.length_pos_iff.mpr x0
  obtain ⟨r, cs', b', S', r0, r1, e⟩ := any_ok S suf (n := (xs.length : Int)) (by omega) (by omega)
  obtain ⟨k, rfl⟩ : ∃ k : Nat, r = (k : Int) := ⟨r.toNat, by omega⟩
  have hk : k < xs.length := by omega
  have hl : bLen [s] (D3 J cs b suf) = .ok (.int xs.length) (D3 J cs b suf) := by
    cases s with
    | str z => exact absurd rfl (h2 z)
    | _ => unfold bLen; simp only [h]
  have ll : locd s (D3 J cs b suf) = .ok s (D3 J cs b suf) := by
    cases s with
    | tmp _ => exact hs.elim
    | dtm _ => exact hs.elim
    | _ => rfl
  have hi : opIx s (.int (k : Int)) (D3 J cs' b' suf) = .ok xs[k] (D3 J cs' b' suf) := by
    have ha : atI xs ((k : Nat) : Int) = some xs[k] := atI_nat (List.getElem?_eq_getElem hk)
    cases s with
    | str z => exact absurd rfl (h2 z)
    | _ => unfold opIx; simp only [h, ha]
  refine ⟨xs[k], cs', b', S', List.getElem_mem hk, defn_rt rfl (e_ret (e_f2 (a := s) rfl (e_fN (e_aC (e_fB rfl rfl) (e_aC (e_fB (e_fN (e_aC (a := s) rfl e_aN) hl) rfl) e_aN)) e) hi)) ?_⟩
  have := finish_dry (st := D3 J cs b suf) (st' := D3 J cs' b' (suf ++ [])) (a := xs[k]) (xd _ (List.getElem_mem hk)) D3_kept
  rw [D3_take, List.append_nil] at this
  exact this
end Lw
namespace Lw
open PySem PySem.Spec PyProof.Rows L2 Gd Ev
open Classical
open Wi
/-- whether it is a number -/
def numA : A → Bool
  | .int i => decide (0 ≤ i)
  | _ => false
theorem is_whole_ok {a : A} {st : Sto} {t : Ty} (h : tyA a st = some t) : c_is_whole [a] st = .ok (.bl (t.is .int && !t.is .bl)) st := by
  refine defn_rt rfl (e_ret (e_fAnd (k := t.is .int) (k2 := !t.is .bl) ?_ ?_)) ?_
  · show (match R.ok a st with | .ok a st1 => (match tyA a st1 with | some t => R.ok (A.bl (t.is .int)) st1 | none => .no) | .no => .no) = _
    simp only [h]
  · intro _
    refine e_fNot (x := t.is .bl) ?_
    show (match R.ok a st with | .ok a st1 => (match tyA a st1 with | some t => R.ok (A.bl (t.is .bl)) st1 | none => .no) | .no => .no) = _
    simp only [h]
  · have := finish_pure (st := st) (suf := []) (a := .bl (t.is .int && !t.is .bl)) rfl
    rw [List.append_nil] at this
    exact this
theorem is_number_ok {a : A} {st : Sto} {t : Ty} (h : tyA a st = some t) (hn : a.nt) : c_is_number [a] st = .ok (.bl (numA a)) st := by
  have hl : locd a st = .ok a st := by
    cases a with
    | tmp _ => exact hn.elim
    | dtm _ => exact hn.elim
    | _ => rfl
  refine defn_rt rfl (e_ret ?_) (fin0 rfl)
  have e1 : fN c_is_whole (aC (fB (fVar 0)) aN) [some a] st = .ok (.bl (t.is .int && !t.is .bl)) st := e_fN (e_aC (e_fB (a := a) rfl hl) e_aN) (is_whole_ok h)
  by_cases hi : ∃ i, a = .int i
  · obtain ⟨i, rfl⟩ := hi
    cases h
    exact e_fAnd (k := true) (k2 := decide (0 ≤ i)) e1 fun _ => rfl
  · have e2 : (t.is .int && !t.is .bl) = false := by
      cases a with
      | int i => exact absurd ⟨i, rfl⟩ hi
      | loc l =>
        unfold tyA at h
        simp only at h
        split at h <;> cases h <;> rfl
      | _ => cases h; rfl
    rw [e2] at e1
    have e3 : numA a = false := by
      cases a with
      | int i => exact absurd ⟨i, rfl⟩ hi
      | _ => rfl
    rw [e3]
    unfold fAnd
    show (match fN c_is_whole (aC (fB (fVar 0)) aN) [some a] st with | .ok (.bl true) st1 => _ | .ok (.bl false) st1 => _ | _ => _) = _
    rw [e1]
/-- a standing's blocks -/
theorem ixB {b : Nat} {rows : List (List Nat)} {st : Sto} : opIx (sD b rows) (.int 1) st = .ok (tR rows) st := rfl
theorem cnt_of (g : FS) (hg : g = sRet (fN bSum (aC (fLc (fIter (f2 opIx (fVar 0) (fC (.int 1)))) [1] (lN 1) uYes (fN bLen (aC (fVar 1) aN))) aN))) {b : Nat} {rows : List (List Nat)} {st : Sto} (h : rows.length ≤ 1000000) :
    defn 1 1 g [sD b rows] st = .ok (.int (cntR rows : Nat)) st := by
  subst hg
  refine defn_rt rfl (e_ret (e_fN (as := [.tmp (rows.map fun r => .int (r.length : Nat))]) (st1 := st) (e_aC (e_lc (xs := rows.map tN) (G := fun _ => True) (st1 := st) rfl ?_) e_aN) ?_)) (fin0 rfl)
  · exact lcF_map (f := tN) (val := fun r => .int (r.length : Nat)) trivial (size_big h) fun r _ => ⟨_, rfl, by
      refine e_fB (a := .int (r.length : Nat)) (st1 := st) (e_fN (e_aC (a := tN r) rfl e_aN) ?_) rfl
      exact len_tN r st⟩
  · have e : (rows.map fun r => A.int (r.length : Nat)) = (rows.map List.length |>.map fun n : Nat => (n : Int)).map A.int := by
      rw [List.map_map, List.map_map]
      rfl
    rw [e]
    show (match intsOf (((rows.map List.length).map fun n : Nat => (n : Int)).map A.int) with | some ns => R.ok (A.int ns.sum) st | none => .no) = _
    rw [intsOf_map]
    show R.ok (A.int ((rows.map List.length).map fun n : Nat => (n : Int)).sum) st = _
    rw [sumI]
    rfl
theorem record_count_ok {b : Nat} {rows : List (List Nat)} {st : Sto} (h : rows.length ≤ 1000000) : c_record_count [sD b rows] st = .ok (.int (cntR rows : Nat)) st := cnt_of _ rfl h
theorem law_count_ok {b : Nat} {rows : List (List Nat)} {st : Sto} (h : rows.length ≤ 1000000) : c_law_count [sD b rows] st = .ok (.int (cntR rows : Nat)) st := cnt_of _ rfl h
/-- the crowd of a block -/
def crowdN (ws : List Nat) (many : Nat) (xs : List Nat) : List Nat := (List.range many).map fun a => (xs.map (wt ws)).count a
theorem crowd_ok {xs ws : List Nat} {many : Nat} {st : Sto} (hm : many ≤ 1000000) (h : ∀ r ∈ xs, r < ws.length ∧ wt ws r < many) : c_crowd [tN xs, tN ws, .int (many : Int)] st = .ok (tN (crowdN ws many xs)) st := by
  have loop : ∃ v, loopF (sAugS (fVar 3) (f2 opIx (fVar 1) (fVar 4)) (fC (.int 1)) opAddI) (gSet 4) (fun _ => True) (nL xs) [some (tN xs), some (tN ws), some (.int (many : Int)), some (.loc st.length), none] (st ++ [.lst (nL (List.replicate many 0))])
      = .nx [some (tN xs), some (tN ws), some (.int (many : Int)), some (.loc st.length), v] (st ++ [.lst (nL (tally (List.replicate many 0) (xs.map (wt ws))))]) := by
    have := loop_fold (body := sAugS (fVar 3) (f2 opIx (fVar 1) (fVar 4)) (fC (.int 1)) opAddI) (g := gSet 4) (G := fun _ => True) (f := fun n : Nat => A.int (n : Int)) (β := Option A × List Nat)
      (fun s => [some (tN xs), some (tN ws), some (.int (many : Int)), some (.loc st.length), s.1]) (fun s => st ++ [.lst (nL s.2)]) (fun s r => (some (.int (r : Int)), s.2.set (wt ws r) (s.2.getD (wt ws r) 0 + 1))) (fun s => s.2.length = many)
      (xs := xs) (b := (none, List.replicate many 0)) (List.length_replicate ..) (fun _ _ => trivial) fun s r hr hs => by
        obtain ⟨h1, h2⟩ := h r hr
        refine ⟨by simpa using hs, _, _, rfl, .inl ?_⟩
        show sAugS (fVar 3) (f2 opIx (fVar 1) (fVar 4)) (fC (.int 1)) opAddI [some (tN xs), some (tN ws), some (.int (many : Int)), some (.loc st.length), some (.int (r : Int))] (st ++ [.lst (nL s.2)]) = _
        unfold sAugS
        have e1 : f2 opIx (fVar 1) (fVar 4) [some (tN xs), some (tN ws), some (.int (many : Int)), some (.loc st.length), some (.int (r : Int))] (st ++ [.lst (nL s.2)]) = .ok (.int ((wt ws r : Nat) : Int)) (st ++ [.lst (nL s.2)]) := e_f2 (a := tN ws) rfl (b := .int (r : Int)) rfl (ixT h1)
        have h3 : wt ws r < s.2.length := by rw [hs]; exact h2
        have e3 : ixN (nL s.2).length ((wt ws r : Nat) : Int) = some (wt ws r) := ixN_nat (by rw [len_nL]; omega)
        show (match f2 opIx (fVar 1) (fVar 4) [some (tN xs), some (tN ws), some (.int (many : Int)), some (.loc st.length), some (.int (r : Int))] (st ++ [.lst (nL s.2)]) with | .ok i st2 => _ | .no => _) = _
        rw [e1]
        simp only [end_lst, ix_nL h3, fC, opAddI, setA, end_get, e3]
        rw [show ((wt s.2 (wt ws r) : Nat) : Int) + 1 = ((s.2.getD (wt ws r) 0 + 1 : Nat) : Int) by unfold wt; omega, set_nL, end_set]
    have e : ∀ (l : List Nat) (s : Option A × List Nat), (l.foldl (fun s (r : Nat) => (some (A.int (r : Int)), s.2.set (wt ws r) (s.2.getD (wt ws r) 0 + 1))) s).2 = tally s.2 (l.map (wt ws)) := by
      intro l
      induction l with
      | nil => intro s; rfl
      | cons x l ih => intro s; exact ih _
    have z := this.1
    rw [e] at z
    exact ⟨_, z⟩
  obtain ⟨v, loop⟩ := loop
  refine defn_rt rfl (st' := st ++ [.lst (nL (tally (List.replicate many 0) (xs.map (wt ws))))]) (a := tN (crowdN ws many xs)) ?_ (finish_pure (dry_tN _))
  refine e_seq (ρ1 := [some (tN xs), some (tN ws), some (.int (many : Int)), some (.loc st.length), none]) (st1 := st ++ [.lst (nL (List.replicate many 0))]) (e_asg (e_fB (e_f2 (a := .tmp [.int 0]) (st1 := st) rfl (b := .int (many : Int)) rfl (zeros hm)) rfl) rfl) (e_seq (e_for (xs := nL xs) (G := fun _ => True) rfl loop) (e_ret (e_fN (e_aC (a := .loc st.length) rfl e_aN) ?_)))
  rw [bTup_end]
  rw [tally_zero (fun g hg => by
    obtain ⟨r, hr, rfl⟩ := List.mem_map.mp hg
    exact (h r hr).2)]
  rfl
end Lw
namespace Lw
open PySem PySem.Spec PyProof.Rows L2 Gd Ev
open Classical
open Wi
theorem crowds_ok {b : Nat} {rows : List (List Nat)} {ws : List Nat} {st : Sto} (hm : rows.length ≤ 1000000) (h : ∀ xs ∈ rows, ∀ r ∈ xs, r < ws.length ∧ wt ws r < rows.length) : c_crowds [sD b rows, tN ws] st = .ok (tR (rows.map (crowdN ws rows.length))) st := by
  refine defn_rt rfl (e_seq (ρ1 := [some (sD b rows), some (tN ws), some (tR rows), none]) (st1 := st) (e_asg (e_fB (e_f2 rfl rfl ixB) rfl) rfl) (e_ret (e_fN (as := [.tmp (rows.map fun xs => tN (crowdN ws rows.length xs))]) (st1 := st) (e_aC (e_lc (xs := rows.map tN) (G := fun _ => True) (st1 := st) rfl ?_) e_aN) ?_))) (fin0 (dry_tR _))
  · exact lcF_map (f := tN) (val := fun xs => tN (crowdN ws rows.length xs)) trivial (size_big hm) fun xs hx => ⟨_, rfl, by
      refine e_fB (e_fN (e_aC (e_fB (a := tN xs) rfl rfl) (e_aC (e_fB (a := tN ws) rfl rfl) (e_aC (e_fB (a := .int (rows.length : Nat)) (e_fN (e_aC (a := tR rows) rfl e_aN) (len_tR _ _)) rfl) e_aN))) (crowd_ok hm (h xs hx))) rfl⟩
  · show R.ok (A.tup (rows.map fun xs => tN (crowdN ws rows.length xs))) st = R.ok (A.tup ((rows.map (crowdN ws rows.length)).map tN)) st
    rw [List.map_map]
    rfl
theorem cnt_filter (f : Nat → Nat) (xs : List Nat) (a : Nat) : (xs.filter fun r => decide (f r = a)).length = (xs.map f).count a := by
  rw [List.count_eq_countP, List.countP_map, List.countP_eq_length_filter]
  congr 1
theorem law_crowds_ok {b : Nat} {rows : List (List Nat)} {ws : List Nat} {st : Sto} (hm : rows.length ≤ 1000000) (h : ∀ xs ∈ rows, xs.length ≤ 1000000 ∧ ∀ r ∈ xs, r < ws.length) : c_law_crowds [sD b rows, tN ws] st = .ok (tR (rows.map (crowdN ws rows.length))) st := by
  refine defn_rt rfl (e_seq (ρ1 := [some (sD b rows), some (tN ws), some (.int (rows.length : Nat)), none, none, none]) (st1 := st) (e_asg (e_fB (e_fN (e_aC (e_f2 rfl rfl ixB) e_aN) (len_tR _ _)) rfl) rfl) (e_ret (e_fN (as := [.tmp (rows.map fun xs => tN (crowdN ws rows.length xs))]) (st1 := st) (e_aC (e_lc (xs := rows.map tN) (G := fun _ => True) (st1 := st) rfl ?_) e_aN) ?_))) (fin0 (dry_tR _))
  · refine lcF_map (f := tN) (val := fun xs => tN (crowdN ws rows.length xs)) trivial (size_big hm) fun xs hx => ⟨_, rfl, ?_⟩
    obtain ⟨hl, hr⟩ := h xs hx
    refine e_fB (e_fN (as := [.tmp ((List.range rows.length).map fun a => .int (((xs.map (wt ws)).count a : Nat) : Int))]) (st1 := st) (e_aC (e_lc (xs := nL (List.range rows.length)) (G := fun _ => True) (st1 := st) (fRg1_nat rfl hm) ?_) e_aN) (r := .ok (tN (crowdN ws rows.length xs)) st) ?_) rfl
    · refine lcF_map (f := fun n : Nat => A.int (n : Int)) (val := fun a => .int (((xs.map (wt ws)).count a : Nat) : Int)) trivial (size_big (by rw [List.length_range]; exact hm)) fun a ha => ⟨_, rfl, ?_⟩
      refine e_fB (e_fN (as := [.tmp ((xs.filter fun r => decide (wt ws r = a)).map fun n : Nat => A.int (n : Int))]) (st1 := st) (e_aC (e_lc (xs := nL xs) (G := fun _ => True) (st1 := st) rfl ?_) e_aN) (r := .ok (.int (((xs.map (wt ws)).count a : Nat) : Int)) st) ?_) rfl
      · refine (lcF_filter (f := fun n : Nat => A.int (n : Int)) (p := fun r => decide (wt ws r = a)) (val := fun n : Nat => A.int (n : Int)) trivial (acc := []) (size_big (by simpa using hl)) fun r hr' => ⟨_, rfl, ?_, fun _ => rfl⟩)
        refine e_uB (e_f2 (e_f2 (a := tN ws) rfl (b := .int (r : Int)) rfl (ixT (hr r hr'))) (b := .int (a : Int)) rfl ?_)
        rw [opEq_int, eqI]
      · show R.ok (A.int (((xs.filter fun r => decide (wt ws r = a)).map fun n : Nat => A.int (n : Int)).length : Nat)) st = _
        rw [List.length_map, cnt_filter]
    · show R.ok (A.tup ((List.range rows.length).map fun a => A.int (((xs.map (wt ws)).count a : Nat) : Int))) st = R.ok (A.tup (nL (crowdN ws rows.length xs))) st
      rw [crowdN, nL, List.map_map]
      rfl
  · show R.ok (A.tup (rows.map fun xs => tN (crowdN ws rows.length xs))) st = R.ok (A.tup ((rows.map (crowdN ws rows.length)).map tN)) st
    rw [List.map_map]
    rfl
theorem alike_ok {s : A} {ws : List Nat} {i j : Nat} {st : Sto} (hi : i < ws.length) (hj : j < ws.length) : c_alike_records [s, tN ws, .int (i : Int), .int (j : Int)] st = .ok (.bl (decide (wt ws i = wt ws j))) st := by
  refine defn_rt rfl (e_ret (e_f2 (e_f2 (a := tN ws) rfl (b := .int (i : Int)) rfl (ixT hi)) (e_f2 (a := tN ws) rfl (b := .int (j : Int)) rfl (ixT hj)) ?_)) (fin0 rfl)
  rw [opEq_int, eqI]
theorem renamed_wish_ok {ws names : List Nat} {st : Sto} (hl : ws.length ≤ 1000000) (h : ∀ g ∈ ws, g < names.length) : c_renamed_wish [tN ws, tN names] st = .ok (tN (ws.map (wt names))) st := by
  refine defn_rt rfl (e_ret (e_fN (as := [.tmp (ws.map fun g => .int ((wt names g : Nat) : Int))]) (st1 := st) (e_aC (e_lc (xs := nL ws) (G := fun _ => True) (st1 := st) rfl ?_) e_aN) ?_)) (fin0 (dry_tN _))
  · exact lcF_map (f := fun n : Nat => A.int (n : Int)) (val := fun g => .int ((wt names g : Nat) : Int)) trivial (size_big hl) fun g hg => ⟨_, rfl, e_fB (e_f2 (a := tN names) rfl (b := .int (g : Int)) rfl (ixT (h g hg))) rfl⟩
  · show R.ok (A.tup (ws.map fun g => A.int ((wt names g : Nat) : Int))) st = R.ok (A.tup ((ws.map (wt names)).map fun n : Nat => A.int (n : Int))) st
    rw [List.map_map]
    rfl
/-- a walk with places -/
abbrev prF (p : List Nat × Nat) : A := .pr (.int (p.2 : Int)) (tN p.1)
theorem enum_rows (rows : List (List Nat)) : enumA (rows.map tN) = rows.zipIdx.map prF := by
  unfold enumA
  rw [List.zipIdx_map, List.map_map]
  rfl
theorem places_fold (rows : List (List Nat)) : ∀ a f, (rows.zipIdx a).foldl (fun f p => setRow p.2 p.1 f) f = placesGo a rows f := by
  induction rows with
  | nil => intro a f; rfl
  | cons xs rows ih =>
    intro a f
    rw [List.zipIdx_cons]
    exact ih _ _
end Lw
namespace Lw
open PySem PySem.Spec PyProof.Rows L2 Gd Ev
open Classical
open Wi

theorem law_places_loop {S S2 : A} {rows : List (List Nat)} {f0 : List Nat} {st : Sto} (h : ∀ xs ∈ rows, ∀ r ∈ xs, r < f0.length) : ∃ u v w, loopF (sFor (fIter (fVar 3)) (gSet 4) (sAsg (fVar 2) (gSubF (fVar 1) (fVar 4)))) (gTupF 2 (gC (gSet 2) (gC (gSet 3) gN))) (fun _ => True) (enumA (rows.map tN)) [some S, some (.loc st.length), none, none, none] (st ++ [.lst (nL f0)])
    = .nx [some S, some (.loc st.length), u, v, w] (st ++ [.lst (nL (placesGo 0 rows f0))]) := by
  have inner : ∀ (xs : List Nat) (a : Nat) (w : Option A) (f : List Nat), (∀ r ∈ xs, r < f.length) → loopF (sAsg (fVar 2) (gSubF (fVar 1) (fVar 4))) (gSet 4) (fun _ => True) (nL xs) [some S, some (.loc st.length), some (.int (a : Int)), some (tN xs), w] (st ++ [.lst (nL f)])
      = .nx [some S, some (.loc st.length), some (.int (a : Int)), some (tN xs), xs.foldl (fun _ r => some (.int ((r : Nat) : Int))) w] (st ++ [.lst (nL (setRow a xs f))]) := by
    intro xs a w f hf
    have := (loop_fold (body := sAsg (fVar 2) (gSubF (fVar 1) (fVar 4))) (g := gSet 4) (G := fun _ => True) (f := fun n : Nat => A.int (n : Int)) (β := Option A × List Nat)
      (fun s => [some S, some (.loc st.length), some (.int (a : Int)), some (tN xs), s.1]) (fun s => st ++ [.lst (nL s.2)]) (fun s r => (some (.int ((r : Nat) : Int)), s.2.set r a)) (fun s => s.2.length = f.length) (xs := xs) (b := (w, f)) rfl (fun _ _ => trivial) fun s r hr hs => by
        refine ⟨by simpa using hs, _, _, rfl, .inl ?_⟩
        refine e_asg (a := .int (a : Int)) (st1 := st ++ [.lst (nL s.2)]) rfl (e_sub (o := .loc st.length) rfl (i := .int (r : Int)) rfl ?_)
        have e3 : ixN (nL s.2).length ((r : Nat) : Int) = some r := ixN_nat (by rw [len_nL]; have := hf r hr; have : s.2.length = f.length := hs; omega)
        unfold setA
        simp only [end_get, e3]
        rw [set_nL, end_set]).1
    have e : ∀ (l : List Nat) (s : Option A × List Nat), l.foldl (fun s (r : Nat) => ((some (.int ((r : Nat) : Int)) : Option A), s.2.set r a)) s = (l.foldl (fun _ r => some (.int ((r : Nat) : Int))) s.1, setRow a l s.2) := by
      intro l
      induction l with
      | nil => intro s; rfl
      | cons x l ih => intro s; exact ih _
    rw [e] at this
    exact this
  rw [enum_rows]
  have := (loop_fold (body := sFor (fIter (fVar 3)) (gSet 4) (sAsg (fVar 2) (gSubF (fVar 1) (fVar 4)))) (g := gTupF 2 (gC (gSet 2) (gC (gSet 3) gN))) (G := fun _ => True) (f := prF) (β := (Option A × Option A × Option A) × List Nat)
      (fun s => [some S, some (.loc st.length), s.1.1, s.1.2.1, s.1.2.2]) (fun s => st ++ [.lst (nL s.2)]) (fun s p => ((some (.int (p.2 : Int)), some (tN p.1), p.1.foldl (fun _ r => some (.int ((r : Nat) : Int))) s.1.2.2), setRow p.2 p.1 s.2)) (fun s => s.2.length = f0.length) (xs := rows.zipIdx) (b := ((none, none, none), f0)) rfl (fun _ _ => trivial) fun s p hp hs => by
        refine ⟨by rw [setRow_len]; exact hs, _, _, rfl, .inl ?_⟩
        refine e_for (xs := nL p.1) (G := fun _ => True) rfl ?_
        exact inner p.1 p.2 s.1.2.2 s.2 fun r hr => by
          have : s.2.length = f0.length := hs
          rw [this]
          have hm : p.1 ∈ rows := by
            obtain ⟨a, i⟩ := p
            exact List.mem_of_getElem? (List.mem_zipIdx_iff_getElem?.mp hp)
          exact h _ hm r hr).1
  have e : ∀ (l : List (List Nat × Nat)) (s : (Option A × Option A × Option A) × List Nat), (l.foldl (fun s (p : List Nat × Nat) => (((some (.int (p.2 : Int)), some (tN p.1), p.1.foldl (fun _ r => some (.int ((r : Nat) : Int))) s.1.2.2) : Option A × Option A × Option A), setRow p.2 p.1 s.2)) s).2 = l.foldl (fun f p => setRow p.2 p.1 f) s.2 := by
    intro l
    induction l with
    | nil => intro s; rfl
    | cons x l ih => intro s; exact ih _
  rw [e, places_fold] at this
  exact ⟨_, _, _, this⟩
theorem law_places_ok {b b2 : Nat} {rows rows2 : List (List Nat)} {st : Sto} (hm : rows.length ≤ 1000000) (hc : cntR rows ≤ 1000000) (h : ∀ xs ∈ rows, ∀ r ∈ xs, r < cntR rows) : c_law_places [sD b rows] st = .ok (tN (placesGo 0 rows (List.replicate (cntR rows) 0))) st := by
  obtain ⟨u, v, w, e⟩ := law_places_loop (S := sD b rows) (S2 := sD b2 rows2) (rows := rows) (f0 := List.replicate (cntR rows) 0) (st := st) (by rw [List.length_replicate]; exact h)
  refine defn_rt rfl (st' := st ++ [.lst (nL (placesGo 0 rows (List.replicate (cntR rows) 0)))]) (a := tN (placesGo 0 rows (List.replicate (cntR rows) 0))) ?_ (finish_pure (dry_tN _))
  refine e_seq (ρ1 := [some (sD b rows), some (.loc st.length), none, none, none]) (st1 := st ++ [.lst (nL (List.replicate (cntR rows) 0))]) (e_asg (e_fB (e_f2 (a := .tmp [.int 0]) (st1 := st) rfl (b := .int (cntR rows : Nat)) (e_fN (e_aC (e_fB (a := sD b rows) rfl rfl) e_aN) (law_count_ok hm)) (zeros hc)) rfl) rfl) (e_seq (e_for (xs := enumA (rows.map tN)) (G := fun _ => True) rfl e) (e_ret (e_fN (e_aC (a := .loc st.length) rfl e_aN) (bTup_end _ _))))

theorem wish_of_loop {S S2 : A} {rows : List (List Nat)} {f0 : List Nat} {st : Sto} (h : ∀ xs ∈ rows, ∀ r ∈ xs, r < f0.length) : ∃ u v w, loopF (sFor (fIter (fVar 4)) (gSet 5) (sAsg (fVar 3) (gSubF (fVar 2) (fVar 5)))) (gTupF 2 (gC (gSet 3) (gC (gSet 4) gN))) (fun _ => True) (enumA (rows.map tN)) [some S, some S2, some (.loc st.length), none, none, none] (st ++ [.lst (nL f0)])
    = .nx [some S, some S2, some (.loc st.length), u, v, w] (st ++ [.lst (nL (placesGo 0 rows f0))]) := by
  have inner : ∀ (xs : List Nat) (a : Nat) (w : Option A) (f : List Nat), (∀ r ∈ xs, r < f.length) → loopF (sAsg (fVar 3) (gSubF (fVar 2) (fVar 5))) (gSet 5) (fun _ => True) (nL xs) [some S, some S2, some (.loc st.length), some (.int (a : Int)), some (tN xs), w] (st ++ [.lst (nL f)])
      = .nx [some S, some S2, some (.loc st.length), some (.int (a : Int)), some (tN xs), xs.foldl (fun _ r => some (.int ((r : Nat) : Int))) w] (st ++ [.lst (nL (setRow a xs f))]) := by
    intro xs a w f hf
    have := (loop_fold (body := sAsg (fVar 3) (gSubF (fVar 2) (fVar 5))) (g := gSet 5) (G := fun _ => True) (f := fun n : Nat => A.int (n : Int)) (β := Option A × List Nat)
      (fun s => [some S, some S2, some (.loc st.length), some (.int (a : Int)), some (tN xs), s.1]) (fun s => st ++ [.lst (nL s.2)]) (fun s r => (some (.int ((r : Nat) : Int)), s.2.set r a)) (fun s => s.2.length = f.length) (xs := xs) (b := (w, f)) rfl (fun _ _ => trivial) fun s r hr hs => by
        refine ⟨by simpa using hs, _, _, rfl, .inl ?_⟩
        refine e_asg (a := .int (a : Int)) (st1 := st ++ [.lst (nL s.2)]) rfl (e_sub (o := .loc st.length) rfl (i := .int (r : Int)) rfl ?_)
        have e3 : ixN (nL s.2).length ((r : Nat) : Int) = some r := ixN_nat (by rw [len_nL]; have := hf r hr; have : s.2.length = f.length := hs; omega)
        unfold setA
        simp only [end_get, e3]
        rw [set_nL, end_set]).1
    have e : ∀ (l : List Nat) (s : Option A × List Nat), l.foldl (fun s (r : Nat) => ((some (.int ((r : Nat) : Int)) : Option A), s.2.set r a)) s = (l.foldl (fun _ r => some (.int ((r : Nat) : Int))) s.1, setRow a l s.2) := by
      intro l
      induction l with
      | nil => intro s; rfl
      | cons x l ih => intro s; exact ih _
    rw [e] at this
    exact this
  rw [enum_rows]
  have := (loop_fold (body := sFor (fIter (fVar 4)) (gSet 5) (sAsg (fVar 3) (gSubF (fVar 2) (fVar 5)))) (g := gTupF 2 (gC (gSet 3) (gC (gSet 4) gN))) (G := fun _ => True) (f := prF) (β := (Option A × Option A × Option A) × List Nat)
      (fun s => [some S, some S2, some (.loc st.length), s.1.1, s.1.2.1, s.1.2.2]) (fun s => st ++ [.lst (nL s.2)]) (fun s p => ((some (.int (p.2 : Int)), some (tN p.1), p.1.foldl (fun _ r => some (.int ((r : Nat) : Int))) s.1.2.2), setRow p.2 p.1 s.2)) (fun s => s.2.length = f0.length) (xs := rows.zipIdx) (b := ((none, none, none), f0)) rfl (fun _ _ => trivial) fun s p hp hs => by
        refine ⟨by rw [setRow_len]; exact hs, _, _, rfl, .inl ?_⟩
        refine e_for (xs := nL p.1) (G := fun _ => True) rfl ?_
        exact inner p.1 p.2 s.1.2.2 s.2 fun r hr => by
          have : s.2.length = f0.length := hs
          rw [this]
          have hm : p.1 ∈ rows := by
            obtain ⟨a, i⟩ := p
            exact List.mem_of_getElem? (List.mem_zipIdx_iff_getElem?.mp hp)
          exact h _ hm r hr).1
  have e : ∀ (l : List (List Nat × Nat)) (s : (Option A × Option A × Option A) × List Nat), (l.foldl (fun s (p : List Nat × Nat) => (((some (.int (p.2 : Int)), some (tN p.1), p.1.foldl (fun _ r => some (.int ((r : Nat) : Int))) s.1.2.2) : Option A × Option A × Option A), setRow p.2 p.1 s.2)) s).2 = l.foldl (fun f p => setRow p.2 p.1 f) s.2 := by
    intro l
    induction l with
    | nil => intro s; rfl
    | cons x l ih => intro s; exact ih _
  rw [e, places_fold] at this
  exact ⟨_, _, _, this⟩
theorem wish_of_ok {b b2 : Nat} {rows rows2 : List (List Nat)} {st : Sto} (hm : rows.length ≤ 1000000) (hc : cntR rows ≤ 1000000) (h : ∀ xs ∈ rows2, ∀ r ∈ xs, r < cntR rows) : c_wish_of [sD b rows, sD b2 rows2] st = .ok (tN (placesGo 0 rows2 (List.replicate (cntR rows) 0))) st := by
  obtain ⟨u, v, w, e⟩ := wish_of_loop (S := sD b rows) (S2 := sD b2 rows2) (rows := rows2) (f0 := List.replicate (cntR rows) 0) (st := st) (by rw [List.length_replicate]; exact h)
  refine defn_rt rfl (st' := st ++ [.lst (nL (placesGo 0 rows2 (List.replicate (cntR rows) 0)))]) (a := tN (placesGo 0 rows2 (List.replicate (cntR rows) 0))) ?_ (finish_pure (dry_tN _))
  refine e_seq (ρ1 := [some (sD b rows), some (sD b2 rows2), some (.loc st.length), none, none, none]) (st1 := st ++ [.lst (nL (List.replicate (cntR rows) 0))]) (e_asg (e_fB (e_f2 (a := .tmp [.int 0]) (st1 := st) rfl (b := .int (cntR rows : Nat)) (e_fN (e_aC (e_fB (a := sD b rows) rfl rfl) e_aN) (record_count_ok hm)) (zeros hc)) rfl) rfl) (e_seq (e_for (xs := enumA (rows2.map tN)) (G := fun _ => True) rfl e) (e_ret (e_fN (e_aC (a := .loc st.length) rfl e_aN) (bTup_end _ _))))

theorem zipIdx_get {α : Type} {rows : List α} {p : α × Nat} (h : p ∈ rows.zipIdx) : rows[p.2]? = some p.1 := by
  obtain ⟨a, i⟩ := p
  exact List.mem_zipIdx_iff_getElem?.mp h
def metW (rows : List (List Nat)) (ws : List Nat) : Prop := ∀ (i : Nat) (xs : List Nat) (r : Nat), rows[i]? = some xs → r ∈ xs → wt ws r = i
theorem is_met_ok {b : Nat} {rows : List (List Nat)} {ws : List Nat} {st : Sto} (h : ∀ xs ∈ rows, ∀ r ∈ xs, r < ws.length) : c_is_met [sD b rows, tN ws] st = .ok (.bl (decide (metW rows ws))) st := by
  have inner : ∀ (xs ys : List Nat) (a : Nat) (w : Option A), (∀ r ∈ xs, r < ws.length) → ∃ w', loopF (sIf (uB (f2 opNe (f2 opIx (fVar 1) (fVar 4)) (fVar 2))) (sRet (fC (.bl false))) sNil) (gSet 4) (fun _ => True) (nL xs) [some (sD b rows), some (tN ws), some (.int (a : Int)), some (tN ys), w] st
      = if ∀ r ∈ xs, wt ws r = a then .nx [some (sD b rows), some (tN ws), some (.int (a : Int)), some (tN ys), w'] st else .rt (.bl false) st := by
    intro xs
    induction xs with
    | nil => exact fun ys a w _ => ⟨w, by rw [if_pos (fun r hr => absurd hr List.not_mem_nil)]; exact if_pos trivial⟩
    | cons x xs ih =>
      intro ys a w hx
      obtain ⟨w', ih⟩ := ih ys a (some (.int (x : Int))) fun r hr => hx r (List.mem_cons_of_mem _ hr)
      refine ⟨w', ?_⟩
      have e : uB (f2 opNe (f2 opIx (fVar 1) (fVar 4)) (fVar 2)) [some (sD b rows), some (tN ws), some (.int (a : Int)), some (tN ys), some (.int (x : Int))] st = .ok (!decide (wt ws x = a)) st := by
        refine e_uB (e_f2 (e_f2 (a := tN ws) rfl (b := .int (x : Int)) rfl (ixT (hx x (by simp)))) (b := .int (a : Int)) rfl ?_)
        rw [opNe_int, eqI]
      by_cases hx' : wt ws x = a
      · refine (loop_cons (x := .int (x : Int)) (xs := nL xs) trivial rfl (.inl (e_ifF (e.trans (by rw [decide_eq_true hx']; rfl)) rfl)) ih).trans ?_
        simp [hx']
      · refine (loop_consR (x := .int (x : Int)) (xs := nL xs) trivial rfl (e_ifT (e.trans (by rw [decide_eq_false hx']; rfl)) rfl)).trans ?_
        simp [hx']
  have outer : ∀ (l : List (List Nat × Nat)), (∀ p ∈ l, ∀ r ∈ p.1, r < ws.length) → ∀ (ρ : Rho), (∃ u v w, ρ = [some (sD b rows), some (tN ws), u, v, w]) → 
      ∃ u v w, loopF (sFor (fIter (fVar 3)) (gSet 4) (sIf (uB (f2 opNe (f2 opIx (fVar 1) (fVar 4)) (fVar 2))) (sRet (fC (.bl false))) sNil)) (gTupF 2 (gC (gSet 2) (gC (gSet 3) gN))) (fun _ => True) (l.map prF) ρ st
        = if ∀ p ∈ l, ∀ r ∈ p.1, wt ws r = p.2 then .nx [some (sD b rows), some (tN ws), u, v, w] st else .rt (.bl false) st := by
    intro l
    induction l with
    | nil =>
      rintro _ ρ ⟨u, v, w, rfl⟩
      exact ⟨u, v, w, by rw [if_pos (fun r hr => absurd hr List.not_mem_nil)]; exact if_pos trivial⟩
    | cons p l ih =>
      rintro hl ρ ⟨u, v, w, rfl⟩
      obtain ⟨w', e⟩ := inner p.1 p.1 p.2 w (hl p (by simp))
      obtain ⟨u2, v2, w2, ih⟩ := ih (fun q hq => hl q (List.mem_cons_of_mem _ hq)) _ ⟨some (.int (p.2 : Int)), some (tN p.1), w', rfl⟩
      refine ⟨u2, v2, w2, ?_⟩
      have e2 : sFor (fIter (fVar 3)) (gSet 4) (sIf (uB (f2 opNe (f2 opIx (fVar 1) (fVar 4)) (fVar 2))) (sRet (fC (.bl false))) sNil) [some (sD b rows), some (tN ws), some (.int (p.2 : Int)), some (tN p.1), w] st = _ := e_for (xs := nL p.1) (G := fun _ => True) rfl e
      by_cases hx : ∀ r ∈ p.1, wt ws r = p.2
      · rw [if_pos hx] at e2
        refine (loop_cons (x := prF p) (xs := l.map prF) trivial rfl (.inl e2) ih).trans ?_
        by_cases hy : ∀ q ∈ l, ∀ r ∈ q.1, wt ws r = q.2
        · rw [if_pos hy, if_pos]
          intro q hq
          rcases List.mem_cons.mp hq with rfl | hq
          · exact hx
          · exact hy q hq
        · rw [if_neg hy, if_neg fun z => hy fun q hq => z q (List.mem_cons_of_mem _ hq)]
      · rw [if_neg hx] at e2
        rw [if_neg fun z => hx (z p (by simp))]
        exact loop_consR (x := prF p) (xs := l.map prF) trivial rfl e2
  obtain ⟨u, v, w, e⟩ := outer rows.zipIdx (fun p hp => h _ (List.mem_of_getElem? (zipIdx_get hp))) _ ⟨none, none, none, rfl⟩
  have iff : (∀ p ∈ rows.zipIdx, ∀ r ∈ p.1, wt ws r = p.2) ↔ metW rows ws := by
    constructor
    · exact fun z i xs r h1 h2 => z (xs, i) (List.mem_zipIdx_iff_getElem?.mpr h1) r h2
    · exact fun z p hp r hr => z p.2 p.1 r (zipIdx_get hp) hr
  rw [← enum_rows] at e
  by_cases hm : metW rows ws
  · rw [if_pos (iff.mpr hm)] at e
    rw [decide_eq_true hm]
    exact defn_rt rfl (e_seq (e_for (xs := enumA (rows.map tN)) (G := fun _ => True) (st1 := st) rfl e) (e_ret rfl)) (fin0 rfl)
  · rw [if_neg (fun z => hm (iff.mp z))] at e
    rw [decide_eq_false hm]
    exact defn_rt rfl (e_seqR (e_for (xs := enumA (rows.map tN)) (G := fun _ => True) (st1 := st) rfl e)) (fin0 rfl)
theorem metW_iff {b : Nat} {rows : List (List Nat)} (S : Std b rows) {ws : List Nat} (hw : ws.length = cntR rows) : metW rows ws ↔ ws = places rows := by
  rw [← met_iff S hw]
  have at_ : ∀ r, r < cntR rows → ws[r]? = some (wt ws r) := fun r hr => by
    rw [wt, List.getD_eq_getElem?_getD, List.getElem?_eq_getElem (by omega)]
    rfl
  constructor
  · intro z i xs r h1 h2
    rw [at_ r (S.lt (List.mem_of_getElem? h1) h2), z i xs r h1 h2]
  · intro z i xs r h1 h2
    have := z i xs r h1 h2
    rw [at_ r (S.lt (List.mem_of_getElem? h1) h2)] at this
    exact Option.some.inj this
end Lw
namespace Lw
open PySem PySem.Spec PyProof.Rows L2 Gd Ev
open Classical
open Wi
/-! renamed blocks -/
def laidN (rows : List (List Nat)) (names : List Nat) : List (List Nat) := rows.zipIdx.foldl (fun l p => l.set (wt names p.2) p.1) rows
theorem set_tR (rows : List (List Nat)) (i : Nat) (xs : List Nat) : (rows.map tN).set i (tN xs) = (rows.set i xs).map tN := by
  rw [List.map_set]
theorem renamed_blocks_ok {b : Nat} {rows : List (List Nat)} {names : List Nat} {st : Sto} (hl : names.length = rows.length) (h : ∀ g ∈ names, g < rows.length) : c_renamed_blocks [sD b rows, tN names] st = .ok (sD b (laidN rows names)) st := by
  have loop : ∃ u v, loopF (sAsg (fVar 6) (gSubF (fVar 4) (f2 opIx (fVar 1) (fVar 5)))) (gTupF 2 (gC (gSet 5) (gC (gSet 6) gN))) (fun _ => True) (enumA (rows.map tN)) [some (sD b rows), some (tN names), some (.int (b : Int)), some (tR rows), some (.loc st.length), none, none] (st ++ [.lst (rows.map tN)])
      = .nx [some (sD b rows), some (tN names), some (.int (b : Int)), some (tR rows), some (.loc st.length), u, v] (st ++ [.lst ((laidN rows names).map tN)]) := by
    rw [enum_rows]
    have := (loop_fold (body := sAsg (fVar 6) (gSubF (fVar 4) (f2 opIx (fVar 1) (fVar 5)))) (g := gTupF 2 (gC (gSet 5) (gC (gSet 6) gN))) (G := fun _ => True) (f := prF) (β := (Option A × Option A) × List (List Nat))
      (fun s => [some (sD b rows), some (tN names), some (.int (b : Int)), some (tR rows), some (.loc st.length), s.1.1, s.1.2]) (fun s => st ++ [.lst (s.2.map tN)]) (fun s p => ((some (.int (p.2 : Int)), some (tN p.1)), s.2.set (wt names p.2) p.1)) (fun s => s.2.length = rows.length) (xs := rows.zipIdx) (b := ((none, none), rows)) rfl (fun _ _ => trivial) fun s p hp hs => by
        refine ⟨by simpa using hs, _, _, rfl, .inl ?_⟩
        have hi : p.2 < names.length := by
          have := (List.getElem?_eq_some_iff.mp (zipIdx_get hp)).1
          omega
        have hw : wt names p.2 < rows.length := by
          refine h _ ?_
          rw [wt, List.getD_eq_getElem?_getD, List.getElem?_eq_getElem hi]
          exact List.getElem_mem hi
        refine e_asg (a := tN p.1) (st1 := st ++ [.lst (s.2.map tN)]) rfl (e_sub (o := .loc st.length) rfl (i := .int ((wt names p.2 : Nat) : Int)) (e_f2 (a := tN names) rfl (b := .int (p.2 : Int)) rfl (ixT hi)) ?_)
        have e3 : ixN (s.2.map tN).length ((wt names p.2 : Nat) : Int) = some (wt names p.2) := ixN_nat (by rw [List.length_map]; have : s.2.length = rows.length := hs; omega)
        unfold setA
        simp only [end_get, e3]
        rw [set_tR, end_set]).1
    have e : ∀ (l : List (List Nat × Nat)) (s : (Option A × Option A) × List (List Nat)), (l.foldl (fun s (p : List Nat × Nat) => (((some (.int (p.2 : Int)), some (tN p.1)) : Option A × Option A), s.2.set (wt names p.2) p.1)) s).2 = l.foldl (fun l p => l.set (wt names p.2) p.1) s.2 := by
      intro l
      induction l with
      | nil => intro s; rfl
      | cons x l ih => intro s; exact ih _
    rw [e] at this
    exact ⟨_, _, this⟩
  obtain ⟨u, v, loop⟩ := loop
  refine defn_rt rfl (st' := st ++ [.lst ((laidN rows names).map tN)]) (a := sD b (laidN rows names)) ?_ (finish_pure (dry_sD _ _))
  refine e_seq (ρ1 := [some (sD b rows), some (tN names), some (.int (b : Int)), some (tR rows), none, none, none]) (st1 := st) (e_asg (e_fB (a := sD b rows) rfl rfl) rfl) ?_
  refine e_seq (ρ1 := [some (sD b rows), some (tN names), some (.int (b : Int)), some (tR rows), some (.loc st.length), none, none]) (st1 := st ++ [.lst (rows.map tN)]) (e_asg (e_fB (e_fN (e_aC (a := tR rows) rfl e_aN) (r := .ok (.tmp (rows.map tN)) st) rfl) rfl) rfl) ?_
  refine e_seq (e_for (xs := enumA (rows.map tN)) (G := fun _ => True) rfl loop) (e_ret (e_fN (e_aC (e_fB (a := .int (b : Int)) rfl rfl) (e_aC (e_fB (a := tR (laidN rows names)) (e_fN (e_aC (a := .loc st.length) rfl e_aN) (bTup_end _ _)) rfl) e_aN)) ?_))
  exact if_pos (by show 2 ≤ sizeLine; have := size_big (n := 2) (by decide); omega)
theorem laid_go {names : List Nat} (inj : ∀ i j, i < names.length → j < names.length → wt names i = wt names j → i = j) : ∀ (l : List (List Nat)) (k : Nat) (acc : List (List Nat)), k + l.length ≤ names.length → (∀ j, j < names.length → wt names j < acc.length) →
    ∀ j, j < names.length → ((l.zipIdx k).foldl (fun l p => l.set (wt names p.2) p.1) acc)[wt names j]? = if k ≤ j ∧ j < k + l.length then l[j - k]? else acc[wt names j]?
  | [], k, acc, _, _, j, _ => by
    rw [if_neg (by simp only [List.length_nil]; omega)]
    rfl
  | x :: l, k, acc, hk, ha, j, hj => by
    rw [List.length_cons] at hk ⊢
    rw [List.zipIdx_cons]
    show ((l.zipIdx (k + 1)).foldl (fun l p => l.set (wt names p.2) p.1) (acc.set (wt names k) x))[wt names j]? = _
    rw [laid_go inj l (k + 1) _ (by omega) (fun i hi => by rw [List.length_set]; exact ha i hi) j hj]
    by_cases e : j = k
    · subst e
      rw [if_neg (by omega), if_pos ⟨Nat.le_refl _, by omega⟩, List.getElem?_set_self (ha j hj), Nat.sub_self]
      rfl
    · by_cases h : k + 1 ≤ j ∧ j < k + 1 + l.length
      · rw [if_pos h, if_pos ⟨by omega, by omega⟩, show j - k = (j - (k + 1)) + 1 by omega]
        rfl
      · rw [if_neg h, if_neg (by omega), List.getElem?_set_ne fun z => e (inj j k hj (by omega) z.symm)]
theorem wt_get {names : List Nat} {i : Nat} (h : i < names.length) : wt names i = names[i] := by
  rw [wt, List.getD_eq_getElem?_getD, List.getElem?_eq_getElem h]
  rfl
theorem laid_len (rows : List (List Nat)) (names : List Nat) : (laidN rows names).length = rows.length := by
  unfold laidN
  have : ∀ (l : List (List Nat × Nat)) (acc : List (List Nat)), (l.foldl (fun l p => l.set (wt names p.2) p.1) acc).length = acc.length := by
    intro l
    induction l with
    | nil => intro acc; rfl
    | cons x l ih =>
      intro acc
      show (l.foldl _ (acc.set _ _)).length = _
      rw [ih, List.length_set]
  exact this _ _
theorem laid_eq {rows : List (List Nat)} {names : List Nat} (hp : names.Perm (List.range rows.length)) : laidN rows names = (List.range rows.length).map fun a => rows.getD (names.idxOf a) [] := by
  have nl : names.length = rows.length := by rw [hp.length_eq, List.length_range]
  have nd : names.Nodup := hp.nodup_iff.mpr List.nodup_range
  refine List.ext_getElem? fun a => ?_
  by_cases ha : a < rows.length
  · have hm : a ∈ names := hp.mem_iff.mpr (List.mem_range.mpr ha)
    have hi : names.idxOf a < names.length := List.idxOf_lt_length_iff.mpr hm
    have e : wt names (names.idxOf a) = a := by
      rw [wt_get hi, List.getElem_idxOf]
    have := laid_go (names := names) (fun i j h1 h2 h3 => by
      rw [wt_get h1, wt_get h2] at h3
      exact (List.getElem_inj nd).mp h3) rows 0 rows (by omega) (fun j hj => by
        rw [wt_get hj]
        exact List.mem_range.mp (hp.mem_iff.mp (List.getElem_mem hj))) _ hi
    rw [e, if_pos ⟨Nat.zero_le _, by omega⟩, Nat.sub_zero] at this
    rw [List.getElem?_map, List.getElem?_range ha]
    show (laidN rows names)[a]? = some (rows.getD (names.idxOf a) [])
    rw [List.getD_eq_getElem?_getD]
    have h2 : rows[names.idxOf a]? = some rows[names.idxOf a] := List.getElem?_eq_getElem (by omega)
    rw [h2] at this ⊢
    exact this
  · rw [List.getElem?_eq_none (by rw [laid_len]; omega), List.getElem?_eq_none (by rw [List.length_map, List.length_range]; omega)]
/-! sorted blocks -/
def srtN (xs : List Nat) : List Nat := (srtI (xs.map fun n : Nat => (n : Int))).map Int.toNat
theorem nL_ints (xs : List Nat) : nL xs = (xs.map fun n : Nat => (n : Int)).map A.int := by
  rw [List.map_map]
  rfl
theorem srt_nL (xs : List Nat) : (srtI (xs.map fun n : Nat => (n : Int))).map A.int = nL (srtN xs) := by
  rw [nL_ints]
  unfold srtN
  rw [List.map_map, List.map_map]
  refine List.map_congr_left fun i hi => ?_
  obtain ⟨n, _, rfl⟩ := List.mem_map.mp ((srtI_perm _).mem_iff.mp hi)
  show A.int ((n : Nat) : Int) = A.int (((n : Nat) : Int).toNat : Int)
  rw [Int.toNat_natCast]
theorem srtN_perm (xs : List Nat) : (srtN xs).Perm xs := by
  have := (srtI_perm (xs.map fun n : Nat => (n : Int))).map Int.toNat
  rw [List.map_map] at this
  have e : xs.map (Int.toNat ∘ fun n : Nat => (n : Int)) = xs := by
    conv => rhs; rw [← List.map_id xs]
    exact List.map_congr_left fun n _ => Int.toNat_natCast n
  rw [e] at this
  exact this
theorem bSrt_nL {a : A} {st : Sto} {xs : List Nat} (h : seqOf a st = some (nL xs)) : bSrt [a] st = .ok (.tmp (nL (srtN xs))) st := by
  unfold bSrt
  simp only [h]
  rw [nL_ints, intsOf_map]
  simp only
  rw [srt_nL]
/-- one for the other -/
def sw (i j r : Nat) : Nat := if r = i then j else if r = j then i else r
theorem val_sw (i j r : Nat) : (valA (mergeA [] [(.inl (i : Int), .int (j : Int)), (.inl (j : Int), .int (i : Int))]) (.inl (r : Int))).getD (.int (r : Int)) = .int ((sw i j r : Nat) : Int) := by
  have ie : ∀ a b : Nat, ((Sum.inl (a : Int) : Key) = Sum.inl (b : Int)) = (a = b) := fun a b => by
    rw [Sum.inl.injEq]
    exact propext ⟨fun h => by omega, fun h => by omega⟩
  by_cases h : i = j
  · subst h
    by_cases h2 : r = i
    · subst h2
      simp [mergeA, putA, valA, sw]
    · have h3 : ¬ i = r := fun z => h2 z.symm
      simp [mergeA, putA, valA, sw, h2, ie, h3]
  · have h' : ¬ j = i := fun z => h z.symm
    by_cases h2 : r = i
    · subst h2
      simp [mergeA, putA, valA, sw, ie, h, h']
    · have h3 : ¬ i = r := fun z => h2 z.symm
      by_cases h4 : r = j
      · subst h4
        simp [mergeA, putA, valA, sw, ie, h, h', h2, h3]
      · have h5 : ¬ j = r := fun z => h4 z.symm
        simp [mergeA, putA, valA, sw, ie, h, h', h2, h3, h4, h5]
theorem e_fDGet2 {fd fk fx : FE} {ρ : Rho} {st st1 st2 st3 : Sto} {d k x : A} {o : Option A} (h1 : fd ρ st = .ok d st1) (h2 : (dicOf d st1).isSome = true) (h3 : fk ρ st1 = .ok k st2) (h4 : fB fx ρ st2 = .ok x st3) (h5 : getA d k st3 = some o) : fDGet2 fd fk fx ρ st = .ok (o.getD x) st3 := by
  unfold fDGet2
  rw [h1]
  simp only
  rw [if_pos h2, h3]
  simp only
  rw [h4]
  simp only
  rw [h5]
theorem exchanged_ok {b i j : Nat} {rows : List (List Nat)} {st : Sto} (hm : rows.length ≤ 1000000) (h : ∀ xs ∈ rows, xs.length ≤ 1000000) : c_exchanged [sD b rows, .int (i : Int), .int (j : Int)] st = .ok (sD b (rows.map fun xs => srtN (xs.map (sw i j)))) st := by
  let D : O := .dic (mergeA [] [(.inl (i : Int), .int (j : Int)), (.inl (j : Int), .int (i : Int))])
  refine defn_rt rfl (st' := st ++ [D]) (a := sD b (rows.map fun xs => srtN (xs.map (sw i j)))) ?_ (finish_pure (dry_sD _ _))
  refine e_seq (ρ1 := [some (sD b rows), some (.int (i : Int)), some (.int (j : Int)), some (.int (b : Int)), some (tR rows), none, none, none]) (st1 := st) (e_asg (e_fB (a := sD b rows) rfl rfl) rfl) ?_
  refine e_seq (ρ1 := [some (sD b rows), some (.int (i : Int)), some (.int (j : Int)), some (.int (b : Int)), some (tR rows), some (.loc st.length), none, none]) (st1 := st ++ [D]) (e_asg (e_fB (a := .dtm (mergeA [] [(.inl (i : Int), .int (j : Int)), (.inl (j : Int), .int (i : Int))])) (st1 := st) rfl rfl) rfl) ?_
  refine e_ret (e_fN (e_aC (e_fB (a := .int (b : Int)) rfl rfl) (e_aC (e_fB (a := tR (rows.map fun xs => srtN (xs.map (sw i j)))) (st1 := st ++ [D]) (e_fN (as := [.tmp (rows.map fun xs => tN (srtN (xs.map (sw i j))))]) (st1 := st ++ [D]) (e_aC (e_lc (xs := rows.map tN) (G := fun _ => True) (st1 := st ++ [D]) rfl ?_) e_aN) ?_) rfl) e_aN)) (if_pos (by show 2 ≤ sizeLine; have := size_big (n := 2) (by decide); omega)))
  · refine lcF_map (f := tN) (val := fun xs => tN (srtN (xs.map (sw i j)))) trivial (size_big hm) fun xs hx => ⟨_, rfl, ?_⟩
    refine e_fB (e_fN (as := [.tmp (nL (srtN (xs.map (sw i j))))]) (st1 := st ++ [D]) (e_aC (e_fN (as := [.tmp (nL (xs.map (sw i j)))]) (st1 := st ++ [D]) (e_aC (e_lc (xs := nL xs) (G := fun _ => True) (st1 := st ++ [D]) rfl ?_) e_aN) (bSrt_nL rfl)) e_aN) (r := .ok (tN (srtN (xs.map (sw i j)))) (st ++ [D])) rfl) rfl
    rw [show nL (xs.map (sw i j)) = xs.map fun r => A.int ((sw i j r : Nat) : Int) by rw [nL, List.map_map]; rfl]
    refine lcF_map (f := fun n : Nat => A.int (n : Int)) (val := fun r => .int ((sw i j r : Nat) : Int)) trivial (size_big (h xs hx)) fun r hr => ⟨_, rfl, ?_⟩
    refine e_fB (a := .int ((sw i j r : Nat) : Int)) (st1 := st ++ [D]) ?_ rfl
    have ed : dicOf (.loc st.length) (st ++ [D]) = some (mergeA [] [(.inl (i : Int), .int (j : Int)), (.inl (j : Int), .int (i : Int))]) := by
      simp only [dicOf, end_get, D]
    have eg : getA (.loc st.length) (.int (r : Int)) (st ++ [D]) = some (valA (mergeA [] [(.inl (i : Int), .int (j : Int)), (.inl (j : Int), .int (i : Int))]) (.inl (r : Int))) := by
      unfold getA
      rw [ed]
      rfl
    rw [← val_sw]
    exact e_fDGet2 (d := .loc st.length) (k := .int (r : Int)) (x := .int (r : Int)) rfl (by rw [ed]; rfl) rfl rfl eg
  · show R.ok (A.tup (rows.map fun xs => tN (srtN (xs.map (sw i j))))) (st ++ [D]) = R.ok (A.tup ((rows.map fun xs => srtN (xs.map (sw i j))).map tN)) (st ++ [D])
    rw [List.map_map]
    rfl
end Lw
namespace Lw
open PySem PySem.Spec PyProof.Rows L2 Gd Ev
open Classical
open Wi
theorem locd_nt' {a : A} {st : Sto} (hn : a.nt) : locd a st = .ok a st := by
  cases a with
  | tmp _ => exact hn.elim
  | dtm _ => exact hn.elim
  | _ => rfl
theorem is_tuple_no {a n : A} {st : Sto} {t : Ty} (h : tyA a st = some t) (ht : t.is .tup = false) : c_is_tuple_of [a, n] st = .ok (.bl false) st := by
  refine defn_rt rfl (e_ret ?_) (fin0 rfl)
  have e : fIsi .tup (fVar 0) [some a, some n] st = .ok (.bl false) st := by
    show (match R.ok a st with | .ok a st1 => (match tyA a st1 with | some t => R.ok (A.bl (t.is .tup)) st1 | none => .no) | .no => .no) = _
    simp only [h, ht]
  unfold fAnd
  show (match fIsi .tup (fVar 0) [some a, some n] st with | .ok (.bl true) st1 => _ | .ok (.bl false) st1 => _ | _ => _) = _
  rw [e]
theorem is_tuple_yes {xs : List A} {n : Nat} {st : Sto} : c_is_tuple_of [.tup xs, .int (n : Int)] st = .ok (.bl (decide (xs.length = n))) st := by
  refine defn_rt rfl (e_ret ?_) (fin0 rfl)
  refine e_fAnd (k := true) (k2 := decide (xs.length = n)) rfl fun _ => e_f2 (e_fN (e_aC (a := .tup xs) rfl e_aN) (r := .ok (.int (xs.length : Nat)) st) rfl) (b := .int (n : Int)) rfl ?_
  rw [opEq_int, eqI]
/-- is_wish's walk, of any plain values -/
def plainA : A → Bool
  | .int _ => true
  | .bl _ => true
  | .str _ => true
  | _ => false
def wishA (b : Nat) : List Nat → List A → Bool
  | _, [] => true
  | c, .int i :: r => decide (0 ≤ i) && (decide (i.toNat < c.length) && (c.getD i.toNat 0 != b) && wishA b (c.set i.toNat (c.getD i.toNat 0 + 1)) r)
  | _, _ :: _ => false
theorem wishA_nL (b : Nat) : ∀ (xs c : List Nat), wishA b c (nL xs) = wishN b c xs
  | [], _ => rfl
  | x :: xs, c => by
    show (decide (0 ≤ (x : Int)) && (decide (((x : Nat) : Int).toNat < c.length) && (c.getD ((x : Nat) : Int).toNat 0 != b) && wishA b (c.set ((x : Nat) : Int).toNat (c.getD ((x : Nat) : Int).toNat 0 + 1)) (nL xs))) = _
    rw [Int.toNat_natCast, wishA_nL b xs, decide_eq_true (Int.natCast_nonneg x), Bool.true_and]
    rfl
theorem plain_ty {a : A} (h : plainA a = true) (st : Sto) : (∃ t, tyA a st = some t) ∧ a.nt := by
  cases a <;> first | exact ⟨⟨_, rfl⟩, trivial⟩ | cases h
noncomputable abbrev wBody : FS := sSeq (sIf (uOr (uNot (uT (fN c_is_number (aC (fB (fVar 5)) aN)))) (uOr (uB (f2 opGe (fVar 5) (fN bLen (aC (fVar 3) aN)))) (uB (f2 opEq (f2 opIx (fVar 4) (fVar 5)) (fVar 2))))) (sRet (fC (.bl false))) sNil)
    (sAugS (fVar 4) (fVar 5) (fC (.int 1)) opAddI)
theorem wish_loop {b : Nat} {rows : List (List Nat)} {a0 : A} {st : Sto} : ∀ (xs : List A) (c : List Nat) (w : Option A), (∀ x ∈ xs, plainA x = true) → c.length = rows.length →
    ∃ w' c', loopF wBody (gSet 5) (fun _ => True) xs [some (sD b rows), some a0, some (.int (b : Int)), some (tR rows), some (.loc st.length), w] (st ++ [.lst (nL c)])
      = if wishA b c xs = true then .nx [some (sD b rows), some a0, some (.int (b : Int)), some (tR rows), some (.loc st.length), w'] (st ++ [.lst (nL c')]) else .rt (.bl false) (st ++ [.lst (nL c')])
  | [], c, w, _, _ => ⟨w, c, by rw [if_pos (show wishA b c [] = true from rfl)]; exact loop_nil trivial⟩
  | x :: xs, c, w, hp, hc => by
    have hx := hp x (by simp)
    obtain ⟨⟨t, ht⟩, hn⟩ := plain_ty hx (st ++ [.lst (nL c)])
    let ρ : Rho := [some (sD b rows), some a0, some (.int (b : Int)), some (tR rows), some (.loc st.length), some x]
    let s2 : Sto := st ++ [.lst (nL c)]
    have e1 : uNot (uT (fN c_is_number (aC (fB (fVar 5)) aN))) ρ s2 = .ok (!numA x) s2 := e_uNot (e_uT (e_fN (e_aC (e_fB (a := x) rfl (locd_nt' hn)) e_aN) (is_number_ok ht hn)) rfl)
    by_cases hi : numA x = true
    · obtain ⟨g, rfl⟩ : ∃ g : Nat, x = .int (g : Int) := by
        cases x with
        | int i =>
          have h0 : 0 ≤ i := of_decide_eq_true hi
          exact ⟨i.toNat, by rw [Int.toNat_of_nonneg h0]⟩
        | _ => cases hi
      rw [hi] at e1
      have e2 : uB (f2 opGe (fVar 5) (fN bLen (aC (fVar 3) aN))) ρ s2 = .ok (decide (((rows.length : Nat) : Int) ≤ (g : Int))) s2 := e_uB (e_f2 (a := .int (g : Int)) rfl (e_fN (e_aC (a := tR rows) rfl e_aN) (len_tR rows _)) rfl)
      have ew : wishA b c (.int (g : Int) :: xs) = (decide (g < c.length) && (c.getD g 0 != b) && wishA b (c.set g (c.getD g 0 + 1)) xs) := by
        show (decide (0 ≤ (g : Int)) && (decide (((g : Nat) : Int).toNat < c.length) && (c.getD ((g : Nat) : Int).toNat 0 != b) && wishA b (c.set ((g : Nat) : Int).toNat (c.getD ((g : Nat) : Int).toNat 0 + 1)) xs)) = _
        rw [Int.toNat_natCast, decide_eq_true (Int.natCast_nonneg g), Bool.true_and]
      by_cases hg : g < c.length
      · rw [decide_eq_false (by omega)] at e2
        have ei : opIx (.loc st.length) (.int (g : Int)) s2 = .ok (.int ((wt c g : Nat) : Int)) s2 := by
          show (match seqOf (.loc st.length) (st ++ [O.lst (nL c)]) with | some xs => (match atI xs ((g : Nat) : Int) with | some x => R.ok x (st ++ [O.lst (nL c)]) | none => .no) | none => .no) = _
          rw [end_seq]
          simp only [ix_nL hg]
          rfl
        have e3 : uB (f2 opEq (f2 opIx (fVar 4) (fVar 5)) (fVar 2)) ρ s2 = .ok (decide (wt c g = b)) s2 := by
          refine e_uB (e_f2 (e_f2 (a := .loc st.length) rfl (b := .int (g : Int)) rfl ei) (b := .int (b : Int)) rfl ?_)
          rw [opEq_int, eqI]
        have e4 := e_uOrF e1 (e_uOrF e2 e3)
        by_cases hb : wt c g = b
        · rw [decide_eq_true hb] at e4
          have : wishA b c (.int (g : Int) :: xs) = false := by
            have : c.getD g 0 = b := hb
            rw [ew, this]
            simp
          refine ⟨none, c, ?_⟩
          rw [this, if_neg (by decide)]
          exact loop_consR trivial rfl (e_seqR (e_ifT e4 rfl))
        · rw [decide_eq_false hb] at e4
          have : wishA b c (.int (g : Int) :: xs) = wishA b (c.set g (c.getD g 0 + 1)) xs := by
            have : ¬ c.getD g 0 = b := hb
            rw [ew, decide_eq_true hg, Bool.true_and, show (c.getD g 0 != b) = true by simpa using this, Bool.true_and]
          have aug : sAugS (fVar 4) (fVar 5) (fC (.int 1)) opAddI ρ s2 = .nx ρ (st ++ [.lst (nL (c.set g (c.getD g 0 + 1)))]) := by
            have e3 : ixN (nL c).length ((g : Nat) : Int) = some g := ixN_nat (by rw [len_nL]; exact hg)
            unfold sAugS
            simp only [end_lst, ix_nL hg, fC, opAddI, setA, end_get, e3, fVar, ρ, s2, List.getElem?_cons_succ, List.getElem?_cons_zero]
            rw [show ((wt c g : Nat) : Int) + 1 = ((c.getD g 0 + 1 : Nat) : Int) by unfold wt; omega, set_nL, end_set]
          obtain ⟨w', c', ih⟩ := wish_loop (b := b) (rows := rows) (a0 := a0) (st := st) xs (c.set g (c.getD g 0 + 1)) (some (.int (g : Int))) (fun y hy => hp y (List.mem_cons_of_mem _ hy)) (by rw [List.length_set]; exact hc)
          refine ⟨w', c', ?_⟩
          rw [this]
          exact loop_cons trivial rfl (.inl (e_seq (e_ifF e4 rfl) aug)) ih
      · rw [decide_eq_true (by omega)] at e2
        have : wishA b c (.int (g : Int) :: xs) = false := by
          rw [ew, decide_eq_false hg]
          rfl
        refine ⟨none, c, ?_⟩
        rw [this, if_neg (by decide)]
        exact loop_consR trivial rfl (e_seqR (e_ifT (e_uOrF e1 (e_uOrT e2)) rfl))
    · have hi' : numA x = false := by simpa using hi
      rw [hi'] at e1
      have : wishA b c (x :: xs) = false := by
        cases x with
        | int i =>
          show (decide (0 ≤ i) && _) = false
          have : decide (0 ≤ i) = false := hi'
          rw [this]
          rfl
        | _ => rfl
      refine ⟨none, c, ?_⟩
      rw [this, if_neg (by decide)]
      exact loop_consR trivial rfl (e_seqR (e_ifT (e_uOrT e1) rfl))
theorem is_wish_tup {b : Nat} {rows : List (List Nat)} {xs : List A} {st : Sto} (hm : rows.length ≤ 1000000) (hp : ∀ x ∈ xs, plainA x = true) :
    c_is_wish [sD b rows, .tup xs] st = .ok (.bl (decide (xs.length = cntR rows) && wishA b (List.replicate rows.length 0) xs)) st := by
  have e1 : fN c_is_tuple_of (aC (fB (fVar 1)) (aC (fB (fN c_record_count (aC (fB (fVar 0)) aN))) aN)) [some (sD b rows), some (.tup xs), some (.int (b : Int)), some (tR rows), none, none] st = .ok (.bl (decide (xs.length = cntR rows))) st :=
    e_fN (e_aC (e_fB (a := .tup xs) rfl rfl) (e_aC (e_fB (a := .int (cntR rows : Nat)) (e_fN (e_aC (e_fB (a := sD b rows) rfl rfl) e_aN) (record_count_ok hm)) rfl) e_aN)) is_tuple_yes
  have e2 := e_uNot (e_uT e1 rfl)
  have st0 : sAsg (fVar 0) (gTupF 2 (gC (gSet 2) (gC (gSet 3) gN))) [some (sD b rows), some (.tup xs), none, none, none, none] st = .nx [some (sD b rows), some (.tup xs), some (.int (b : Int)), some (tR rows), none, none] st := e_asg (e_fB (a := sD b rows) rfl rfl) rfl
  by_cases hl : xs.length = cntR rows
  · rw [decide_eq_true hl] at e2
    rw [decide_eq_true hl, Bool.true_and]
    obtain ⟨w', c', lp⟩ := wish_loop (b := b) (rows := rows) (a0 := .tup xs) (st := st) xs (List.replicate rows.length 0) none hp (List.length_replicate ..)
    have mk : sAsg (f2 opMul (fN mkLst (aC (fB (fC (.int 0))) aN)) (fN bLen (aC (fVar 3) aN))) (gSet 4) [some (sD b rows), some (.tup xs), some (.int (b : Int)), some (tR rows), none, none] st = .nx [some (sD b rows), some (.tup xs), some (.int (b : Int)), some (tR rows), some (.loc st.length), none] (st ++ [.lst (nL (List.replicate rows.length 0))]) :=
      e_asg (e_fB (e_f2 (a := .tmp [.int 0]) (st1 := st) rfl (b := .int (rows.length : Nat)) (e_fN (e_aC (a := tR rows) rfl e_aN) (len_tR _ _)) (zeros hm)) rfl) rfl
    by_cases hw : wishA b (List.replicate rows.length 0) xs = true
    · rw [if_pos hw] at lp
      rw [hw]
      exact defn_rt rfl (e_seq st0 (e_seq (e_ifF e2 rfl) (e_seq mk (e_seq (e_for (xs := xs) (G := fun _ => True) rfl lp) (e_ret rfl))))) (finish_pure rfl)
    · rw [if_neg hw] at lp
      rw [show wishA b (List.replicate rows.length 0) xs = false by simpa using hw]
      exact defn_rt rfl (e_seq st0 (e_seq (e_ifF e2 rfl) (e_seq mk (e_seqR (e_for (xs := xs) (G := fun _ => True) rfl lp))))) (finish_pure rfl)
  · rw [decide_eq_false hl] at e2
    rw [decide_eq_false hl, Bool.false_and]
    exact defn_rt rfl (e_seq st0 (e_seqR (e_ifT e2 rfl))) (fin0 rfl)
theorem is_wish_no {b : Nat} {rows : List (List Nat)} {a : A} {t : Ty} {st : Sto} (hm : rows.length ≤ 1000000) (h : tyA a st = some t) (ht : t.is .tup = false) (hn : a.nt) :
    c_is_wish [sD b rows, a] st = .ok (.bl false) st := by
  have e1 : fN c_is_tuple_of (aC (fB (fVar 1)) (aC (fB (fN c_record_count (aC (fB (fVar 0)) aN))) aN)) [some (sD b rows), some a, some (.int (b : Int)), some (tR rows), none, none] st = .ok (.bl false) st :=
    e_fN (e_aC (e_fB (a := a) rfl (locd_nt' hn)) (e_aC (e_fB (a := .int (cntR rows : Nat)) (e_fN (e_aC (e_fB (a := sD b rows) rfl rfl) e_aN) (record_count_ok hm)) rfl) e_aN)) (is_tuple_no h ht)
  exact defn_rt rfl (e_seq (ρ1 := [some (sD b rows), some a, some (.int (b : Int)), some (tR rows), none, none]) (e_asg (e_fB (a := sD b rows) rfl rfl) rfl) (e_seqR (e_ifT (e_uNot (e_uT e1 rfl)) rfl))) (fin0 rfl)
end Lw
namespace Lw
open PySem PySem.Spec PyProof.Rows L2 Gd Ev
open Classical
open Wi
/-! the store behind the source -/
theorem d3_get {J : O} {cs : List Int} {b : Int} {suf : Sto} {i : Nat} {o : O} (h : suf[i]? = some o) : (D3 J cs b suf)[i + 3]? = some o := h
theorem d3_set (J : O) (cs : List Int) (b : Int) (suf : Sto) (i : Nat) (o : O) : (D3 J cs b suf).set (i + 3) o = D3 J cs b (suf.set i o) := rfl
theorem d3_lst {J : O} {cs : List Int} {b : Int} {suf : Sto} {i : Nat} {xs : List A} (h : suf[i]? = some (.lst xs)) : lstOf (.loc (i + 3)) (D3 J cs b suf) = some xs := by
  simp only [lstOf, d3_get h]
theorem d3_isL {J : O} {cs : List Int} {b : Int} {suf : Sto} {i : Nat} {xs : List A} (h : suf[i]? = some (.lst xs)) : isL (.loc (i + 3)) (D3 J cs b suf) = true := by
  unfold isL
  rw [d3_lst h]
  rfl
theorem d3_loc (J : O) (cs : List Int) (b : Int) (suf : Sto) (xs : List A) : locd (.tmp xs) (D3 J cs b suf) = .ok (.loc (suf.length + 3)) (D3 J cs b (suf ++ [.lst xs])) := rfl
theorem fin3 {J : O} {cs cs' : List Int} {b b' : Int} {suf more : Sto} {a : A} (h : a.dry = true ∨ ∃ l, a = .loc l ∧ l < suf.length + 3) : Ev.finish (D3 J cs b suf) a (D3 J cs' b' (suf ++ more)) = .ok a (D3 J cs' b' suf) := by
  rcases h with h | ⟨l, rfl, hl⟩
  · rw [finish_dry h D3_kept, D3_take]
  · unfold Ev.finish
    rw [if_pos D3_kept]
    simp only
    rw [if_pos (by rw [D3_len]; exact hl), D3_take]
theorem fin3' {J : O} {cs cs' : List Int} {b b' : Int} {suf : Sto} {a : A} (h : a.dry = true ∨ ∃ l, a = .loc l ∧ l < suf.length + 3) : Ev.finish (D3 J cs b suf) a (D3 J cs' b' suf) = .ok a (D3 J cs' b' suf) := by
  have := fin3 (J := J) (cs := cs) (cs' := cs') (b := b) (b' := b') (more := []) h
  rw [List.append_nil] at this
  exact this
theorem of_okL {J : O} {cs : List Int} {b : Int} (S : Src J cs b) (suf : Sto) {s : A} {xs : List A} (h : ∀ cs b, seqOf s (D3 J cs b suf) = some xs) (h2 : ∀ z, s ≠ .str z) (hs : s.nt) (x0 : xs ≠ []) (xl : xs.length ≤ 1000000) (xd : ∀ x ∈ xs, x.dry = true ∨ ∃ l, x = .loc l ∧ l < suf.length + 3) :
    ∃ x cs' b', Src J cs' b' ∧ x ∈ xs ∧ c_law_of [.loc 2, s] (D3 J cs b suf) = .ok x (D3 J cs' b' suf) := by
  have xp : 0 < xs.length := List.length_pos_iff.mpr x0
  obtain ⟨r, cs', b', S', r0, r1, e⟩ := any_ok S suf (n := (xs.length : Int)) (by omega) (by omega)
  obtain ⟨k, rfl⟩ : ∃ k : Nat, r = (k : Int) := ⟨r.toNat, by omega⟩
  have hk : k < xs.length := by omega
  have hl : bLen [s] (D3 J cs b suf) = .ok (.int xs.length) (D3 J cs b suf) := by
    cases s with
    | str z => exact absurd rfl (h2 z)
    | _ => unfold bLen; simp only [h]
  have hi : opIx s (.int (k : Int)) (D3 J cs' b' suf) = .ok xs[k] (D3 J cs' b' suf) := by
    have ha : atI xs ((k : Nat) : Int) = some xs[k] := atI_nat (List.getElem?_eq_getElem hk)
    cases s with
    | str z => exact absurd rfl (h2 z)
    | _ => unfold opIx; simp only [h, ha]
  exact ⟨xs[k], cs', b', S', List.getElem_mem hk, defn_rt rfl (e_ret (e_f2 (a := s) rfl (e_fN (e_aC (e_fB rfl rfl) (e_aC (e_fB (e_fN (e_aC (a := s) rfl e_aN) hl) rfl) e_aN)) e) hi)) (fin3' (xd _ (List.getElem_mem hk)))⟩
theorem shaped_nL (xs : List Nat) : SeqAt.shaped (.list (xs.map fun n : Nat => PyData.int (n : Int))) = true := by
  have := shaped_iL (xs.map fun n : Nat => (n : Int))
  rw [List.map_map] at this
  exact this
theorem two0 (suf : Sto) (o p : O) : (suf ++ [o, p])[suf.length]? = some o := by simp
theorem two1 (suf : Sto) (o p : O) : (suf ++ [o, p])[suf.length + 1]? = some p := by simp
theorem two_set0 (suf : Sto) (o p q : O) : (suf ++ [o, p]).set suf.length q = suf ++ [q, p] := by simp
theorem two_set1 (suf : Sto) (o p q : O) : (suf ++ [o, p]).set (suf.length + 1) q = suf ++ [o, q] := by simp
theorem nL_erase : ∀ (xs : List Nat) (k : Nat), (nL xs).eraseIdx k = nL (xs.eraseIdx k)
  | [], _ => rfl
  | _ :: _, 0 => rfl
  | x :: xs, k + 1 => by
    show A.int (x : Int) :: (nL xs).eraseIdx k = A.int (x : Int) :: nL (xs.eraseIdx k)
    rw [nL_erase xs k]
theorem erase_perm : ∀ (xs : List Nat) (k : Nat) (h : k < xs.length), (xs[k] :: xs.eraseIdx k).Perm xs
  | [], k, h => absurd h (Nat.not_lt_zero k)
  | x :: xs, 0, _ => .refl _
  | x :: xs, k + 1, h => (List.Perm.swap x (xs[k]'(Nat.lt_of_succ_lt_succ h)) _).trans (.cons x (erase_perm xs k (Nat.lt_of_succ_lt_succ h)))
/-- mixed: the same in any order -/
theorem mixed_ok {J : O} {cs : List Int} {b : Int} (S : Src J cs b) (suf : Sto) {s : A} {xs : List Nat} (h : seqOf s (D3 J cs b suf) = some (nL xs)) (hl : xs.length ≤ 1000000) :
    ∃ ys cs' b', Src J cs' b' ∧ ys.Perm xs ∧ c_law_mixed [.loc 2, s] (D3 J cs b suf) = .ok (.tmp (nL ys)) (D3 J cs' b' suf) := by
  have hb : bLst [s] (D3 J cs b suf) = .ok (.tmp (nL xs)) (D3 J cs b suf) := by
    unfold bLst
    simp only [h]
  let E : Rho := [some (.loc 2), some s, some (.loc (suf.length + 3)), some (.loc (suf.length + 1 + 3))]
  have w : ∃ ys cs' b', Src J cs' b' ∧ ys.Perm xs ∧ sWhile (uB (f2 opNe (fVar 2) (fN mkLst aN))) (sExp (fM mApp (fVar 3) (aC (fB (fM mPopAt (fVar 2) (aC (fB (fN c_law_any (aC (fB (fVar 0)) (aC (fB (fN bLen (aC (fVar 2) aN))) aN)))) aN))) aN))) E (D3 J cs b (suf ++ [.lst (nL xs), .lst []])) = .nx E (D3 J cs' b' (suf ++ [.lst [], .lst (nL ys)])) := by
    refine while_inv (fun ρ st => ∃ left found cs b, Src J cs b ∧ (found ++ left).Perm xs ∧ ρ = E ∧ st = D3 J cs b (suf ++ [.lst (nL left), .lst (nL found)])) (fun _ st => match st[suf.length + 3]? with | some (O.lst xs) => xs.length | _ => 0)
      (fun r => ∃ ys cs' b', Src J cs' b' ∧ ys.Perm xs ∧ r = .nx E (D3 J cs' b' (suf ++ [.lst [], .lst (nL ys)]))) ?_ ⟨xs, [], cs, b, S, .refl _, rfl, rfl⟩
    rintro _ _ ⟨left, found, cs, b, S, hp, rfl, rfl⟩
    have e1 : uB (f2 opNe (fVar 2) (fN mkLst aN)) E (D3 J cs b (suf ++ [.lst (nL left), .lst (nL found)])) = .ok (!left.isEmpty) (D3 J cs b (suf ++ [.lst (nL left), .lst (nL found)])) := by
      refine e_uB (e_f2 (a := .loc (suf.length + 3)) rfl (b := .tmp []) (e_fN e_aN (if_pos (Nat.zero_le _))) ?_)
      rw [opNe_nil (d3_lst (two0 _ _ _)) (fun g => dWs_nL g left) (shaped_nL left)]
      cases left <;> rfl
    cases left with
    | nil =>
      refine .inl ⟨_, e1, found, cs, b, S, ?_, rfl⟩
      rw [List.append_nil] at hp
      exact hp
    | cons x left =>
      have hll : (x :: left).length ≤ 1000000 := by
        have := hp.length_eq
        rw [List.length_append] at this
        omega
      have hfl : found.length ≤ 1000000 := by
        have := hp.length_eq
        rw [List.length_append] at this
        omega
      obtain ⟨r, cs', b', S', r0, r1, e⟩ := any_ok S (suf ++ [.lst (nL (x :: left)), .lst (nL found)]) (n := (((x :: left).length : Nat) : Int)) (by simp only [List.length_cons]; omega) (by omega)
      obtain ⟨k, rfl⟩ : ∃ k : Nat, r = (k : Int) := ⟨r.toNat, by omega⟩
      have hk : k < (x :: left).length := by omega
      refine .inr ⟨_, e1, .inl ⟨E, D3 J cs' b' (suf ++ [.lst (nL ((x :: left).eraseIdx k)), .lst (nL (found ++ [(x :: left)[k]]))]), .inl ?_, ⟨(x :: left).eraseIdx k, found ++ [(x :: left)[k]], cs', b', S', ?_, rfl, rfl⟩, ?_⟩⟩
      · refine e_exp (a := .non) ?_
        refine e_fM (a := .loc (suf.length + 1 + 3)) (st1 := D3 J cs b (suf ++ [.lst (nL (x :: left)), .lst (nL found)])) rfl (d3_isL (two1 _ _ _)) (e_aC (e_fB (a := .int ((x :: left)[k] : Nat)) (st1 := D3 J cs' b' (suf ++ [.lst (nL ((x :: left).eraseIdx k)), .lst (nL found)])) (e_fM (a := .loc (suf.length + 3)) (st1 := D3 J cs b (suf ++ [.lst (nL (x :: left)), .lst (nL found)])) rfl (d3_isL (two0 _ _ _)) (e_aC (e_fB (e_fN (e_aC (e_fB (a := .loc 2) rfl rfl) (e_aC (e_fB (a := .int (((x :: left).length : Nat) : Int)) (e_fN (e_aC (a := .loc (suf.length + 3)) rfl e_aN) ?_) rfl) e_aN)) e) rfl) e_aN) ?_) rfl) e_aN) ?_
        · unfold bLen
          have z : seqOf (.loc (suf.length + 3)) (D3 J cs b (suf ++ [.lst (nL (x :: left)), .lst (nL found)])) = some (nL (x :: left)) := d3_lst (two0 _ _ _)
          simp only [z, len_nL]
        · have e3 : ixN (nL (x :: left)).length ((k : Nat) : Int) = some k := ixN_nat (by rw [len_nL]; exact hk)
          have e4 : (nL (x :: left))[k]? = some (.int ((x :: left)[k] : Nat)) := by
            rw [nL, List.getElem?_map, List.getElem?_eq_getElem hk]
            rfl
          unfold mPopAt
          simp only [d3_get (two0 suf (.lst (nL (x :: left))) (.lst (nL found))), e3, e4]
          rw [if_pos ⟨by omega, by omega⟩, d3_set, two_set0, nL_erase]
        · unfold mApp
          simp only [d3_get (two1 suf (.lst (nL ((x :: left).eraseIdx k))) (.lst (nL found)))]
          rw [if_pos (by rw [len_nL]; exact size_big hfl), d3_set, two_set1]
          rw [show nL (found ++ [(x :: left)[k]]) = nL found ++ [.int ((x :: left)[k] : Nat)] from List.map_append]
      · refine List.Perm.trans ?_ hp
        rw [List.append_assoc]
        refine List.Perm.append_left found ?_
        exact (erase_perm _ _ hk)
      · show (match (D3 J cs' b' (suf ++ [.lst (nL ((x :: left).eraseIdx k)), .lst (nL (found ++ [(x :: left)[k]]))]))[suf.length + 3]? with | some (O.lst xs) => xs.length | _ => 0) < (match (D3 J cs b (suf ++ [.lst (nL (x :: left)), .lst (nL found)]))[suf.length + 3]? with | some (O.lst xs) => xs.length | _ => 0)
        rw [d3_get (two0 _ _ _), d3_get (two0 _ _ _)]
        simp only [len_nL, List.length_eraseIdx_of_lt hk]
        simp only [List.length_cons] at hk ⊢
        omega
  obtain ⟨ys, cs', b', S', hp, w⟩ := w
  refine ⟨ys, cs', b', S', hp, defn_rt rfl (st' := D3 J cs' b' (suf ++ [.lst [], .lst (nL ys)])) (a := .loc (suf.length + 1 + 3)) ?_ ?_⟩
  · refine e_seq (ρ1 := E) (st1 := D3 J cs b (suf ++ [.lst (nL xs), .lst []])) ?_ (e_seq w (e_ret rfl))
    refine e_par (e_aC (e_fB (a := .tmp (nL xs)) (st1 := D3 J cs b suf) (e_fN (e_aC (a := s) rfl e_aN) hb) (d3_loc ..)) (e_aC (e_fB (a := .tmp []) (e_fN e_aN (if_pos (Nat.zero_le _))) (r := .ok (.loc (suf.length + 1 + 3)) (D3 J cs b (suf ++ [.lst (nL xs), .lst []]))) ?_) e_aN))
    rw [d3_loc, List.length_append, List.append_assoc]
    rfl
  · rw [finish_list (xs := nL ys) D3_kept (by rw [D3_len]; omega) (d3_get (two1 _ _ _)) (dryL_nats ys), D3_take]
end Lw
namespace Lw
open PySem PySem.Spec PyProof.Rows L2 Gd Ev
open Classical
open Wi
/-- places one after another -/
def locs (n k : Nat) : List A := (List.range' n k).map A.loc
theorem locs_succ (n k : Nat) : locs n (k + 1) = .loc n :: locs (n + 1) k := rfl
theorem locs_len (n k : Nat) : (locs n k).length = k := by rw [locs, List.length_map, List.length_range']
theorem locs_at {n k i : Nat} (h : i < k) : (locs n k)[i]? = some (.loc (n + i)) := by
  rw [locs, List.getElem?_map, List.getElem?_range' h, Nat.one_mul]
  rfl
/-- a comprehension that tells new lists -/
theorem lcF_grow {α : Type} {ρ : Rho} {g : A → Rho → Option Rho} {u : FT} {fe : FE} {G : Sto → Prop} {f : α → A} {val : α → List A} {st : Sto} : ∀ {xs : List α} {acc : List A} {more : Sto}, acc.length + xs.length < sizeLine → (∀ more, G (st ++ more)) →
    (∀ x ∈ xs, ∀ more, ∃ ρ1, g (f x) ρ = some ρ1 ∧ u ρ1 (st ++ more) = .ok true (st ++ more) ∧ fe ρ1 (st ++ more) = .ok (.tmp (val x)) (st ++ more)) →
      lcF ρ g u fe G (xs.map f) acc (st ++ more) = .ok (acc ++ locs (st.length + more.length) xs.length) (st ++ (more ++ xs.map fun x => .lst (val x)))
  | [], acc, more, _, hG, _ => by
    show (if G (st ++ more) then _ else _) = _
    rw [if_pos (hG _)]
    show R.ok acc (st ++ more) = R.ok (acc ++ []) (st ++ (more ++ []))
    rw [List.append_nil, List.append_nil]
  | x :: xs, acc, more, hl, hG, h => by
    obtain ⟨ρ1, h1, h2, h3⟩ := h x (by simp) more
    have hl' : acc.length + (xs.length + 1) < sizeLine := hl
    have e : fB fe ρ1 (st ++ more) = .ok (.loc (st.length + more.length)) (st ++ (more ++ [.lst (val x)])) := by
      refine e_fB h3 ?_
      show R.ok (A.loc (st ++ more).length) ((st ++ more) ++ [.lst (val x)]) = _
      rw [List.length_append, List.append_assoc]
    have ih := lcF_grow (ρ := ρ) (g := g) (u := u) (fe := fe) (f := f) (val := val) (st := st) (xs := xs) (acc := acc ++ [.loc (st.length + more.length)]) (more := more ++ [.lst (val x)]) (by rw [List.length_append]; show acc.length + 1 + xs.length < sizeLine; omega) hG fun y hy => h y (List.mem_cons_of_mem _ hy)
    show (if G (st ++ more) then (match g (f x) ρ with | some ρ1 => _ | none => _) else _) = _
    rw [if_pos (hG _), h1]
    simp only [h2, e]
    rw [if_pos (by omega), ih, List.length_append, List.length_singleton, List.append_assoc, List.append_assoc, ← Nat.add_assoc]
    rfl
/-- a row of lists in the store -/
def Bk (rows : List (List Nat)) : Sto := rows.map fun r => .lst (nL r)
theorem Bk_at {suf more : Sto} {rows : List (List Nat)} {i : Nat} {r : List Nat} (h : rows[i]? = some r) : (suf ++ (Bk rows ++ more))[suf.length + i]? = some (.lst (nL r)) := by
  have hi : i < rows.length := (List.getElem?_eq_some_iff.mp h).1
  rw [List.getElem?_append_right (by omega), Nat.add_sub_cancel_left, List.getElem?_append_left (by rw [Bk, List.length_map]; exact hi), Bk, List.getElem?_map, h]
  rfl
theorem Bk_end {suf more : Sto} {rows : List (List Nat)} {o : O} : (suf ++ (Bk rows ++ o :: more))[suf.length + rows.length]? = some o := by
  rw [List.getElem?_append_right (by omega), Nat.add_sub_cancel_left, List.getElem?_append_right (by rw [Bk, List.length_map]; omega), Bk, List.length_map, Nat.sub_self]
  rfl
theorem Bk_set {suf more : Sto} {rows : List (List Nat)} {i : Nat} (r : List Nat) (h : i < rows.length) : (suf ++ (Bk rows ++ more)).set (suf.length + i) (.lst (nL r)) = suf ++ (Bk (rows.set i r) ++ more) := by
  rw [List.set_append_right _ _ (by omega), Nat.add_sub_cancel_left, List.set_append_left _ _ (by rw [Bk, List.length_map]; exact h), Bk, Bk, List.map_set]
theorem flat_set : ∀ (rows : List (List Nat)) (i : Nat) (r : List Nat) (x : Nat), rows[i]? = some r → (rows.set i (r ++ [x])).flatten.Perm (rows.flatten ++ [x])
  | [], i, r, x, h => by simp at h
  | y :: rows, 0, r, x, h => by
    obtain rfl : y = r := by simpa using h
    show ((y ++ [x]) ++ rows.flatten).Perm ((y ++ rows.flatten) ++ [x])
    rw [List.append_assoc, List.append_assoc]
    exact List.Perm.append_left y List.perm_append_comm
  | y :: rows, i + 1, r, x, h => by
    show (y ++ (rows.set i (r ++ [x])).flatten).Perm ((y ++ rows.flatten) ++ [x])
    rw [List.append_assoc]
    exact List.Perm.append_left y (flat_set rows i r x (by simpa using h))
theorem flat_full {b : Nat} : ∀ (rows : List (List Nat)), (∀ r ∈ rows, b ≤ r.length) → b * rows.length ≤ rows.flatten.length
  | [], _ => by simp
  | r :: rows, h => by
    have := flat_full rows fun y hy => h y (List.mem_cons_of_mem _ hy)
    have h1 := h r (by simp)
    rw [List.length_cons, List.flatten_cons, List.length_append, Nat.mul_succ]
    omega
theorem fIter_loc {f : FE} {ρ : Rho} {st st1 : Sto} {l : Nat} {xs : List A} (h : f ρ st = .ok (.loc l) st1) (h2 : lstOf (.loc l) st1 = some xs) : fIter f ρ st = .ok (xs, stillOf (.loc l) xs) st1 := by
  unfold fIter
  rw [h]
  simp only [h2]
theorem dealt_ok {J : O} {cs : List Int} {b0 : Int} (S : Src J cs b0) (suf : Sto) {s : A} {xs : List Nat} {b many : Nat} (hn : s.nt) (h : ∀ cs b more, seqOf s (D3 J cs b (suf ++ more)) = some (nL xs)) (hm : many ≤ 1000) (hb : b ≤ 1000) (hl : xs.length ≤ b * many) :
    ∃ rows cs' b', Src J cs' b' ∧ rows.length = many ∧ rows.flatten.Perm xs ∧ (∀ r ∈ rows, r.length ≤ b) ∧ c_law_dealt [.loc 2, .int (b : Int), .int (many : Int), s] (D3 J cs b0 suf) = .ok (tR rows) (D3 J cs' b' suf) := by
  have hxl : xs.length ≤ 1000000 := Nat.le_trans hl (Nat.mul_le_mul hb hm)
  let L := locs (suf.length + 3) many
  let E : Option A → Option A → Rho := fun r f => [some (.loc 2), some (.int (b : Int)), some (.int (many : Int)), some s, some (.loc (suf.length + many + 3)), r, f, none, none]
  -- the empty blocks
  have e1 : sAsg (fLc (fRg1 (fVar 2)) [7] (lN 7) uYes (fN mkLst aN)) (gSet 4) [some (.loc 2), some (.int (b : Int)), some (.int (many : Int)), some s, none, none, none, none, none] (D3 J cs b0 suf) = .nx (E none none) (D3 J cs b0 (suf ++ (Bk (List.replicate many []) ++ [.lst L]))) := by
    have g := lcF_grow (ρ := [some (.loc 2), some (.int (b : Int)), some (.int (many : Int)), some s, none, none, none, none, none]) (g := lN 7) (u := uYes) (fe := fN mkLst aN) (G := fun _ => True) (f := fun n : Nat => A.int (n : Int)) (val := fun _ => []) (st := D3 J cs b0 suf) (xs := List.range many) (acc := []) (more := []) (by rw [List.length_range]; exact size_big (by simp only [List.length_nil]; omega)) (fun _ => trivial) fun x _ more => ⟨_, rfl, rfl, e_fN e_aN (if_pos (Nat.zero_le _))⟩
    rw [List.append_nil, List.length_range, List.nil_append, List.nil_append, List.length_nil, Nat.add_zero] at g
    have eB : ((List.range many).map fun _ => O.lst []) = Bk (List.replicate many []) := by
      rw [Bk, List.map_replicate]
      refine List.eq_replicate_iff.mpr ⟨by rw [List.length_map, List.length_range], fun y hy => ?_⟩
      obtain ⟨_, _, rfl⟩ := List.mem_map.mp hy
      rfl
    rw [eB] at g
    refine e_asg (e_fB (e_lc (xs := nL (List.range many)) (G := fun _ => True) (st1 := D3 J cs b0 suf) (fRg1_nat rfl (by omega)) g) (r := .ok (.loc (suf.length + many + 3)) (D3 J cs b0 (suf ++ (Bk (List.replicate many []) ++ [.lst L])))) ?_) rfl
    rw [D3_app, d3_loc, List.length_append, List.append_assoc, Bk, List.length_map, List.length_replicate]
    rfl
  obtain ⟨ys, cs1, b1, S1, hp, e2⟩ := mixed_ok S (suf ++ (Bk (List.replicate many []) ++ [.lst L])) (s := s) (xs := xs) (h _ _ _) hxl
  have blk : ∀ cs b rows fr, rows.length = many → lstOf (.loc (suf.length + many + 3)) (D3 J cs b (suf ++ (Bk rows ++ .lst L :: fr))) = some L := fun cs b rows fr hr => by
    rw [← hr]
    exact d3_lst Bk_end
  have ixb : ∀ cs b rows fr (i : Nat), rows.length = many → i < many → opIx (.loc (suf.length + many + 3)) (.int (i : Int)) (D3 J cs b (suf ++ (Bk rows ++ .lst L :: fr))) = .ok (.loc (suf.length + i + 3)) (D3 J cs b (suf ++ (Bk rows ++ .lst L :: fr))) := fun cs b rows fr i hr hi => by
    unfold opIx
    have z : seqOf (.loc (suf.length + many + 3)) (D3 J cs b (suf ++ (Bk rows ++ .lst L :: fr))) = some L := blk cs b rows fr hr
    have y : atI L ((i : Nat) : Int) = some (.loc (suf.length + i + 3)) := atI_nat ((locs_at hi).trans (by rw [Nat.add_right_comm]))
    simp only [z, y]
  -- the loop
  have e3 : ∃ rows cs' b' fr u v, Src J cs' b' ∧ rows.length = many ∧ rows.flatten.Perm xs ∧ (∀ r ∈ rows, r.length ≤ b) ∧ sFor (fIter (fN c_law_mixed (aC (fB (fVar 0)) (aC (fB (fVar 3)) aN)))) (gSet 5) (sSeq (sAsg (fLc (fRg1 (fVar 2)) [8] (lN 8) (uB (f2 opLt (fN bLen (aC (f2 opIx (fVar 4) (fVar 8)) aN)) (fVar 1))) (fVar 8)) (gSet 6))
      (sExp (fM mApp (f2 opIx (fVar 4) (fN c_law_of (aC (fB (fVar 0)) (aC (fB (fVar 6)) aN)))) (aC (fB (fVar 5)) aN)))) (E none none) (D3 J cs b0 (suf ++ (Bk (List.replicate many []) ++ [.lst L]))) = .nx (E u v) (D3 J cs' b' (suf ++ (Bk rows ++ .lst L :: fr))) := by
    have hit : fIter (fN c_law_mixed (aC (fB (fVar 0)) (aC (fB (fVar 3)) aN))) (E none none) (D3 J cs b0 (suf ++ (Bk (List.replicate many []) ++ [.lst L]))) = .ok (nL ys, stillOf (.tmp (nL ys)) (nL ys)) (D3 J cs1 b1 (suf ++ (Bk (List.replicate many []) ++ [.lst L]))) := by
      have z : fN c_law_mixed (aC (fB (fVar 0)) (aC (fB (fVar 3)) aN)) (E none none) (D3 J cs b0 (suf ++ (Bk (List.replicate many []) ++ [.lst L]))) = _ := e_fN (e_aC (e_fB (a := .loc 2) rfl rfl) (e_aC (e_fB (a := s) rfl (locd_nt' hn)) e_aN)) e2
      unfold fIter
      rw [z]
      rfl
    rw [sFor, hit]
    simp only
    refine loop_inv (fun zs ρ st => ∃ l rows cs' b' fr u v, zs = nL l ∧ rows.length = many ∧ (rows.flatten ++ l).Perm xs ∧ (∀ r ∈ rows, r.length ≤ b) ∧ Src J cs' b' ∧ ρ = E u v ∧ st = D3 J cs' b' (suf ++ (Bk rows ++ .lst L :: fr)))
      (fun r => ∃ rows cs' b' fr u v, Src J cs' b' ∧ rows.length = many ∧ rows.flatten.Perm xs ∧ (∀ r ∈ rows, r.length ≤ b) ∧ r = .nx (E u v) (D3 J cs' b' (suf ++ (Bk rows ++ .lst L :: fr)))) ⟨ys, List.replicate many [], cs1, b1, [], none, none, rfl, List.length_replicate .., by simpa using hp, ?_, S1, rfl, rfl⟩ (fun _ _ _ _ => trivial) ?_ ?_
    · intro r hr
      rw [(List.mem_replicate.mp hr).2]
      exact Nat.zero_le _
    · rintro _ _ ⟨l, rows, cs', b', fr, u, v, hz, h1, h2, h3, h4, rfl, rfl⟩
      cases l with
      | nil => exact ⟨rows, cs', b', fr, u, v, h4, h1, by simpa using h2, h3, rfl⟩
      | cons _ _ => cases hz
    · rintro x zs _ _ ⟨l, rows, cs', b', fr, u, v, hz, h1, h2, h3, h4, rfl, rfl⟩
      cases l with
      | nil => cases hz
      | cons y l =>
        cases hz
        let E2 : Option A → Rho := fun f => E (some (.int (y : Int))) f
        let st : Sto := D3 J cs' b' (suf ++ (Bk rows ++ .lst L :: fr))
        let free : List Nat := (List.range many).filter fun i => decide ((rows.getD i []).length < b)
        have gd : ∀ i, i < many → rows[i]? = some (rows.getD i []) := fun i hi => by
          rw [List.getD_eq_getElem?_getD, List.getElem?_eq_getElem (by omega)]
          rfl
        have ef : fLc (fRg1 (fVar 2)) [8] (lN 8) (uB (f2 opLt (fN bLen (aC (f2 opIx (fVar 4) (fVar 8)) aN)) (fVar 1))) (fVar 8) (E2 v) st = .ok (.tmp (nL free)) st := by
          refine e_lc (xs := nL (List.range many)) (G := fun _ => True) (st1 := st) (fRg1_nat rfl (by omega)) ?_
          refine lcF_filter (f := fun n : Nat => A.int (n : Int)) (p := fun i => decide ((rows.getD i []).length < b)) (val := fun n : Nat => A.int (n : Int)) trivial (acc := []) (size_big (by simp only [List.length_nil, List.length_range]; omega)) fun i hi => ⟨_, rfl, ?_, fun _ => rfl⟩
          have hi := List.mem_range.mp hi
          have z : seqOf (.loc (suf.length + i + 3)) st = some (nL (rows.getD i [])) := d3_lst (Bk_at (gd i hi))
          have el : bLen [.loc (suf.length + i + 3)] st = .ok (.int ((rows.getD i []).length : Nat)) st := by
            unfold bLen
            simp only [z, len_nL]
          refine e_uB ((e_f2 (e_fN (e_aC (e_f2 (a := .loc (suf.length + many + 3)) rfl (b := .int (i : Int)) rfl (ixb cs' b' rows fr i h1 hi)) e_aN) el) (b := .int (b : Int)) rfl (r := .ok (.bl (decide ((((rows.getD i []).length : Nat) : Int) < (b : Int)))) st) rfl).trans ?_)
          by_cases hh : (rows.getD i []).length < b
          · rw [decide_eq_true hh, decide_eq_true (by omega)]
          · rw [decide_eq_false hh, decide_eq_false (by omega)]
        let st2 : Sto := D3 J cs' b' (suf ++ (Bk rows ++ .lst L :: (fr ++ [.lst (nL free)])))
        have le : (suf ++ (Bk rows ++ .lst L :: fr)).length = suf.length + many + 1 + fr.length := by
          rw [List.length_append, List.length_append, List.length_cons, Bk, List.length_map]
          omega
        let lf := suf.length + many + 1 + fr.length
        have as1 : sAsg (fLc (fRg1 (fVar 2)) [8] (lN 8) (uB (f2 opLt (fN bLen (aC (f2 opIx (fVar 4) (fVar 8)) aN)) (fVar 1))) (fVar 8)) (gSet 6) (E2 v) st = .nx (E2 (some (.loc (lf + 3)))) st2 := by
          refine e_asg (e_fB ef (r := .ok (.loc (lf + 3)) st2) ?_) rfl
          rw [d3_loc, le, List.append_assoc, List.append_assoc]
          rfl
        have gl : (suf ++ (Bk rows ++ .lst L :: (fr ++ [.lst (nL free)])))[lf]? = some (.lst (nL free)) := by
          have := end_get (suf ++ (Bk rows ++ .lst L :: fr)) (.lst (nL free))
          rw [le, List.append_assoc, List.append_assoc] at this
          exact this
        have fne : nL free ≠ [] := by
          intro z
          have z' : free = [] := List.map_eq_nil_iff.mp z
          have full := flat_full (b := b) rows fun r hr => by
            obtain ⟨i, hi⟩ := List.mem_iff_getElem?.mp hr
            have hi' : i < many := by
              have := (List.getElem?_eq_some_iff.mp hi).1
              omega
            have := List.filter_eq_nil_iff.mp z' i (List.mem_range.mpr hi')
            rw [List.getD_eq_getElem?_getD, hi] at this
            simp at this
            exact this
          have := h2.length_eq
          rw [List.length_append, List.length_cons] at this
          rw [h1] at full
          omega
        obtain ⟨w, cs2, b2, S2, hw, eo⟩ := of_okL h4 (suf ++ (Bk rows ++ .lst L :: (fr ++ [.lst (nL free)]))) (s := .loc (lf + 3)) (xs := nL free) (fun cs b => d3_lst gl) (fun _ z => by cases z) trivial fne (by
          rw [len_nL]
          refine Nat.le_trans (List.length_filter_le _ _) ?_
          rw [List.length_range]
          omega) fun x hx => by
            obtain ⟨n, _, rfl⟩ := List.mem_map.mp hx
            exact .inl rfl
        obtain ⟨i, hi, rfl⟩ := List.mem_map.mp hw
        obtain ⟨hi1, hi2⟩ := List.mem_filter.mp hi
        have hi1 := List.mem_range.mp hi1
        have hi2 : (rows.getD i []).length < b := of_decide_eq_true hi2
        refine ⟨E2 v, st, rfl, .inl ⟨E2 (some (.loc (lf + 3))), D3 J cs2 b2 (suf ++ (Bk (rows.set i (rows.getD i [] ++ [y])) ++ .lst L :: (fr ++ [.lst (nL free)]))), .inl ?_, l, rows.set i (rows.getD i [] ++ [y]), cs2, b2, fr ++ [.lst (nL free)], _, _, rfl, by rw [List.length_set]; exact h1, ?_, ?_, S2, rfl, rfl⟩⟩
        · refine e_seq as1 (e_exp (a := .non) ?_)
          refine e_fM (a := .loc (suf.length + i + 3)) (st1 := D3 J cs2 b2 (suf ++ (Bk rows ++ .lst L :: (fr ++ [.lst (nL free)])))) (e_f2 (a := .loc (suf.length + many + 3)) rfl (e_fN (e_aC (e_fB (a := .loc 2) rfl rfl) (e_aC (e_fB (a := .loc (lf + 3)) rfl rfl) e_aN)) eo) (ixb cs2 b2 rows _ i h1 hi1)) (d3_isL (Bk_at (gd i hi1))) (e_aC (e_fB (a := .int (y : Int)) rfl rfl) e_aN) ?_
          unfold mApp
          simp only [d3_get (Bk_at (gd i hi1))]
          rw [if_pos (by rw [len_nL]; exact size_big (by omega)), d3_set, show nL (rows.getD i []) ++ [A.int (y : Int)] = nL (rows.getD i [] ++ [y]) from by rw [nL, nL, List.map_append]; rfl, Bk_set _ (by omega)]
        · refine List.Perm.trans ?_ h2
          refine ((flat_set rows i _ y (gd i hi1)).append_right l).trans ?_
          rw [List.append_assoc]
          exact .refl _
        · intro r hr
          rcases List.mem_or_eq_of_mem_set hr with hr | rfl
          · exact h3 r hr
          · rw [List.length_append, List.length_singleton]
            omega
  obtain ⟨rows, cs', b', fr, u, v, S', h1, h2, h3, e3⟩ := e3
  refine ⟨rows.map srtN, cs', b', S', by rw [List.length_map]; exact h1, ?_, ?_, ?_⟩
  · refine List.Perm.trans ?_ h2
    have : ∀ l : List (List Nat), ((l.map srtN).flatten).Perm l.flatten := fun l => by
      induction l with
      | nil => exact .refl _
      | cons r l ih => exact (srtN_perm r).append ih
    exact this rows
  · intro r hr
    obtain ⟨q, hq, rfl⟩ := List.mem_map.mp hr
    rw [(srtN_perm q).length_eq]
    exact h3 q hq
  · refine defn_rt rfl (st' := D3 J cs' b' (suf ++ (Bk rows ++ .lst L :: fr))) (a := tR (rows.map srtN)) ?_ (fin3 (.inl (dry_tR _)))
    refine e_seq e1 (e_seq e3 (e_ret (e_fN (as := [.tmp ((rows.map srtN).map tN)]) (st1 := D3 J cs' b' (suf ++ (Bk rows ++ .lst L :: fr))) (e_aC (e_lc (xs := L) (G := stillOf (.loc (suf.length + many + 3)) L) (st1 := D3 J cs' b' (suf ++ (Bk rows ++ .lst L :: fr))) ?_ ?_) e_aN) rfl)))
    · exact fIter_loc rfl (blk cs' b' rows fr h1)
    · have gd : ∀ i, i < many → rows[i]? = some (rows.getD i []) := fun i hi => by
        rw [List.getD_eq_getElem?_getD, List.getElem?_eq_getElem (by omega)]
        rfl
      have ev : (rows.map srtN).map tN = (List.range' (suf.length + 3) many).map fun i => tN (srtN (rows.getD (i - (suf.length + 3)) [])) := by
        refine List.ext_getElem? fun i => ?_
        by_cases hi : i < many
        · rw [List.getElem?_map, List.getElem?_map, gd i hi, List.getElem?_map, List.getElem?_range' hi, Nat.one_mul]
          show _ = some (tN (srtN (rows.getD (suf.length + 3 + i - (suf.length + 3)) [])))
          rw [Nat.add_sub_cancel_left]
          rfl
        · rw [List.getElem?_eq_none (by rw [List.length_map, List.length_map]; omega), List.getElem?_eq_none (by rw [List.length_map, List.length_range']; omega)]
      rw [ev]
      refine lcF_map (f := A.loc) (val := fun i => tN (srtN (rows.getD (i - (suf.length + 3)) []))) ?_ (size_big (by rw [List.length_range']; omega)) fun i hi => ⟨_, rfl, ?_⟩
      · show (D3 J cs' b' (suf ++ (Bk rows ++ .lst L :: fr)))[suf.length + many + 3]? = some (.lst L)
        rw [← h1]
        exact d3_get Bk_end
      · obtain ⟨k, hk, rfl⟩ := List.mem_range'.mp hi
        have z : seqOf (.loc (suf.length + 3 + 1 * k)) (D3 J cs' b' (suf ++ (Bk rows ++ .lst L :: fr))) = some (nL (rows.getD k [])) := by
          rw [Nat.one_mul, Nat.add_right_comm]
          exact d3_lst (Bk_at (gd k hk))
        rw [show suf.length + 3 + 1 * k - (suf.length + 3) = k by omega]
        exact e_fB (e_fN (e_aC (e_fN (e_aC (a := .loc (suf.length + 3 + 1 * k)) rfl e_aN) (bSrt_nL z)) e_aN) (r := .ok (tN (srtN (rows.getD k []))) (D3 J cs' b' (suf ++ (Bk rows ++ .lst L :: fr)))) rfl) rfl
end Lw
namespace Lw
open PySem PySem.Spec PyProof.Rows L2 Gd Ev
open Classical
open Wi
theorem mkTup_ok {as : List A} {st : Sto} (h : as.length ≤ 1000000) : mkTup as st = .ok (.tup as) st := if_pos (by have := size_big h; omega)
theorem mkLst_ok {as : List A} {st : Sto} (h : as.length ≤ 1000000) : mkLst as st = .ok (.tmp as) st := if_pos (by have := size_big h; omega)
theorem rgOk_nat (n : Nat) (h : n ≤ 1000000) : rgOk 0 (n : Int) := by
  unfold rgOk
  refine ⟨?_, ?_, ?_⟩ <;> first | omega | (rw [sizeLine_eq]; omega) | decide
theorem std_of {b count : Nat} {rows : List (List Nat)} (hp : rows.flatten.Perm (List.range count)) (hl : ∀ r ∈ rows, r.length ≤ b) : Std b rows ∧ cntR rows = count := by
  have hc : cntR rows = count := by rw [cntR_flat, hp.length_eq, List.length_range]
  exact ⟨⟨by rw [hc]; exact hp, hl⟩, hc⟩
theorem sub_mul {a b c d : Nat} (h1 : a ≤ b) (h2 : c ≤ d) : a * c ≤ b * d := Nat.mul_le_mul h1 h2
/-- records dealt: the argument list(range(count)) is laid first -/
theorem dealt_args {J : O} {cs : List Int} {b0 : Int} (S : Src J cs b0) (suf : Sto) {b many count : Nat} (hm : many ≤ 1000) (hb : b ≤ 1000) (hl : count ≤ b * many) :
    ∃ rows cs' b', Src J cs' b' ∧ rows.length = many ∧ Std b rows ∧ cntR rows = count ∧ c_law_dealt [.loc 2, .int (b : Int), .int (many : Int), .loc (suf.length + 3)] (D3 J cs b0 (suf ++ [.lst (nL (List.range count))])) = .ok (tR rows) (D3 J cs' b' (suf ++ [.lst (nL (List.range count))])) := by
  obtain ⟨rows, cs', b', S', h1, h2, h3, e⟩ := dealt_ok S (suf ++ [.lst (nL (List.range count))]) (s := .loc (suf.length + 3)) (xs := List.range count) (b := b) (many := many) trivial (fun cs b more => d3_lst (by rw [List.append_assoc]; simp)) hm hb (by rw [List.length_range]; exact hl)
  obtain ⟨s1, s2⟩ := std_of h2 h3
  exact ⟨rows, cs', b', S', h1, s1, s2, e⟩
theorem lrg_ok {f : FE} {ρ : Rho} {J : O} {cs : List Int} {b0 : Int} {suf : Sto} {st : Sto} {n : Nat} (h : f ρ st = .ok (.int (n : Int)) (D3 J cs b0 suf)) (hn : n ≤ 1000000) : fB (fLRg1 f) ρ st = .ok (.loc (suf.length + 3)) (D3 J cs b0 (suf ++ [.lst (nL (List.range n))])) := by
  refine e_fB (a := .tmp (nL (List.range n))) (st1 := D3 J cs b0 suf) ?_ (d3_loc ..)
  unfold fLRg1
  rw [h]
  simp only
  rw [if_pos (rgOk_nat n hn), rg_nat]
theorem standing_ok {J : O} {cs : List Int} {b0 : Int} (S : Src J cs b0) (suf : Sto) {most size : Nat} (m0 : 0 < most) (m1 : most ≤ 1000) (s0 : 0 < size) (s1 : size ≤ 1000) :
    ∃ b rows cs' b', Src J cs' b' ∧ 0 < b ∧ b ≤ size ∧ 0 < rows.length ∧ rows.length ≤ most ∧ Std b rows ∧ cntR rows ≤ b * rows.length ∧ c_law_standing [.loc 2, .int (most : Int), .int (size : Int)] (D3 J cs b0 suf) = .ok (sD b rows) (D3 J cs' b' suf) := by
  obtain ⟨rb, cs1, b1, S1, rb0, rb1, e1⟩ := any_ok S suf (n := (size : Int)) (by omega) (by omega)
  obtain ⟨kb, rfl⟩ : ∃ k : Nat, rb = (k : Int) := ⟨rb.toNat, by omega⟩
  obtain ⟨rm, cs2, b2, S2, rm0, rm1, e2⟩ := any_ok S1 suf (n := (most : Int)) (by omega) (by omega)
  obtain ⟨km, rfl⟩ : ∃ k : Nat, rm = (k : Int) := ⟨rm.toNat, by omega⟩
  obtain ⟨r3, cs3, b3, S3, r30, r31, e3⟩ := any_ok S2 suf (n := 3) (by decide) (by decide)
  let b := 1 + kb
  let many := 1 + km
  have hbm : b * many ≤ 1000 * 1000 := sub_mul (by omega) (by omega)
  have cb : 1 + ((kb : Nat) : Int) = ((b : Nat) : Int) := by omega
  have cm : 1 + ((km : Nat) : Int) = ((many : Nat) : Int) := by omega
  have e5 : sPar 3 4 (aC (fB (f2 opAdd (fC (.int 1)) (fN c_law_any (aC (fB (fVar 0)) (aC (fB (fVar 2)) aN))))) (aC (fB (f2 opAdd (fC (.int 1)) (fN c_law_any (aC (fB (fVar 0)) (aC (fB (fVar 1)) aN))))) aN)) [some (.loc 2), some (.int (most : Int)), some (.int (size : Int)), none, none, none, none] (D3 J cs b0 suf)
      = .nx [some (.loc 2), some (.int (most : Int)), some (.int (size : Int)), some (.int (b : Int)), some (.int (many : Int)), none, none] (D3 J cs2 b2 suf) := by
    refine e_par (a := .int (b : Int)) (b := .int (many : Int)) (e_aC (e_fB (a := .int (b : Int)) (e_f2 (a := .int 1) rfl (e_fN (e_aC (e_fB (a := .loc 2) rfl rfl) (e_aC (e_fB (a := .int (size : Int)) rfl rfl) e_aN)) e1) ?_) rfl) (e_aC (e_fB (a := .int (many : Int)) (e_f2 (a := .int 1) rfl (e_fN (e_aC (e_fB (a := .loc 2) rfl rfl) (e_aC (e_fB (a := .int (most : Int)) rfl rfl) e_aN)) e2) ?_) rfl) e_aN))
    · rw [← cb]
      rfl
    · rw [← cm]
      rfl
  have em : ((b : Nat) : Int) * ((many : Nat) : Int) = ((b * many : Nat) : Int) := by rw [Int.natCast_mul]
  have e6 : f2 opMul (fVar 3) (fVar 4) [some (.loc 2), some (.int (most : Int)), some (.int (size : Int)), some (.int (b : Int)), some (.int (many : Int)), none, none] (D3 J cs2 b2 suf) = .ok (.int ((b * many : Nat) : Int)) (D3 J cs2 b2 suf) := by
    refine e_f2 (a := .int (b : Int)) rfl (b := .int (many : Int)) rfl ?_
    rw [e_mul (wideA 20 20 (by omega) (by omega)), em]
  let E : Option A → Rho := fun c => [some (.loc 2), some (.int (most : Int)), some (.int (size : Int)), some (.int (b : Int)), some (.int (many : Int)), some (.int ((b * many : Nat) : Int)), c]
  have e7 : uB (f2 opEq (fN c_law_any (aC (fB (fVar 0)) (aC (fB (fC (.int 3))) aN))) (fC (.int 0))) (E none) (D3 J cs2 b2 suf) = .ok (decide (r3 = 0)) (D3 J cs3 b3 suf) :=
    e_uB (e_f2 (e_fN (e_aC (e_fB (a := .loc 2) rfl rfl) (e_aC (e_fB (a := .int 3) rfl rfl) e_aN)) e3) (b := .int 0) rfl (opEq_int _ _ _))
  have e8 : ∃ count cs4 b4, Src J cs4 b4 ∧ count ≤ b * many ∧ fIf (uB (f2 opEq (fN c_law_any (aC (fB (fVar 0)) (aC (fB (fC (.int 3))) aN))) (fC (.int 0)))) (fVar 5) (fN c_law_any (aC (fB (fVar 0)) (aC (fB (f2 opAdd (fVar 5) (fC (.int 1)))) aN))) (E none) (D3 J cs2 b2 suf) = .ok (.int ((count : Nat) : Int)) (D3 J cs4 b4 suf) := by
    by_cases h : r3 = 0
    · rw [decide_eq_true h] at e7
      exact ⟨b * many, cs3, b3, S3, Nat.le_refl _, e_fIfT e7 rfl⟩
    · rw [decide_eq_false h] at e7
      obtain ⟨r4, cs4, b4, S4, r40, r41, e4⟩ := any_ok S3 suf (n := (((b * many : Nat) : Int) + 1)) (by omega) (by omega)
      obtain ⟨k4, rfl⟩ : ∃ k : Nat, r4 = (k : Int) := ⟨r4.toNat, by omega⟩
      exact ⟨k4, cs4, b4, S4, by omega, e_fIfF e7 (e_fN (e_aC (e_fB (a := .loc 2) rfl rfl) (e_aC (e_fB (a := .int (((b * many : Nat) : Int) + 1)) (e_f2 (a := .int ((b * many : Nat) : Int)) rfl (b := .int 1) rfl rfl) rfl) e_aN)) e4)⟩
  obtain ⟨count, cs4, b4, S4, hc, e8⟩ := e8
  obtain ⟨rows, cs5, b5, S5, h1, h2, h3, e9⟩ := dealt_args S4 suf (b := b) (many := many) (count := count) (by omega) (by omega) hc
  refine ⟨b, rows, cs5, b5, S5, by omega, by omega, by omega, by omega, h2, by rw [h1, h3]; exact hc, ?_⟩
  refine defn_rt rfl (st' := D3 J cs5 b5 (suf ++ [.lst (nL (List.range count))])) (a := sD b rows) ?_ (fin3 (.inl (dry_sD _ _)))
  refine e_seq e5 (e_seq (ρ1 := E none) (e_asg (e_fB e6 rfl) rfl) (e_seq (ρ1 := E (some (.int (count : Int)))) (e_asg (e_fB e8 rfl) rfl) (e_ret (e_fN (as := [.int (b : Int), tR rows]) (st1 := D3 J cs5 b5 (suf ++ [.lst (nL (List.range count))])) ?_ (mkTup_ok (as := [.int (b : Int), tR rows]) (by simp))))))
  refine e_aC (e_fB (a := .int (b : Int)) rfl rfl) (e_aC (e_fB (a := tR rows) (e_fN (e_aC (e_fB (a := .loc 2) rfl rfl) (e_aC (e_fB (a := .int (b : Int)) rfl rfl) (e_aC (e_fB (a := .int (many : Int)) rfl rfl) (e_aC (lrg_ok (f := fVar 6) rfl (by omega)) e_aN)))) e9) rfl) e_aN)
theorem std_lt {b : Nat} {rows : List (List Nat)} (S : Std b rows) : ∀ xs ∈ rows, ∀ r ∈ xs, r < cntR rows := fun _ h _ hr => S.lt h hr
theorem wish_ok {J : O} {cs : List Int} {b0 : Int} (S : Src J cs b0) (suf : Sto) {b : Nat} {rows : List (List Nat)} (T : Std b rows) (hb : b ≤ 1000) (hm : rows.length ≤ 1000) (hc : cntR rows ≤ b * rows.length) :
    ∃ rows2 cs' b', Src J cs' b' ∧ rows2.length = rows.length ∧ Std b rows2 ∧ cntR rows2 = cntR rows ∧ c_law_wish [.loc 2, sD b rows] (D3 J cs b0 suf) = .ok (tN (places rows2)) (D3 J cs' b' suf) := by
  have hbm : b * rows.length ≤ 1000 * 1000 := sub_mul hb hm
  obtain ⟨rows2, cs5, b5, S5, h1, h2, h3, e9⟩ := dealt_args S suf (b := b) (many := rows.length) (count := cntR rows) hm hb hc
  refine ⟨rows2, cs5, b5, S5, h1, h2, h3, ?_⟩
  refine defn_rt rfl (st' := D3 J cs5 b5 (suf ++ [.lst (nL (List.range (cntR rows)))])) (a := tN (places rows2)) ?_ (fin3 (.inl (dry_tN _)))
  refine e_seq (ρ1 := [some (.loc 2), some (sD b rows), some (.int (b : Int)), some (tR rows)]) (st1 := D3 J cs b0 suf) (e_asg (e_fB (a := sD b rows) rfl rfl) rfl) (e_ret (e_fN (e_aC (e_fB (a := sD b rows2) (e_fN (as := [.int (b : Int), tR rows2]) (st1 := D3 J cs5 b5 (suf ++ [.lst (nL (List.range (cntR rows)))])) ?_ (mkTup_ok (as := [.int (b : Int), tR rows2]) (by simp))) rfl) e_aN) ?_))
  · refine e_aC (e_fB (a := .int (b : Int)) rfl rfl) (e_aC (e_fB (a := tR rows2) (e_fN (e_aC (e_fB (a := .loc 2) rfl rfl) (e_aC (e_fB (a := .int (b : Int)) rfl rfl) (e_aC (e_fB (a := .int (rows.length : Nat)) (e_fN (e_aC (a := tR rows) rfl e_aN) (len_tR _ _)) rfl) (e_aC (lrg_ok (f := fN c_law_count (aC (fB (fVar 1)) aN)) (e_fN (e_aC (e_fB (a := sD b rows) rfl rfl) e_aN) (law_count_ok (by omega))) (by omega)) e_aN)))) e9) rfl) e_aN)
  · exact law_places_ok (rows2 := []) (b2 := 0) (by omega) (by omega) (std_lt h2)
end Lw
namespace Lw
open PySem PySem.Spec PyProof.Rows L2 Gd Ev
open Classical
open Wi
theorem e_chk {fx fy : FE} {ρ : Rho} {st st1 st2 : Sto} {a a2 : A} {d : PyData} (h1 : fx ρ st = .ok a st1) (h2 : fy ρ st1 = .ok a2 st2) (d1 : toD st1 a = some d) (d2 : toD st2 a2 = some d) (r : ReprOk d) : uB (f2 opNe (fN bRepr (aC fx aN)) (fN bRepr (aC fy aN))) ρ st = .ok false st2 :=
  e_uB (e_f2 (e_fN (e_aC h1 e_aN) (bRepr_of d1 r)) (e_fN (e_aC h2 e_aN) (bRepr_of d2 r)) (opNe_same _ _))
structure Rd (b : Nat) (rows : List (List Nat)) : Prop where
  S : Std b rows
  b0 : 0 < b
  b1 : b ≤ 5
  m0 : 0 < rows.length
  m1 : rows.length ≤ 7
  c : cntR rows ≤ b * rows.length
theorem Rd.c35 {b : Nat} {rows : List (List Nat)} (h : Rd b rows) : cntR rows ≤ 35 := Nat.le_trans h.c (Nat.mul_le_mul h.b1 h.m1)
structure Wh (b : Nat) (rows : List (List Nat)) (ws : List Nat) : Prop where
  len : ws.length = cntR rows
  lt : ∀ g ∈ ws, g < rows.length
  yes : wishN b (List.replicate rows.length 0) ws = true
theorem wt_lt {rows : List (List Nat)} {ws : List Nat} (h : ∀ g ∈ ws, g < rows.length) {i : Nat} (hi : i < ws.length) : wt ws i < rows.length := by
  rw [wt_get hi]
  exact h _ (List.getElem_mem hi)
theorem wh_places {b : Nat} {rows rows2 : List (List Nat)} (S2 : Std b rows2) (h1 : rows2.length = rows.length) (h2 : cntR rows2 = cntR rows) : Wh b rows (places rows2) :=
  ⟨by rw [places_len, h2], fun g hg => by rw [← h1]; exact places_lt S2 g hg, places_wish S2 h1⟩
theorem plain_nL {xs : List Nat} : ∀ x ∈ nL xs, plainA x = true := fun x hx => by
  obtain ⟨n, _, rfl⟩ := List.mem_map.mp hx
  rfl

theorem st_0 {sc : A} {s2 s3 s4 s5 s6 s7 s8 s9 s10 s11 s12 s13 s14 s15 s16 s17 s18 s19 : Option A} {J : O} {cs : List Int} {b0 : Int} {suf : Sto} (S : Src J cs b0) : ∃ b rows cs' b', Rd b rows ∧ Src J cs' b' ∧ (sAsg (fN c_law_standing (aC (fB (fVar 1)) (aC (fB (fC (.int 7))) (aC (fB (fC (.int 5))) aN)))) (gSet 3)) [some sc, some (.loc 2), s2, s3, s4, s5, s6, s7, s8, s9, s10, s11, s12, s13, s14, s15, s16, s17, s18, s19] (D3 J cs b0 suf) = .nx [some sc, some (.loc 2), s2, some (sD b rows), s4, s5, s6, s7, s8, s9, s10, s11, s12, s13, s14, s15, s16, s17, s18, s19] (D3 J cs' b' suf) := by
  obtain ⟨b, rows, cs', b', S', h1, h2, h3, h4, h5, h6, e⟩ := standing_ok S suf (most := 7) (size := 5) (by decide) (by decide) (by decide) (by decide)
  exact ⟨b, rows, cs', b', ⟨h5, h1, h2, h3, h4, h6⟩, S', e_asg (e_fB (a := sD b rows) (e_fN (e_aC (e_fB (a := .loc 2) rfl rfl) (e_aC (e_fB (a := .int 7) rfl rfl) (e_aC (e_fB (a := .int 5) rfl rfl) e_aN))) e) rfl) rfl⟩
theorem st_1 {sc : A} {s2 s4 s5 s6 s7 s8 s9 s10 s11 s12 s13 s14 s15 s16 s17 s18 s19 : Option A} {b : Nat} {rows : List (List Nat)} {st : Sto} : (sAsg (fVar 3) (gTupF 2 (gC (gSet 4) (gC (gSet 5) gN)))) [some sc, some (.loc 2), s2, some (sD b rows), s4, s5, s6, s7, s8, s9, s10, s11, s12, s13, s14, s15, s16, s17, s18, s19] st = .nx [some sc, some (.loc 2), s2, some (sD b rows), some (.int (b : Int)), some (tR rows), s6, s7, s8, s9, s10, s11, s12, s13, s14, s15, s16, s17, s18, s19] st := e_asg (e_fB (a := sD b rows) rfl rfl) rfl
theorem st_2 {sc : A} {s2 s6 s7 s8 s9 s10 s11 s12 s13 s14 s15 s16 s17 s18 s19 : Option A} {b : Nat} {rows : List (List Nat)} {st : Sto} (h : Rd b rows) : (sPar 6 7 (aC (fB (fN bLen (aC (fVar 5) aN))) (aC (fB (fN c_law_count (aC (fB (fVar 3)) aN))) aN))) [some sc, some (.loc 2), s2, some (sD b rows), some (.int (b : Int)), some (tR rows), s6, s7, s8, s9, s10, s11, s12, s13, s14, s15, s16, s17, s18, s19] st = .nx [some sc, some (.loc 2), s2, some (sD b rows), some (.int (b : Int)), some (tR rows), some (.int ((rows.length : Nat) : Int)), some (.int ((cntR rows : Nat) : Int)), s8, s9, s10, s11, s12, s13, s14, s15, s16, s17, s18, s19] st :=
  e_par (e_aC (e_fB (e_fN (e_aC (a := tR rows) rfl e_aN) (len_tR _ _)) rfl) (e_aC (e_fB (e_fN (e_aC (e_fB (a := sD b rows) rfl rfl) e_aN) (law_count_ok (by have := h.m1; omega))) rfl) e_aN))
theorem st_3 {sc : A} {s2 s8 s9 s10 s11 s12 s13 s14 s15 s16 s17 s18 s19 : Option A} {J : O} {cs : List Int} {b0 : Int} {suf : Sto} {b : Nat} {rows : List (List Nat)} (S : Src J cs b0) (h : Rd b rows) : ∃ ws cs' b', Wh b rows ws ∧ Src J cs' b' ∧ (sAsg (fIf (uB (f2 opGt (fN c_law_any (aC (fB (fVar 1)) (aC (fB (fC (.int 4))) aN))) (fC (.int 0)))) (fN c_law_wish (aC (fB (fVar 1)) (aC (fB (fVar 3)) aN))) (fN c_law_places (aC (fB (fVar 3)) aN))) (gSet 8)) [some sc, some (.loc 2), s2, some (sD b rows), some (.int (b : Int)), some (tR rows), some (.int ((rows.length : Nat) : Int)), some (.int ((cntR rows : Nat) : Int)), s8, s9, s10, s11, s12, s13, s14, s15, s16, s17, s18, s19] (D3 J cs b0 suf) = .nx [some sc, some (.loc 2), s2, some (sD b rows), some (.int (b : Int)), some (tR rows), some (.int ((rows.length : Nat) : Int)), some (.int ((cntR rows : Nat) : Int)), some (tN ws), s9, s10, s11, s12, s13, s14, s15, s16, s17, s18, s19] (D3 J cs' b' suf) := by
  obtain ⟨r, cs1, b1, S1, r0, r1, e1⟩ := any_ok S suf (n := 4) (by decide) (by decide)
  have hb := h.b1
  have hm := h.m1
  have hc := h.c35
  have e2 : uB (f2 opGt (fN c_law_any (aC (fB (fVar 1)) (aC (fB (fC (.int 4))) aN))) (fC (.int 0))) [some sc, some (.loc 2), s2, some (sD b rows), some (.int (b : Int)), some (tR rows), some (.int ((rows.length : Nat) : Int)), some (.int ((cntR rows : Nat) : Int)), s8, s9, s10, s11, s12, s13, s14, s15, s16, s17, s18, s19] (D3 J cs b0 suf) = .ok (decide (0 < r)) (D3 J cs1 b1 suf) :=
    e_uB (e_f2 (e_fN (e_aC (e_fB (a := .loc 2) rfl rfl) (e_aC (e_fB (a := .int 4) rfl rfl) e_aN)) e1) (b := .int 0) rfl rfl)
  by_cases hr : 0 < r
  · rw [decide_eq_true hr] at e2
    obtain ⟨rows2, cs2, b2, S2, h1, h2, h3, e⟩ := wish_ok S1 suf h.S (by omega) (by omega) h.c
    exact ⟨places rows2, cs2, b2, wh_places h2 h1 h3, S2, e_asg (e_fB (a := tN (places rows2)) (e_fIfT e2 (e_fN (e_aC (e_fB (a := .loc 2) rfl rfl) (e_aC (e_fB (a := sD b rows) rfl rfl) e_aN)) e)) rfl) rfl⟩
  · rw [decide_eq_false hr] at e2
    exact ⟨places rows, cs1, b1, wh_places h.S rfl rfl, S1, e_asg (e_fB (a := tN (places rows)) (e_fIfF e2 (e_fN (e_aC (e_fB (a := sD b rows) rfl rfl) e_aN) (law_places_ok (rows2 := []) (b2 := 0) (by omega) (by omega) (std_lt h.S)))) rfl) rfl⟩
theorem big_row {b : Nat} {rows : List (List Nat)} (h : Rd b rows) {xs : List Nat} (hx : xs ∈ rows) : xs.length ≤ 5 := Nat.le_trans (h.S.le xs hx) h.b1
theorem st_4 {sc : A} {s2 s9 s10 s11 s12 s13 s14 s15 s16 s17 s18 s19 : Option A} {st : Sto} {b : Nat} {rows : List (List Nat)} {ws : List Nat} (h : Rd b rows) (hw : Wh b rows ws) : (sIf (uOr (uB (f2 opIsN (fNK c_is_wish (aC (fB (fVar 8)) (aC (fB (fVar 3)) aN))) (fC (.bl true)))) (uB (f2 opNe (fN bRepr (aC (fNK c_crowds (aC (fB (fVar 8)) (aC (fB (fVar 3)) aN))) aN)) (fN bRepr (aC (fN c_law_crowds (aC (fB (fVar 3)) (aC (fB (fVar 8)) aN))) aN))))) (sRet (fC (.bl false))) sNil) [some sc, some (.loc 2), s2, some (sD b rows), some (.int (b : Int)), some (tR rows), some (.int ((rows.length : Nat) : Int)), some (.int ((cntR rows : Nat) : Int)), some (tN ws), s9, s10, s11, s12, s13, s14, s15, s16, s17, s18, s19] st = .nx [some sc, some (.loc 2), s2, some (sD b rows), some (.int (b : Int)), some (tR rows), some (.int ((rows.length : Nat) : Int)), some (.int ((cntR rows : Nat) : Int)), some (tN ws), s9, s10, s11, s12, s13, s14, s15, s16, s17, s18, s19] st := by
  have hb := h.b1
  have hm := h.m1
  have hc := h.c35
  have e1 : c_is_wish [sD b rows, tN ws] st = .ok (.bl true) st := by
    have := is_wish_tup (b := b) (rows := rows) (xs := nL ws) (st := st) (by omega) plain_nL
    rw [wishA_nL, hw.yes, decide_eq_true (by rw [len_nL]; exact hw.len)] at this
    exact this
  have lt : ∀ xs ∈ rows, ∀ r ∈ xs, r < ws.length ∧ wt ws r < rows.length := fun xs hx r hr => by
    have : r < ws.length := by rw [hw.len]; exact h.S.lt hx hr
    exact ⟨this, wt_lt hw.lt this⟩
  refine e_ifF (e_uOrF (e_uB (e_f2 (e_fNK (as := [tN ws, sD b rows]) (e_aC (e_fB (a := tN ws) rfl rfl) (e_aC (e_fB (a := sD b rows) rfl rfl) e_aN)) e1) (b := .bl true) rfl (r := .ok (.bl false) st) rfl))
    (e_chk (e_fNK (as := [tN ws, sD b rows]) (e_aC (e_fB (a := tN ws) rfl rfl) (e_aC (e_fB (a := sD b rows) rfl rfl) e_aN)) (crowds_ok (by omega) lt)) (e_fN (e_aC (e_fB (a := sD b rows) rfl rfl) (e_aC (e_fB (a := tN ws) rfl rfl) e_aN)) (law_crowds_ok (by omega) fun xs hx => ⟨by have := big_row h hx; omega, fun r hr => (lt xs hx r hr).1⟩)) (toD_tR _ _) (toD_tR _ _)
      (repr_dR 7 (by rw [List.length_map]; omega) fun xs hx => ?_))) rfl
  obtain ⟨q, hq, rfl⟩ := List.mem_map.mp hx
  refine ⟨by rw [crowdN, List.length_map, List.length_range]; exact hm, fun x hx => ?_⟩
  obtain ⟨a, _, rfl⟩ := List.mem_map.mp hx
  have : (q.map (wt ws)).count a ≤ (q.map (wt ws)).length := List.count_le_length
  rw [List.length_map] at this
  have := big_row h hq
  omega
theorem st_5 {sc : A} {s2 s9 s10 s11 s12 s13 s14 s15 s16 s17 s18 s19 : Option A} {st : Sto} {b : Nat} {rows : List (List Nat)} {ws : List Nat} (h : Rd b rows) (hw : Wh b rows ws) : (sIf (uB (f2 opNe (fN bRepr (aC (fNK c_is_met (aC (fB (fVar 8)) (aC (fB (fVar 3)) aN))) aN)) (fN bRepr (aC (f2 opEq (fVar 8) (fN c_law_places (aC (fB (fVar 3)) aN))) aN)))) (sRet (fC (.bl false))) sNil) [some sc, some (.loc 2), s2, some (sD b rows), some (.int (b : Int)), some (tR rows), some (.int ((rows.length : Nat) : Int)), some (.int ((cntR rows : Nat) : Int)), some (tN ws), s9, s10, s11, s12, s13, s14, s15, s16, s17, s18, s19] st = .nx [some sc, some (.loc 2), s2, some (sD b rows), some (.int (b : Int)), some (tR rows), some (.int ((rows.length : Nat) : Int)), some (.int ((cntR rows : Nat) : Int)), some (tN ws), s9, s10, s11, s12, s13, s14, s15, s16, s17, s18, s19] st := by
  have hm := h.m1
  have hc := h.c35
  have e2 : opEq (tN ws) (tN (places rows)) st = .ok (.bl (decide (metW rows ws))) st := by
    rw [opEq_of (toD_tN st ws) (toD_tN st (places rows)) (shaped_dN _) (shaped_dN _) (.inl rfl), eqv_dN]
    have := metW_iff h.S hw.len
    by_cases z : ws = places rows
    · rw [decide_eq_true z, decide_eq_true (this.mpr z)]
    · rw [decide_eq_false z, decide_eq_false fun y => z (this.mp y)]
  exact e_ifF (e_chk (e_fNK (as := [tN ws, sD b rows]) (e_aC (e_fB (a := tN ws) rfl rfl) (e_aC (e_fB (a := sD b rows) rfl rfl) e_aN)) (is_met_ok fun xs hx r hr => by rw [hw.len]; exact h.S.lt hx hr)) (e_f2 (a := tN ws) rfl (e_fN (e_aC (e_fB (a := sD b rows) rfl rfl) e_aN) (law_places_ok (rows2 := []) (b2 := 0) (by omega) (by omega) (std_lt h.S))) e2) rfl rfl (repr_bool _)) rfl
end Lw
namespace Lw
open PySem PySem.Spec PyProof.Rows L2 Gd Ev
open Classical
open Wi
/-- what is no wish -/
def BadV (b : Nat) (rows : List (List Nat)) (a : A) : Prop := (∃ xs, a = .tup xs ∧ (∀ x ∈ xs, plainA x = true) ∧ (xs.length ≠ cntR rows ∨ wishA b (List.replicate rows.length 0) xs = false)) ∨ a = .non ∨ (∃ i, a = .int i) ∨ ∃ z, a = .str z
theorem plain_dry {a : A} (h : plainA a = true) : a.dry = true := by
  cases a <;> first | rfl | cases h
theorem dryL_all : ∀ {xs : List A}, (∀ x ∈ xs, x.dry = true) → dryL xs = true
  | [], _ => rfl
  | x :: xs, h => by
    show (x.dry && dryL xs) = true
    rw [h x (by simp), dryL_all fun y hy => h y (List.mem_cons_of_mem _ hy)]
    rfl
theorem BadV.dry {b : Nat} {rows : List (List Nat)} {a : A} (h : BadV b rows a) : a.dry = true := by
  rcases h with ⟨xs, rfl, hp, _⟩ | rfl | ⟨i, rfl⟩ | ⟨z, rfl⟩
  · exact dryL_all fun x hx => plain_dry (hp x hx)
  · rfl
  · rfl
  · rfl
theorem BadV.nt {b : Nat} {rows : List (List Nat)} {a : A} (h : BadV b rows a) : a.nt := by
  rcases h with ⟨xs, rfl, hp, _⟩ | rfl | ⟨i, rfl⟩ | ⟨z, rfl⟩ <;> trivial
theorem BadV.no {b : Nat} {rows : List (List Nat)} {a : A} (h : BadV b rows a) (hm : rows.length ≤ 1000000) (st : Sto) : c_is_wish [sD b rows, a] st = .ok (.bl false) st := by
  rcases h with ⟨xs, rfl, hp, hx⟩ | rfl | ⟨i, rfl⟩ | ⟨z, rfl⟩
  · rw [is_wish_tup hm hp]
    rcases hx with hx | hx
    · rw [decide_eq_false hx]
      rfl
    · rw [hx, Bool.and_false]
  · exact is_wish_no hm rfl rfl trivial
  · exact is_wish_no hm rfl rfl trivial
  · exact is_wish_no hm rfl rfl trivial
theorem cut1 {α : Type} {xs : List α} : cutA xs (some 1) none = xs.tail := by
  unfold cutA
  rw [show HT.sIx xs.length 0 (some 1) = min 1 xs.length from HT.sIx_nat _ _ 1, show HT.sIx xs.length xs.length none = xs.length from rfl]
  cases xs with
  | nil => rfl
  | cons x r =>
    rw [List.length_cons, show min 1 (r.length + 1) = 1 by omega]
    show List.take (r.length + 1 - 1) r = r
    rw [Nat.add_sub_cancel, List.take_length]
theorem tail_nL (ws : List Nat) : (nL ws).tail = nL ws.tail := by cases ws <;> rfl
theorem e_bad {b : Nat} {rows : List (List Nat)} {u : FT} {fa fb : FE} {ρ : Rho} {st : Sto} {k : Bool} (hu : u ρ st = .ok k st) (ha : k = true → ∃ a, fa ρ st = .ok a st ∧ BadV b rows a) (hb : k = false → ∃ a, fb ρ st = .ok a st ∧ BadV b rows a) : ∃ a, fB (fIf u fa fb) ρ st = .ok a st ∧ BadV b rows a := by
  cases k with
  | true =>
    obtain ⟨a, h1, h2⟩ := ha rfl
    exact ⟨a, e_fB (e_fIfT hu h1) (locd_nt' h2.nt), h2⟩
  | false =>
    obtain ⟨a, h1, h2⟩ := hb rfl
    exact ⟨a, e_fB (e_fIfF hu h1) (locd_nt' h2.nt), h2⟩
theorem tup_add {xs ys : List A} {st : Sto} (h : xs.length + ys.length ≤ 1000000) : opAdd (.tup xs) (.tup ys) st = .ok (.tup (xs ++ ys)) st := if_pos (by have := size_big h; omega)
theorem tup_mul {x : A} {n : Nat} {st : Sto} (h0 : 0 < n) (h1 : n ≤ 1000) : opMul (.tup [x]) (.int (n : Int)) st = .ok (.tup (List.replicate n x)) st := by
  show (if [x].length ≠ 0 ∧ 1 ≤ (n : Int) ∧ (n : Int) ≤ 1000 ∧ [x].length ≤ 1000 then R.ok (A.tup (List.replicate ((n : Nat) : Int).toNat [x]).flatten) st else .no) = _
  rw [if_pos ⟨by simp, by omega, by omega, by simp⟩, List.flatten_replicate_singleton]
  rfl
theorem mk1 {f : FE} {ρ : Rho} {st : Sto} {a : A} (h : f ρ st = .ok a st) (hn : a.nt) : fN mkTup (aC (fB f) aN) ρ st = .ok (.tup [a]) st := e_fN (as := [a]) (e_aC (e_fB h (locd_nt' hn)) e_aN) (mkTup_ok (by simp))

section
variable {sc : A}  {b : Nat} {rows : List (List Nat)} {ws : List Nat} {st : Sto} {s9' : Option A}
theorem gt0 : uB (f2 opGt (fVar 7) (fC (.int 0))) [some sc, some (.loc 2), s2, some (sD b rows), some (.int (b : Int)), some (tR rows), some (.int ((rows.length : Nat) : Int)), some (.int ((cntR rows : Nat) : Int)), some (tN ws), s9', s10, s11, s12, s13, s14, s15, s16, s17, s18, s19] st = .ok (decide ((0 : Int) < ((cntR rows : Nat) : Int))) st := rfl
theorem tail_ok : fSl (fVar 8) (oS (fC (.int 1))) oN [some sc, some (.loc 2), s2, some (sD b rows), some (.int (b : Int)), some (tR rows), some (.int ((rows.length : Nat) : Int)), some (.int ((cntR rows : Nat) : Int)), some (tN ws), s9', s10, s11, s12, s13, s14, s15, s16, s17, s18, s19] st = .ok (.tup (nL ws.tail)) st := by
  refine e_fSl (a := tN ws) rfl (e_oS (i := 1) rfl) e_oN ?_
  show R.ok (A.tup (cutA (nL ws) (some 1) none)) st = _
  rw [cut1, tail_nL]
theorem bad_2 (h : Rd b rows) (hw : Wh b rows ws) : ∃ a, (fB (f2 opAdd (fVar 8) (fN mkTup (aC (fB (fC (.int 0))) aN)))) [some sc, some (.loc 2), s2, some (sD b rows), some (.int (b : Int)), some (tR rows), some (.int ((rows.length : Nat) : Int)), some (.int ((cntR rows : Nat) : Int)), some (tN ws), s9', s10, s11, s12, s13, s14, s15, s16, s17, s18, s19] st = .ok a st ∧ BadV b rows a := by
  have hc := h.c35
  have hl := hw.len
  refine ⟨.tup (nL ws ++ [.int 0]), e_fB (e_f2 (a := tN ws) rfl (mk1 (a := .int 0) rfl trivial) (tup_add (by rw [len_nL]; simp; omega))) rfl, .inl ⟨_, rfl, fun x hx => ?_, .inl ?_⟩⟩
  · rcases List.mem_append.mp hx with hx | hx
    · exact plain_nL x hx
    · rw [List.mem_singleton.mp hx]
      rfl
  · rw [List.length_append, len_nL, hw.len]
    simp
theorem bad_3 (h : Rd b rows) (hw : Wh b rows ws) : ∃ a, (fB (fIf (uB (f2 opGt (fVar 7) (fC (.int 0)))) (fSl (fVar 8) (oS (fC (.int 1))) oN) (fN mkTup (aC (fB (fC (.int 0))) aN)))) [some sc, some (.loc 2), s2, some (sD b rows), some (.int (b : Int)), some (tR rows), some (.int ((rows.length : Nat) : Int)), some (.int ((cntR rows : Nat) : Int)), some (tN ws), s9', s10, s11, s12, s13, s14, s15, s16, s17, s18, s19] st = .ok a st ∧ BadV b rows a := by
  have hl := hw.len
  refine e_bad gt0 (fun hk => ⟨_, tail_ok, .inl ⟨_, rfl, plain_nL, .inl ?_⟩⟩) fun hk => ⟨_, mk1 (a := .int 0) rfl trivial, .inl ⟨_, rfl, fun x hx => ?_, .inl ?_⟩⟩
  · have := of_decide_eq_true hk
    rw [len_nL, List.length_tail]
    omega
  · rw [List.mem_singleton.mp hx]
    rfl
  · have := of_decide_eq_false hk
    simp
    omega
theorem bad_4 (h : Rd b rows) : ∃ a, (fB (fIf (uB (f2 opGt (fVar 7) (fC (.int 0)))) (f2 opMul (fN mkTup (aC (fB (fVar 6)) aN)) (fVar 7)) (fC .non))) [some sc, some (.loc 2), s2, some (sD b rows), some (.int (b : Int)), some (tR rows), some (.int ((rows.length : Nat) : Int)), some (.int ((cntR rows : Nat) : Int)), some (tN ws), s9', s10, s11, s12, s13, s14, s15, s16, s17, s18, s19] st = .ok a st ∧ BadV b rows a := by
  have hc := h.c35
  refine e_bad gt0 (fun hk => ?_) fun hk => ⟨.non, rfl, .inr (.inl rfl)⟩
  have h0 : 0 < cntR rows := by have := of_decide_eq_true hk; omega
  refine ⟨_, e_f2 (mk1 (a := .int ((rows.length : Nat) : Int)) rfl trivial) (b := .int ((cntR rows : Nat) : Int)) rfl (tup_mul h0 (by omega)), .inl ⟨_, rfl, fun x hx => ?_, .inr ?_⟩⟩
  · rw [(List.mem_replicate.mp hx).2]
    rfl
  · obtain ⟨n, hn⟩ : ∃ n, cntR rows = n + 1 := ⟨cntR rows - 1, by omega⟩
    rw [hn, List.replicate_succ]
    show (decide (0 ≤ ((rows.length : Nat) : Int)) && (decide (((rows.length : Nat) : Int).toNat < (List.replicate rows.length 0).length) && _ && _)) = false
    rw [Int.toNat_natCast, List.length_replicate, decide_eq_false (Nat.lt_irrefl _), Bool.false_and, Bool.false_and, Bool.and_false]
theorem bad_6 (h : Rd b rows) : ∃ a, (fB (fIf (uB (f2 opGt (fVar 7) (fC (.int 0)))) (f2 opMul (fN mkTup (aC (fB (fC (.bl true))) aN)) (fVar 7)) (fC (.int 7)))) [some sc, some (.loc 2), s2, some (sD b rows), some (.int (b : Int)), some (tR rows), some (.int ((rows.length : Nat) : Int)), some (.int ((cntR rows : Nat) : Int)), some (tN ws), s9', s10, s11, s12, s13, s14, s15, s16, s17, s18, s19] st = .ok a st ∧ BadV b rows a := by
  have hc := h.c35
  refine e_bad gt0 (fun hk => ?_) fun hk => ⟨.int 7, rfl, .inr (.inr (.inl ⟨7, rfl⟩))⟩
  have h0 : 0 < cntR rows := by have := of_decide_eq_true hk; omega
  refine ⟨_, e_f2 (mk1 (a := .bl true) rfl trivial) (b := .int ((cntR rows : Nat) : Int)) rfl (tup_mul h0 (by omega)), .inl ⟨_, rfl, fun x hx => ?_, .inr ?_⟩⟩
  · rw [(List.mem_replicate.mp hx).2]
    rfl
  · obtain ⟨n, hn⟩ : ∃ n, cntR rows = n + 1 := ⟨cntR rows - 1, by omega⟩
    rw [hn, List.replicate_succ]
    rfl
theorem bad_8 (h : Rd b rows) (hw : Wh b rows ws) : ∃ a, (fB (fIf (uB (f2 opGt (fVar 7) (fC (.int 0)))) (f2 opAdd (fN mkTup (aC (fB (fNeg (fC (.int 1)))) aN)) (fSl (fVar 8) (oS (fC (.int 1))) oN)) (fC (.str "")))) [some sc, some (.loc 2), s2, some (sD b rows), some (.int (b : Int)), some (tR rows), some (.int ((rows.length : Nat) : Int)), some (.int ((cntR rows : Nat) : Int)), some (tN ws), s9', s10, s11, s12, s13, s14, s15, s16, s17, s18, s19] st = .ok a st ∧ BadV b rows a := by
  have hc := h.c35
  have hl := hw.len
  refine e_bad gt0 (fun hk => ?_) fun hk => ⟨.str "", rfl, .inr (.inr (.inr ⟨"", rfl⟩))⟩
  refine ⟨.tup ([.int (-1)] ++ nL ws.tail), e_f2 (mk1 (a := .int (-1)) (e_fNeg (i := 1) rfl) trivial) tail_ok (tup_add (by rw [len_nL, List.length_tail]; simp; omega)), .inl ⟨_, rfl, fun x hx => ?_, .inr rfl⟩⟩
  rcases List.mem_append.mp hx with hx | hx
  · rw [List.mem_singleton.mp hx]
    rfl
  · exact plain_nL x hx
theorem bad_9 (h : Rd b rows) (hw : Wh b rows ws) : ∃ a, (fB (fIf (uB (f2 opGt (fVar 7) (fC (.int 0)))) (f2 opAdd (fN mkTup (aC (fB (fC (.str "0"))) aN)) (fSl (fVar 8) (oS (fC (.int 1))) oN)) (fN mkTup (aC (fB (fC (.int 0))) (aC (fB (fC (.int 0))) aN))))) [some sc, some (.loc 2), s2, some (sD b rows), some (.int (b : Int)), some (tR rows), some (.int ((rows.length : Nat) : Int)), some (.int ((cntR rows : Nat) : Int)), some (tN ws), s9', s10, s11, s12, s13, s14, s15, s16, s17, s18, s19] st = .ok a st ∧ BadV b rows a := by
  have hc := h.c35
  have hl := hw.len
  refine e_bad gt0 (fun hk => ?_) fun hk => ⟨.tup [.int 0, .int 0], e_fN (as := [.int 0, .int 0]) (e_aC (e_fB (a := .int 0) rfl rfl) (e_aC (e_fB (a := .int 0) rfl rfl) e_aN)) (mkTup_ok (by simp)), .inl ⟨_, rfl, fun x hx => ?_, .inl ?_⟩⟩
  · refine ⟨.tup ([.str "0"] ++ nL ws.tail), e_f2 (mk1 (a := .str "0") rfl trivial) tail_ok (tup_add (by rw [len_nL, List.length_tail]; simp; omega)), .inl ⟨_, rfl, fun x hx => ?_, .inr rfl⟩⟩
    rcases List.mem_append.mp hx with hx | hx
    · rw [List.mem_singleton.mp hx]
      rfl
    · exact plain_nL x hx
  · rcases List.mem_cons.mp hx with rfl | hx
    · rfl
    · rw [List.mem_singleton.mp hx]
      rfl
  · have := of_decide_eq_false hk
    simp
    omega
theorem bad_7 (h : Rd b rows) (hk : b < cntR rows) : ∃ a, (fB (fIf (uB (f2 opGt (fVar 7) (fVar 4))) (f2 opMul (fN mkTup (aC (fB (fC (.int 0))) aN)) (fVar 7)) (fN mkLst aN))) [some sc, some (.loc 2), s2, some (sD b rows), some (.int (b : Int)), some (tR rows), some (.int ((rows.length : Nat) : Int)), some (.int ((cntR rows : Nat) : Int)), some (tN ws), s9', s10, s11, s12, s13, s14, s15, s16, s17, s18, s19] st = .ok a st ∧ BadV b rows a := by
  have hc := h.c35
  have hb := h.b0
  refine ⟨_, e_fB (e_fIfT (show uB (f2 opGt (fVar 7) (fVar 4)) [some sc, some (.loc 2), s2, some (sD b rows), some (.int (b : Int)), some (tR rows), some (.int ((rows.length : Nat) : Int)), some (.int ((cntR rows : Nat) : Int)), some (tN ws), s9', s10, s11, s12, s13, s14, s15, s16, s17, s18, s19] st = .ok true st from ?_) (e_f2 (mk1 (a := .int 0) rfl trivial) (b := .int ((cntR rows : Nat) : Int)) rfl (tup_mul (by omega) (by omega)))) rfl, .inl ⟨_, rfl, fun x hx => ?_, .inr ?_⟩⟩
  · show R.ok (decide (((b : Nat) : Int) < ((cntR rows : Nat) : Int))) st = _
    rw [decide_eq_true (by omega)]
  · rw [(List.mem_replicate.mp hx).2]
    rfl
  · have := wishA_nL b (List.replicate (cntR rows) 0) (List.replicate rows.length 0)
    have e : nL (List.replicate (cntR rows) 0) = List.replicate (cntR rows) (.int 0) := by rw [nL, List.map_replicate]; rfl
    rw [e] at this
    rw [this]
    have z : (List.replicate rows.length 0).getD 0 0 = 0 := by
      rw [List.getD_eq_getElem?_getD]
      simp [h.m0]
    exact wishN_zero _ _ (by rw [List.length_replicate]; exact h.m0) (by rw [z]; omega) (by rw [z]; omega)
end
theorem st_6 {sc : A} {s2 s9 s10 s11 s12 s13 s14 s15 s16 s17 s18 s19 : Option A} {J : O} {cs : List Int} {b0 : Int} {suf : Sto} {b : Nat} {rows : List (List Nat)} {ws : List Nat} (h : Rd b rows) (hw : Wh b rows ws) : ∃ os, (∀ x ∈ os, BadV b rows x) ∧ os.length = 5 ∧ (sAsg (fN mkLst (aC (fB (fN bLst (aC (fVar 8) aN))) (aC (fB (f2 opAdd (fVar 8) (fN mkTup (aC (fB (fC (.int 0))) aN)))) (aC (fB (fIf (uB (f2 opGt (fVar 7) (fC (.int 0)))) (fSl (fVar 8) (oS (fC (.int 1))) oN) (fN mkTup (aC (fB (fC (.int 0))) aN)))) (aC (fB (fIf (uB (f2 opGt (fVar 7) (fC (.int 0)))) (f2 opMul (fN mkTup (aC (fB (fVar 6)) aN)) (fVar 7)) (fC .non))) (aC (fB (fC .non)) (aC (fB (fIf (uB (f2 opGt (fVar 7) (fC (.int 0)))) (f2 opMul (fN mkTup (aC (fB (fC (.bl true))) aN)) (fVar 7)) (fC (.int 7)))) aN))))))) (gSet 9)) [some sc, some (.loc 2), s2, some (sD b rows), some (.int (b : Int)), some (tR rows), some (.int ((rows.length : Nat) : Int)), some (.int ((cntR rows : Nat) : Int)), some (tN ws), s9, s10, s11, s12, s13, s14, s15, s16, s17, s18, s19] (D3 J cs b0 suf) = .nx [some sc, some (.loc 2), s2, some (sD b rows), some (.int (b : Int)), some (tR rows), some (.int ((rows.length : Nat) : Int)), some (.int ((cntR rows : Nat) : Int)), some (tN ws), some (.loc (suf.length + 1 + 3)), s10, s11, s12, s13, s14, s15, s16, s17, s18, s19] (D3 J cs b0 (suf ++ [.lst (nL ws), .lst (.loc (suf.length + 3) :: os)])) := by
  obtain ⟨o2, e2, q2⟩ := bad_2 (sc := sc) (s2 := s2) (s9' := s9) (s10 := s10) (s11 := s11) (s12 := s12) (s13 := s13) (s14 := s14) (s15 := s15) (s16 := s16) (s17 := s17) (s18 := s18) (s19 := s19) (st := D3 J cs b0 (suf ++ [.lst (nL ws)])) h hw
  obtain ⟨o3, e3, q3⟩ := bad_3 (sc := sc) (s2 := s2) (s9' := s9) (s10 := s10) (s11 := s11) (s12 := s12) (s13 := s13) (s14 := s14) (s15 := s15) (s16 := s16) (s17 := s17) (s18 := s18) (s19 := s19) (st := D3 J cs b0 (suf ++ [.lst (nL ws)])) h hw
  obtain ⟨o4, e4, q4⟩ := bad_4 (sc := sc) (s2 := s2) (s9' := s9) (s10 := s10) (s11 := s11) (s12 := s12) (s13 := s13) (s14 := s14) (s15 := s15) (s16 := s16) (s17 := s17) (s18 := s18) (s19 := s19) (ws := ws) (st := D3 J cs b0 (suf ++ [.lst (nL ws)])) h
  obtain ⟨o6, e6, q6⟩ := bad_6 (sc := sc) (s2 := s2) (s9' := s9) (s10 := s10) (s11 := s11) (s12 := s12) (s13 := s13) (s14 := s14) (s15 := s15) (s16 := s16) (s17 := s17) (s18 := s18) (s19 := s19) (ws := ws) (st := D3 J cs b0 (suf ++ [.lst (nL ws)])) h
  refine ⟨[o2, o3, o4, .non, o6], fun x hx => ?_, rfl, ?_⟩
  · simp only [List.mem_cons, List.not_mem_nil, or_false] at hx
    rcases hx with rfl | rfl | rfl | rfl | rfl
    · exact q2
    · exact q3
    · exact q4
    · exact .inr (.inl rfl)
    · exact q6
  · refine e_asg (e_fB (e_fN (as := [.loc (suf.length + 3), o2, o3, o4, .non, o6]) (e_aC (e_fB (a := .tmp (nL ws)) (st1 := D3 J cs b0 suf) (e_fN (e_aC (a := tN ws) rfl e_aN) rfl) (d3_loc ..)) (e_aC e2 (e_aC e3 (e_aC e4 (e_aC (e_fB (a := .non) rfl rfl) (e_aC e6 e_aN)))))) (mkLst_ok (by simp))) (r := .ok (.loc (suf.length + 1 + 3)) (D3 J cs b0 (suf ++ [.lst (nL ws), .lst (.loc (suf.length + 3) :: [o2, o3, o4, .non, o6])]))) ?_) rfl
    rw [d3_loc, List.length_append, List.append_assoc]
    rfl

/-- the lot of what is no wish -/
structure Odd (b : Nat) (rows : List (List Nat)) (suf : Sto) (odd : List A) : Prop where
  ne : odd ≠ []
  len : odd.length ≤ 100
  all : ∀ x ∈ odd, BadV b rows x ∨ ∃ l ys, x = .loc (l + 3) ∧ suf[l]? = some (.lst ys)
theorem st_7 {sc : A} {s2 s10 s11 s12 s13 s14 s15 s16 s17 s18 s19 : Option A} {J : O} {cs : List Int} {b0 : Int} {suf : Sto} {b : Nat} {rows : List (List Nat)} {ws : List Nat} {os : List A} (h : Rd b rows) (hw : Wh b rows ws) (ho : ∀ x ∈ os, BadV b rows x) (hl : os.length = 5) : ∃ suf2 odd, Odd b rows suf2 odd ∧
    (sAsg (f2 opAdd (fVar 9) (fN mkLst (aC (fB (fIf (uB (f2 opGt (fVar 7) (fVar 4))) (f2 opMul (fN mkTup (aC (fB (fC (.int 0))) aN)) (fVar 7)) (fN mkLst aN))) (aC (fB (fIf (uB (f2 opGt (fVar 7) (fC (.int 0)))) (f2 opAdd (fN mkTup (aC (fB (fNeg (fC (.int 1)))) aN)) (fSl (fVar 8) (oS (fC (.int 1))) oN)) (fC (.str "")))) (aC (fB (fIf (uB (f2 opGt (fVar 7) (fC (.int 0)))) (f2 opAdd (fN mkTup (aC (fB (fC (.str "0"))) aN)) (fSl (fVar 8) (oS (fC (.int 1))) oN)) (fN mkTup (aC (fB (fC (.int 0))) (aC (fB (fC (.int 0))) aN))))) aN))))) (gSet 9)) [some sc, some (.loc 2), s2, some (sD b rows), some (.int (b : Int)), some (tR rows), some (.int ((rows.length : Nat) : Int)), some (.int ((cntR rows : Nat) : Int)), some (tN ws), some (.loc (suf.length + 1 + 3)), s10, s11, s12, s13, s14, s15, s16, s17, s18, s19] (D3 J cs b0 (suf ++ [.lst (nL ws), .lst (.loc (suf.length + 3) :: os)])) = .nx [some sc, some (.loc 2), s2, some (sD b rows), some (.int (b : Int)), some (tR rows), some (.int ((rows.length : Nat) : Int)), some (.int ((cntR rows : Nat) : Int)), some (tN ws), some (.loc (suf2.length + 3)), s10, s11, s12, s13, s14, s15, s16, s17, s18, s19] (D3 J cs b0 (suf2 ++ [.lst odd])) := by
  let suf1 : Sto := suf ++ [.lst (nL ws), .lst (.loc (suf.length + 3) :: os)]
  have main : ∀ (more : Sto) (o7 : A), (BadV b rows o7 ∨ ∃ l ys, o7 = .loc (l + 3) ∧ (suf1 ++ more)[l]? = some (.lst ys)) → (fB (fIf (uB (f2 opGt (fVar 7) (fVar 4))) (f2 opMul (fN mkTup (aC (fB (fC (.int 0))) aN)) (fVar 7)) (fN mkLst aN))) [some sc, some (.loc 2), s2, some (sD b rows), some (.int (b : Int)), some (tR rows), some (.int ((rows.length : Nat) : Int)), some (.int ((cntR rows : Nat) : Int)), some (tN ws), some (.loc (suf.length + 1 + 3)), s10, s11, s12, s13, s14, s15, s16, s17, s18, s19] (D3 J cs b0 suf1) = .ok o7 (D3 J cs b0 (suf1 ++ more)) → ∃ suf2 odd, Odd b rows suf2 odd ∧
    (sAsg (f2 opAdd (fVar 9) (fN mkLst (aC (fB (fIf (uB (f2 opGt (fVar 7) (fVar 4))) (f2 opMul (fN mkTup (aC (fB (fC (.int 0))) aN)) (fVar 7)) (fN mkLst aN))) (aC (fB (fIf (uB (f2 opGt (fVar 7) (fC (.int 0)))) (f2 opAdd (fN mkTup (aC (fB (fNeg (fC (.int 1)))) aN)) (fSl (fVar 8) (oS (fC (.int 1))) oN)) (fC (.str "")))) (aC (fB (fIf (uB (f2 opGt (fVar 7) (fC (.int 0)))) (f2 opAdd (fN mkTup (aC (fB (fC (.str "0"))) aN)) (fSl (fVar 8) (oS (fC (.int 1))) oN)) (fN mkTup (aC (fB (fC (.int 0))) (aC (fB (fC (.int 0))) aN))))) aN))))) (gSet 9)) [some sc, some (.loc 2), s2, some (sD b rows), some (.int (b : Int)), some (tR rows), some (.int ((rows.length : Nat) : Int)), some (.int ((cntR rows : Nat) : Int)), some (tN ws), some (.loc (suf.length + 1 + 3)), s10, s11, s12, s13, s14, s15, s16, s17, s18, s19] (D3 J cs b0 suf1) = .nx [some sc, some (.loc 2), s2, some (sD b rows), some (.int (b : Int)), some (tR rows), some (.int ((rows.length : Nat) : Int)), some (.int ((cntR rows : Nat) : Int)), some (tN ws), some (.loc (suf2.length + 3)), s10, s11, s12, s13, s14, s15, s16, s17, s18, s19] (D3 J cs b0 (suf2 ++ [.lst odd])) := by
    intro more o7 h7 e7
    obtain ⟨o8, e8, q8⟩ := bad_8 (sc := sc) (s2 := s2) (s9' := some (.loc (suf.length + 1 + 3))) (s10 := s10) (s11 := s11) (s12 := s12) (s13 := s13) (s14 := s14) (s15 := s15) (s16 := s16) (s17 := s17) (s18 := s18) (s19 := s19) (st := D3 J cs b0 (suf1 ++ more)) h hw
    obtain ⟨o9, e9, q9⟩ := bad_9 (sc := sc) (s2 := s2) (s9' := some (.loc (suf.length + 1 + 3))) (s10 := s10) (s11 := s11) (s12 := s12) (s13 := s13) (s14 := s14) (s15 := s15) (s16 := s16) (s17 := s17) (s18 := s18) (s19 := s19) (st := D3 J cs b0 (suf1 ++ more)) h hw
    have g1 : (suf1 ++ more)[suf.length + 1]? = some (.lst (.loc (suf.length + 3) :: os)) := by
      rw [List.getElem?_append_left (by simp only [suf1, List.length_append, List.length_cons, List.length_nil]; omega)]
      exact two1 _ _ _
    have g0 : (suf1 ++ more)[suf.length]? = some (.lst (nL ws)) := by
      rw [List.getElem?_append_left (by simp only [suf1, List.length_append, List.length_cons, List.length_nil]; omega)]
      exact two0 _ _ _
    refine ⟨suf1 ++ more, .loc (suf.length + 3) :: os ++ [o7, o8, o9], ⟨by simp, by simp only [List.length_append, List.length_cons, List.length_nil]; omega, fun x hx => ?_⟩, ?_⟩
    · rcases List.mem_append.mp hx with hx | hx
      · rcases List.mem_cons.mp hx with rfl | hx
        · exact .inr ⟨_, _, rfl, g0⟩
        · exact .inl (ho x hx)
      · simp only [List.mem_cons, List.not_mem_nil, or_false] at hx
        rcases hx with rfl | rfl | rfl
        · exact h7
        · exact .inl q8
        · exact .inl q9
    · refine e_asg (e_fB (a := .tmp (.loc (suf.length + 3) :: os ++ [o7, o8, o9])) (st1 := D3 J cs b0 (suf1 ++ more)) (e_f2 (a := .loc (suf.length + 1 + 3)) rfl (b := .tmp [o7, o8, o9]) (e_fN (as := [o7, o8, o9]) (e_aC e7 (e_aC e8 (e_aC e9 e_aN))) (mkLst_ok (by simp))) ?_) (d3_loc ..)) rfl
      unfold opAdd
      have z : lstM (.loc (suf.length + 1 + 3)) (D3 J cs b0 (suf1 ++ more)) = some (.loc (suf.length + 3) :: os) := by
        simp only [lstM, d3_get g1]
      have z2 : lstM (.tmp [o7, o8, o9]) (D3 J cs b0 (suf1 ++ more)) = some [o7, o8, o9] := rfl
      simp only [z, z2]
      have hle : (A.loc (suf.length + 3) :: os).length + [o7, o8, o9].length ≤ sizeLine := by
        have := size_big (n := 1000) (by decide)
        simp only [List.length_cons, List.length_nil]
        omega
      exact if_pos hle
  by_cases hk : b < cntR rows
  · obtain ⟨o7, e7, q7⟩ := bad_7 (sc := sc) (s2 := s2) (s9' := some (.loc (suf.length + 1 + 3))) (s10 := s10) (s11 := s11) (s12 := s12) (s13 := s13) (s14 := s14) (s15 := s15) (s16 := s16) (s17 := s17) (s18 := s18) (s19 := s19) (ws := ws) (st := D3 J cs b0 suf1) h hk
    exact main [] o7 (.inl q7) (by rw [List.append_nil]; exact e7)
  · refine main [.lst []] (.loc (suf1.length + 3)) (.inr ⟨suf1.length, [], rfl, end_get _ _⟩) ?_
    refine e_fB (a := .tmp []) (st1 := D3 J cs b0 suf1) (e_fIfF (show uB (f2 opGt (fVar 7) (fVar 4)) [some sc, some (.loc 2), s2, some (sD b rows), some (.int (b : Int)), some (tR rows), some (.int ((rows.length : Nat) : Int)), some (.int ((cntR rows : Nat) : Int)), some (tN ws), some (.loc (suf.length + 1 + 3)), s10, s11, s12, s13, s14, s15, s16, s17, s18, s19] (D3 J cs b0 suf1) = .ok false (D3 J cs b0 suf1) from ?_) (e_fN e_aN (mkLst_ok (by simp)))) (d3_loc ..)
    show R.ok (decide (((b : Nat) : Int) < ((cntR rows : Nat) : Int))) (D3 J cs b0 suf1) = _
    rw [decide_eq_false (by omega)]
theorem st_8 {sc : A} {s2 s10 s11 s12 s13 s14 s15 s16 s17 s18 s19 : Option A} {J : O} {cs : List Int} {b0 : Int} {suf : Sto} {b : Nat} {rows : List (List Nat)} {ws : List Nat} {odd : List A} (S : Src J cs b0) (h : Rd b rows) (ho : Odd b rows suf odd) : ∃ cs' b', Src J cs' b' ∧
    (sIf (uB (f2 opIsN (fN c_is_wish (aC (fB (fVar 3)) (aC (fB (fN c_law_of (aC (fB (fVar 1)) (aC (fB (fVar 9)) aN)))) aN))) (fC (.bl false)))) (sRet (fC (.bl false))) sNil) [some sc, some (.loc 2), s2, some (sD b rows), some (.int (b : Int)), some (tR rows), some (.int ((rows.length : Nat) : Int)), some (.int ((cntR rows : Nat) : Int)), some (tN ws), some (.loc (suf.length + 3)), s10, s11, s12, s13, s14, s15, s16, s17, s18, s19] (D3 J cs b0 (suf ++ [.lst odd])) = .nx [some sc, some (.loc 2), s2, some (sD b rows), some (.int (b : Int)), some (tR rows), some (.int ((rows.length : Nat) : Int)), some (.int ((cntR rows : Nat) : Int)), some (tN ws), some (.loc (suf.length + 3)), s10, s11, s12, s13, s14, s15, s16, s17, s18, s19] (D3 J cs' b' (suf ++ [.lst odd])) := by
  have hm := h.m1
  obtain ⟨x, cs', b', S', hx, e⟩ := of_okL S (suf ++ [.lst odd]) (s := .loc (suf.length + 3)) (xs := odd) (fun cs b => d3_lst (end_get _ _)) (fun _ z => by cases z) trivial ho.ne (by have := ho.len; omega) fun x hx => by
    rcases ho.all x hx with q | ⟨l, ys, rfl, q⟩
    · exact .inl q.dry
    · refine .inr ⟨_, rfl, ?_⟩
      have := (List.getElem?_eq_some_iff.mp q).1
      rw [List.length_append]
      omega
  have hw : c_is_wish [sD b rows, x] (D3 J cs' b' (suf ++ [.lst odd])) = .ok (.bl false) (D3 J cs' b' (suf ++ [.lst odd])) ∧ x.nt := by
    rcases ho.all x hx with q | ⟨l, ys, rfl, q⟩
    · exact ⟨q.no (by omega) _, q.nt⟩
    · have g : (suf ++ [.lst odd])[l]? = some (.lst ys) := by
        rw [List.getElem?_append_left (List.getElem?_eq_some_iff.mp q).1]
        exact q
      refine ⟨is_wish_no (t := .lst) (by omega) ?_ rfl trivial, trivial⟩
      unfold tyA
      simp only [d3_get g]
  exact ⟨cs', b', S', e_ifF (e_uB (e_f2 (e_fN (e_aC (e_fB (a := sD b rows) rfl rfl) (e_aC (e_fB (e_fN (e_aC (e_fB (a := .loc 2) rfl rfl) (e_aC (e_fB (a := .loc (suf.length + 3)) rfl rfl) e_aN)) e) (locd_nt' hw.2)) e_aN)) hw.1) (b := .bl false) rfl rfl)) rfl⟩
end Lw
namespace Lw
open PySem PySem.Spec PyProof.Rows L2 Gd Ev
open Classical
open Wi

theorem st_9 {sc : A} {s2 s9 s10 s11 s12 s13 s14 s15 s16 s17 s18 s19 : Option A} {J : O} {cs : List Int} {b0 : Int} {suf : Sto} {b : Nat} {rows : List (List Nat)} {ws : List Nat} (S : Src J cs b0) (h : Rd b rows) : ∃ rows3 cs' b', Src J cs' b' ∧ rows3.length = rows.length ∧ Std b rows3 ∧ cntR rows3 = cntR rows ∧
    (sAsg (fN mkTup (aC (fB (fVar 4)) (aC (fB (fN c_law_dealt (aC (fB (fVar 1)) (aC (fB (fVar 4)) (aC (fB (fVar 6)) (aC (fB (fLRg1 (fVar 7))) aN)))))) aN))) (gSet 10)) [some sc, some (.loc 2), s2, some (sD b rows), some (.int (b : Int)), some (tR rows), some (.int ((rows.length : Nat) : Int)), some (.int ((cntR rows : Nat) : Int)), some (tN ws), s9, s10, s11, s12, s13, s14, s15, s16, s17, s18, s19] (D3 J cs b0 suf) = .nx [some sc, some (.loc 2), s2, some (sD b rows), some (.int (b : Int)), some (tR rows), some (.int ((rows.length : Nat) : Int)), some (.int ((cntR rows : Nat) : Int)), some (tN ws), s9, some (sD b rows3), s11, s12, s13, s14, s15, s16, s17, s18, s19] (D3 J cs' b' (suf ++ [.lst (nL (List.range (cntR rows)))])) := by
  have hb := h.b1
  have hm := h.m1
  have hc := h.c35
  obtain ⟨rows3, cs5, b5, S5, h1, h2, h3, e9⟩ := dealt_args S suf (b := b) (many := rows.length) (count := cntR rows) (by omega) (by omega) h.c
  exact ⟨rows3, cs5, b5, S5, h1, h2, h3, e_asg (e_fB (a := sD b rows3) (e_fN (as := [.int (b : Int), tR rows3]) (e_aC (e_fB (a := .int (b : Int)) rfl rfl) (e_aC (e_fB (a := tR rows3) (e_fN (e_aC (e_fB (a := .loc 2) rfl rfl) (e_aC (e_fB (a := .int (b : Int)) rfl rfl) (e_aC (e_fB (a := .int ((rows.length : Nat) : Int)) rfl rfl) (e_aC (lrg_ok (f := fVar 7) rfl (by omega)) e_aN)))) e9) rfl) e_aN)) (mkTup_ok (by simp))) rfl) rfl⟩
theorem st_10 {sc : A} {s2 s9 s11 s12 s13 s14 s15 s16 s17 s18 s19 : Option A} {st : Sto} {b : Nat} {rows rows3 : List (List Nat)} {ws : List Nat} (h : Rd b rows) (h1 : rows3.length = rows.length) (h2 : Std b rows3) (h3 : cntR rows3 = cntR rows) : (sIf (uB (f2 opNe (fN bRepr (aC (fNK c_wish_of (aC (fB (fVar 10)) (aC (fB (fVar 3)) aN))) aN)) (fN bRepr (aC (fN c_law_places (aC (fB (fVar 10)) aN)) aN)))) (sRet (fC (.bl false))) sNil) [some sc, some (.loc 2), s2, some (sD b rows), some (.int (b : Int)), some (tR rows), some (.int ((rows.length : Nat) : Int)), some (.int ((cntR rows : Nat) : Int)), some (tN ws), s9, some (sD b rows3), s11, s12, s13, s14, s15, s16, s17, s18, s19] st = .nx [some sc, some (.loc 2), s2, some (sD b rows), some (.int (b : Int)), some (tR rows), some (.int ((rows.length : Nat) : Int)), some (.int ((cntR rows : Nat) : Int)), some (tN ws), s9, some (sD b rows3), s11, s12, s13, s14, s15, s16, s17, s18, s19] st := by
  have hm := h.m1
  have hc := h.c35
  refine e_ifF (e_chk (a := tN (places rows3)) (a2 := tN (places rows3)) (e_fNK (as := [sD b rows3, sD b rows]) (e_aC (e_fB (a := sD b rows3) rfl rfl) (e_aC (e_fB (a := sD b rows) rfl rfl) e_aN)) ?_) (e_fN (e_aC (e_fB (a := sD b rows3) rfl rfl) e_aN) (law_places_ok (rows2 := []) (b2 := 0) (by omega) (by omega) (std_lt h2))) (toD_tN _ _) (toD_tN _ _) (repr_dN (fun x hx => ?_) ?_)) rfl
  · have := wish_of_ok (b := b) (b2 := b) (rows := rows) (rows2 := rows3) (st := st) (by omega) (by omega) (fun xs hx r hr => by rw [← h3]; exact h2.lt hx hr)
    rw [← h3] at this
    exact this
  · have := places_lt h2 x hx
    omega
  · rw [places_len]
    omega
theorem st_11 {sc : A} {s2 s9 s10 s11 s12 s13 s14 s15 s16 s17 s18 s19 : Option A} {J : O} {cs : List Int} {b0 : Int} {suf : Sto} {b : Nat} {rows : List (List Nat)} {ws : List Nat} (S : Src J cs b0) (h : Rd b rows) : ∃ names cs' b', Src J cs' b' ∧ names.Perm (List.range rows.length) ∧
    (sAsg (fN bTup (aC (fN c_law_mixed (aC (fB (fVar 1)) (aC (fB (fLRg1 (fVar 6))) aN))) aN)) (gSet 11)) [some sc, some (.loc 2), s2, some (sD b rows), some (.int (b : Int)), some (tR rows), some (.int ((rows.length : Nat) : Int)), some (.int ((cntR rows : Nat) : Int)), some (tN ws), s9, s10, s11, s12, s13, s14, s15, s16, s17, s18, s19] (D3 J cs b0 suf) = .nx [some sc, some (.loc 2), s2, some (sD b rows), some (.int (b : Int)), some (tR rows), some (.int ((rows.length : Nat) : Int)), some (.int ((cntR rows : Nat) : Int)), some (tN ws), s9, s10, some (tN names), s12, s13, s14, s15, s16, s17, s18, s19] (D3 J cs' b' (suf ++ [.lst (nL (List.range rows.length))])) := by
  have hm := h.m1
  obtain ⟨ys, cs', b', S', hp, e⟩ := mixed_ok S (suf ++ [.lst (nL (List.range rows.length))]) (s := .loc (suf.length + 3)) (xs := List.range rows.length) (d3_lst (end_get _ _)) (by rw [List.length_range]; omega)
  exact ⟨ys, cs', b', S', hp, e_asg (e_fB (a := tN ys) (e_fN (e_aC (e_fN (e_aC (e_fB (a := .loc 2) rfl rfl) (e_aC (lrg_ok (f := fVar 6) rfl (by omega)) e_aN)) e) e_aN) rfl) rfl) rfl⟩
theorem st_12 {sc : A} {s2 s9 s10 s12 s13 s14 s15 s16 s17 s18 s19 : Option A} {st : Sto} {b : Nat} {rows : List (List Nat)} {ws names : List Nat} (h : Rd b rows) (hw : Wh b rows ws) (hp : names.Perm (List.range rows.length)) : (sPar 12 13 (aC (fB (fNK c_renamed_blocks (aC (fB (fVar 11)) (aC (fB (fVar 3)) aN)))) (aC (fB (fNK c_renamed_wish (aC (fB (fVar 11)) (aC (fB (fVar 8)) aN)))) aN))) [some sc, some (.loc 2), s2, some (sD b rows), some (.int (b : Int)), some (tR rows), some (.int ((rows.length : Nat) : Int)), some (.int ((cntR rows : Nat) : Int)), some (tN ws), s9, s10, some (tN names), s12, s13, s14, s15, s16, s17, s18, s19] st = .nx [some sc, some (.loc 2), s2, some (sD b rows), some (.int (b : Int)), some (tR rows), some (.int ((rows.length : Nat) : Int)), some (.int ((cntR rows : Nat) : Int)), some (tN ws), s9, s10, some (tN names), some (sD b (laidN rows names)), some (tN (ws.map (wt names))), s14, s15, s16, s17, s18, s19] st := by
  have nl : names.length = rows.length := by rw [hp.length_eq, List.length_range]
  have hc := h.c35
  have hl := hw.len
  exact e_par (a := sD b (laidN rows names)) (b := tN (ws.map (wt names))) (e_aC (e_fB (e_fNK (as := [tN names, sD b rows]) (e_aC (e_fB (a := tN names) rfl rfl) (e_aC (e_fB (a := sD b rows) rfl rfl) e_aN)) (renamed_blocks_ok nl fun g hg => List.mem_range.mp (hp.mem_iff.mp hg))) rfl) (e_aC (e_fB (e_fNK (as := [tN names, tN ws]) (e_aC (e_fB (a := tN names) rfl rfl) (e_aC (e_fB (a := tN ws) rfl rfl) e_aN)) (renamed_wish_ok (by omega) fun g hg => by rw [nl]; exact hw.lt g hg)) rfl) e_aN))
theorem index_nL {xs : List Nat} {a : Nat} {st : Sto} (h : a ∈ xs) : mIndexT (tN xs) [.int (a : Int)] st = .ok (.int ((xs.idxOf a : Nat) : Int)) st := by
  have key : ∀ xs : List Nat, a ∈ xs → (xs.map fun n : Nat => (n : Int)).findIdx? (fun y => decide (y = (a : Int))) = some (xs.idxOf a) := by
    intro xs
    induction xs with
    | nil => intro h; cases h
    | cons x xs ih =>
      intro h
      rw [List.map_cons, List.findIdx?_cons, eqI, List.idxOf_cons]
      by_cases e : x = a
      · subst e
        simp
      · have h' : a ∈ xs := by
          rcases List.mem_cons.mp h with z | z
          · exact absurd z.symm e
          · exact z
        rw [ih h', decide_eq_false e, beq_false_of_ne e]
        rfl
  have hi : intsOf (nL xs) = some (xs.map fun n : Nat => (n : Int)) := by
    rw [nL_ints, intsOf_map]
  unfold mIndexT
  simp only [hi, key xs h]
theorem st_13 {sc : A} {s2 s9 s10 s14 s15 s16 s17 s18 s19 : Option A} {st : Sto} {b : Nat} {rows : List (List Nat)} {ws names : List Nat} (h : Rd b rows) (hw : Wh b rows ws) (hp : names.Perm (List.range rows.length)) : (sIf (uOr (uB (f2 opNe (fN bRepr (aC (fVar 12) aN)) (fN bRepr (aC (fN mkTup (aC (fB (fVar 4)) (aC (fB (fN bTup (aC (fLc (fRg1 (fVar 6)) [19] (lN 19) uYes (f2 opIx (fVar 5) (fMT mIndexT (fVar 11) (aC (fB (fVar 19)) aN)))) aN))) aN))) aN)))) (uB (f2 opNe (fN bRepr (aC (fVar 13) aN)) (fN bRepr (aC (fN bTup (aC (fLc (fIter (fVar 8)) [14] (lN 14) uYes (f2 opIx (fVar 11) (fVar 14))) aN)) aN))))) (sRet (fC (.bl false))) sNil) [some sc, some (.loc 2), s2, some (sD b rows), some (.int (b : Int)), some (tR rows), some (.int ((rows.length : Nat) : Int)), some (.int ((cntR rows : Nat) : Int)), some (tN ws), s9, s10, some (tN names), some (sD b (laidN rows names)), some (tN (ws.map (wt names))), s14, s15, s16, s17, s18, s19] st = .nx [some sc, some (.loc 2), s2, some (sD b rows), some (.int (b : Int)), some (tR rows), some (.int ((rows.length : Nat) : Int)), some (.int ((cntR rows : Nat) : Int)), some (tN ws), s9, s10, some (tN names), some (sD b (laidN rows names)), some (tN (ws.map (wt names))), s14, s15, s16, s17, s18, s19] st := by
  have nl : names.length = rows.length := by rw [hp.length_eq, List.length_range]
  have hc := h.c35
  have hl := hw.len
  have hm := h.m1
  have hb := h.b1
  have hle := laid_eq hp
  have ix : ∀ a, a < rows.length → rows[names.idxOf a]? = some (rows.getD (names.idxOf a) []) := fun a ha => by
    have : names.idxOf a < names.length := List.idxOf_lt_length_iff.mpr (hp.mem_iff.mpr (List.mem_range.mpr ha))
    rw [List.getD_eq_getElem?_getD, List.getElem?_eq_getElem (by omega)]
    rfl
  have wn : ∀ g ∈ ws, wt names g < rows.length := fun g hg => by
    have h1 := hw.lt g hg
    rw [wt_get (by omega)]
    exact List.mem_range.mp (hp.mem_iff.mp (List.getElem_mem _))
  refine e_ifF (e_uOrF (e_chk (a := sD b (laidN rows names)) (st1 := st) (a2 := sD b (laidN rows names)) (st2 := st) rfl ?_ (toD_sD _ _ _) (toD_sD _ _ _) (repr_dSD 5 (by omega) (by rw [laid_len]; omega) fun xs hx => ?_)) (e_chk (a := tN (ws.map (wt names))) (st1 := st) (a2 := tN (ws.map (wt names))) rfl ?_ (toD_tN _ _) (toD_tN _ _) (repr_dN (fun x hx => ?_) (by rw [List.length_map]; omega)))) rfl
  · refine e_fN (as := [.int (b : Int), tR (laidN rows names)]) (st1 := st) (e_aC (e_fB (a := .int (b : Int)) rfl rfl) (e_aC (e_fB (a := tR (laidN rows names)) (e_fN (as := [.tmp ((List.range rows.length).map fun a => tN (rows.getD (names.idxOf a) []))]) (st1 := st) (e_aC (e_lc (xs := nL (List.range rows.length)) (G := fun _ => True) (st1 := st) (fRg1_nat rfl (by omega)) ?_) e_aN) ?_) rfl) e_aN)) (mkTup_ok (by simp))
    · refine lcF_map (f := fun n : Nat => A.int (n : Int)) (val := fun a => tN (rows.getD (names.idxOf a) [])) trivial (size_big (by rw [List.length_range]; omega)) fun a ha => ⟨_, rfl, ?_⟩
      have ha := List.mem_range.mp ha
      exact e_fB (e_f2 (a := tR rows) rfl (e_fMT (a := tN names) rfl rfl (e_aC (e_fB (a := .int (a : Int)) rfl rfl) e_aN) (index_nL (hp.mem_iff.mpr (List.mem_range.mpr ha)))) (ix_tR (ix a ha))) rfl
    · show R.ok (A.tup ((List.range rows.length).map fun a => tN (rows.getD (names.idxOf a) []))) st = R.ok (A.tup ((laidN rows names).map tN)) st
      rw [hle, List.map_map]
      rfl
  · rw [hle] at hx
    obtain ⟨a, ha, rfl⟩ := List.mem_map.mp hx
    have hi := List.mem_of_getElem? (ix a (List.mem_range.mp ha))
    refine ⟨big_row h hi, fun x hx => ?_⟩
    have := h.S.lt hi hx
    omega
  · refine e_fN (as := [.tmp (ws.map fun g => .int ((wt names g : Nat) : Int))]) (st1 := st) (e_aC (e_lc (xs := nL ws) (G := fun _ => True) (st1 := st) rfl ?_) e_aN) ?_
    · exact lcF_map (f := fun n : Nat => A.int (n : Int)) (val := fun g => .int ((wt names g : Nat) : Int)) trivial (size_big (by omega)) fun g hg => ⟨_, rfl, e_fB (e_f2 (a := tN names) rfl (b := .int (g : Int)) rfl (ixT (by have := hw.lt g hg; omega))) rfl⟩
    · show R.ok (A.tup (ws.map fun g => A.int ((wt names g : Nat) : Int))) st = R.ok (A.tup ((ws.map (wt names)).map fun n : Nat => A.int (n : Int))) st
      rw [List.map_map]
      rfl
  · obtain ⟨g, hg, rfl⟩ := List.mem_map.mp hx
    have := wn g hg
    omega

theorem st_14a {sc : A} {s2 s9 s10 s11 s12 s13 s14 s15 s16 s17 s18 s19 : Option A} {J : O} {cs : List Int} {b0 : Int} {suf : Sto} {b : Nat} {rows : List (List Nat)} {ws : List Nat} (S : Src J cs b0) (h : Rd b rows) (hk : 0 < cntR rows) : ∃ (i j : Nat) (cs' : List Int) (b' : Int), Src J cs' b' ∧ i < cntR rows ∧ j < cntR rows ∧
    (sAsg (fN mkTup (aC (fB (fN c_law_any (aC (fB (fVar 1)) (aC (fB (fVar 7)) aN)))) (aC (fB (fN c_law_any (aC (fB (fVar 1)) (aC (fB (fVar 7)) aN)))) aN))) (gTupF 2 (gC (gSet 14) (gC (gSet 15) gN)))) [some sc, some (.loc 2), s2, some (sD b rows), some (.int (b : Int)), some (tR rows), some (.int ((rows.length : Nat) : Int)), some (.int ((cntR rows : Nat) : Int)), some (tN ws), s9, s10, s11, s12, s13, s14, s15, s16, s17, s18, s19] (D3 J cs b0 suf) = .nx [some sc, some (.loc 2), s2, some (sD b rows), some (.int (b : Int)), some (tR rows), some (.int ((rows.length : Nat) : Int)), some (.int ((cntR rows : Nat) : Int)), some (tN ws), s9, s10, s11, s12, s13, some (.int (i : Int)), some (.int (j : Int)), s16, s17, s18, s19] (D3 J cs' b' suf) := by
  have hc := h.c35
  obtain ⟨r1, cs1, b1, S1, r10, r11, e1⟩ := any_ok S suf (n := ((cntR rows : Nat) : Int)) (by omega) (by omega)
  obtain ⟨i, rfl⟩ : ∃ k : Nat, r1 = (k : Int) := ⟨r1.toNat, by omega⟩
  obtain ⟨r2, cs2, b2, S2, r20, r21, e2⟩ := any_ok S1 suf (n := ((cntR rows : Nat) : Int)) (by omega) (by omega)
  obtain ⟨j, rfl⟩ : ∃ k : Nat, r2 = (k : Int) := ⟨r2.toNat, by omega⟩
  exact ⟨i, j, cs2, b2, S2, by omega, by omega, e_asg (e_fB (a := .tup [.int (i : Int), .int (j : Int)]) (e_fN (as := [.int (i : Int), .int (j : Int)]) (e_aC (e_fB (e_fN (e_aC (e_fB (a := .loc 2) rfl rfl) (e_aC (e_fB (a := .int ((cntR rows : Nat) : Int)) rfl rfl) e_aN)) e1) rfl) (e_aC (e_fB (e_fN (e_aC (e_fB (a := .loc 2) rfl rfl) (e_aC (e_fB (a := .int ((cntR rows : Nat) : Int)) rfl rfl) e_aN)) e2) rfl) e_aN)) (mkTup_ok (by simp))) rfl) rfl⟩
theorem st_14b {sc : A} {s2 s9 s10 s11 s12 s13 s16 s17 s18 s19 : Option A} {st : Sto} {b i j : Nat} {rows : List (List Nat)} {ws : List Nat} (hw : Wh b rows ws) (hi : i < cntR rows) (hj : j < cntR rows) : (sIf (uB (f2 opNe (fN bRepr (aC (fNK c_alike_records (aC (fB (fVar 15)) (aC (fB (fVar 14)) (aC (fB (fVar 8)) (aC (fB (fVar 3)) aN))))) aN)) (fN bRepr (aC (f2 opEq (f2 opIx (fVar 8) (fVar 14)) (f2 opIx (fVar 8) (fVar 15))) aN)))) (sRet (fC (.bl false))) sNil) [some sc, some (.loc 2), s2, some (sD b rows), some (.int (b : Int)), some (tR rows), some (.int ((rows.length : Nat) : Int)), some (.int ((cntR rows : Nat) : Int)), some (tN ws), s9, s10, s11, s12, s13, some (.int (i : Int)), some (.int (j : Int)), s16, s17, s18, s19] st = .nx [some sc, some (.loc 2), s2, some (sD b rows), some (.int (b : Int)), some (tR rows), some (.int ((rows.length : Nat) : Int)), some (.int ((cntR rows : Nat) : Int)), some (tN ws), s9, s10, s11, s12, s13, some (.int (i : Int)), some (.int (j : Int)), s16, s17, s18, s19] st := by
  have hl := hw.len
  refine e_ifF (e_chk (a := .bl (decide (wt ws i = wt ws j))) (st1 := st) (a2 := .bl (decide (wt ws i = wt ws j))) (st2 := st) (e_fNK (as := [.int (j : Int), .int (i : Int), tN ws, sD b rows]) (e_aC (e_fB (a := .int (j : Int)) rfl rfl) (e_aC (e_fB (a := .int (i : Int)) rfl rfl) (e_aC (e_fB (a := tN ws) rfl rfl) (e_aC (e_fB (a := sD b rows) rfl rfl) e_aN)))) (alike_ok (by omega) (by omega))) (e_f2 (e_f2 (a := tN ws) rfl (b := .int (i : Int)) rfl (ixT (by omega))) (e_f2 (a := tN ws) rfl (b := .int (j : Int)) rfl (ixT (by omega))) ?_) rfl rfl (repr_bool _)) rfl
  rw [opEq_int, eqI]
theorem st_14c {sc : A} {s2 s9 s10 s11 s12 s13 s16 s17 s18 s19 : Option A} {J : O} {cs : List Int} {b0 : Int} {suf : Sto} {b i j : Nat} {rows : List (List Nat)} {ws : List Nat} (h : Rd b rows) :
    (sAsg (fLc (fIter (fVar 5)) [17] (lN 17) uYes (fLc (fIter (fVar 17)) [18] (lN 18) uYes (fIf (uB (f2 opEq (fVar 18) (fVar 14))) (fVar 15) (fIf (uB (f2 opEq (fVar 18) (fVar 15))) (fVar 14) (fVar 18))))) (gSet 16)) [some sc, some (.loc 2), s2, some (sD b rows), some (.int (b : Int)), some (tR rows), some (.int ((rows.length : Nat) : Int)), some (.int ((cntR rows : Nat) : Int)), some (tN ws), s9, s10, s11, s12, s13, some (.int (i : Int)), some (.int (j : Int)), s16, s17, s18, s19] (D3 J cs b0 suf) = .nx [some sc, some (.loc 2), s2, some (sD b rows), some (.int (b : Int)), some (tR rows), some (.int ((rows.length : Nat) : Int)), some (.int ((cntR rows : Nat) : Int)), some (tN ws), s9, s10, s11, s12, s13, some (.int (i : Int)), some (.int (j : Int)), some (.loc (suf.length + rows.length + 3)), s17, s18, s19] (D3 J cs b0 (suf ++ (Bk (rows.map fun xs => xs.map (sw i j)) ++ [.lst (locs (suf.length + 3) rows.length)]))) := by
  have hm := h.m1
  have g := lcF_grow (ρ := wipeR [some sc, some (.loc 2), s2, some (sD b rows), some (.int (b : Int)), some (tR rows), some (.int ((rows.length : Nat) : Int)), some (.int ((cntR rows : Nat) : Int)), some (tN ws), s9, s10, s11, s12, s13, some (.int (i : Int)), some (.int (j : Int)), s16, s17, s18, s19] [17]) (g := lN 17) (u := uYes) (fe := (fLc (fIter (fVar 17)) [18] (lN 18) uYes (fIf (uB (f2 opEq (fVar 18) (fVar 14))) (fVar 15) (fIf (uB (f2 opEq (fVar 18) (fVar 15))) (fVar 14) (fVar 18))))) (G := fun _ => True) (f := tN) (val := fun xs => nL (xs.map (sw i j))) (st := D3 J cs b0 suf) (xs := rows) (acc := []) (more := []) (size_big (by simp only [List.length_nil]; omega)) (fun _ => trivial) fun xs hx more => ⟨_, rfl, rfl, by
    refine e_lc (xs := nL xs) (G := fun _ => True) (st1 := D3 J cs b0 suf ++ more) rfl ?_
    rw [show nL (xs.map (sw i j)) = xs.map fun r => A.int ((sw i j r : Nat) : Int) by rw [nL, List.map_map]; rfl]
    refine lcF_map (f := fun n : Nat => A.int (n : Int)) (val := fun r => .int ((sw i j r : Nat) : Int)) trivial (size_big (by have := big_row h hx; omega)) fun r hr => ⟨_, rfl, ?_⟩
    refine e_fB (a := .int ((sw i j r : Nat) : Int)) (st1 := D3 J cs b0 suf ++ more) ?_ rfl
    have q1 : ∀ ρ : Rho, ρ[18]? = some (some (.int (r : Int))) → ρ[14]? = some (some (.int (i : Int))) → uB (f2 opEq (fVar 18) (fVar 14)) ρ (D3 J cs b0 suf ++ more) = .ok (decide (r = i)) (D3 J cs b0 suf ++ more) := fun ρ z1 z2 => by
      refine e_uB (e_f2 (a := .int (r : Int)) (show fVar 18 ρ _ = _ by unfold fVar; rw [z1]) (b := .int (i : Int)) (show fVar 14 ρ _ = _ by unfold fVar; rw [z2]) ?_)
      rw [opEq_int, eqI]
    have q2 : ∀ ρ : Rho, ρ[18]? = some (some (.int (r : Int))) → ρ[15]? = some (some (.int (j : Int))) → uB (f2 opEq (fVar 18) (fVar 15)) ρ (D3 J cs b0 suf ++ more) = .ok (decide (r = j)) (D3 J cs b0 suf ++ more) := fun ρ z1 z2 => by
      refine e_uB (e_f2 (a := .int (r : Int)) (show fVar 18 ρ _ = _ by unfold fVar; rw [z1]) (b := .int (j : Int)) (show fVar 15 ρ _ = _ by unfold fVar; rw [z2]) ?_)
      rw [opEq_int, eqI]
    by_cases e : r = i
    · refine e_fIfT ((q1 _ rfl rfl).trans (by rw [decide_eq_true e])) ?_
      rw [sw, if_pos e]
      rfl
    · refine e_fIfF ((q1 _ rfl rfl).trans (by rw [decide_eq_false e])) ?_
      by_cases e2 : r = j
      · refine e_fIfT ((q2 _ rfl rfl).trans (by rw [decide_eq_true e2])) ?_
        rw [sw, if_neg e, if_pos e2]
        rfl
      · refine e_fIfF ((q2 _ rfl rfl).trans (by rw [decide_eq_false e2])) ?_
        rw [sw, if_neg e, if_neg e2]
        rfl⟩
  rw [List.append_nil, List.nil_append, List.nil_append, List.length_nil, Nat.add_zero] at g
  refine e_asg (e_fB (e_lc (xs := rows.map tN) (G := fun _ => True) (st1 := D3 J cs b0 suf) rfl g) (r := .ok (.loc (suf.length + rows.length + 3)) (D3 J cs b0 (suf ++ (Bk (rows.map fun xs => xs.map (sw i j)) ++ [.lst (locs (suf.length + 3) rows.length)])))) ?_) rfl
  rw [D3_app, d3_loc, List.length_append, List.append_assoc, List.length_map, D3_len, Bk, List.map_map]
  rfl
theorem st_14d {sc : A} {s2 s9 s10 s11 s12 s13 s17 s18 s19 : Option A} {J : O} {cs : List Int} {b0 : Int} {suf : Sto} {b i j : Nat} {rows : List (List Nat)} {ws : List Nat} (h : Rd b rows) (hi : i < cntR rows) (hj : j < cntR rows) :
    (sIf (uB (f2 opNe (fN bRepr (aC (fNK c_exchanged (aC (fB (fVar 15)) (aC (fB (fVar 14)) (aC (fB (fVar 3)) aN)))) aN)) (fN bRepr (aC (fN mkTup (aC (fB (fVar 4)) (aC (fB (fN bTup (aC (fLc (fIter (fVar 16)) [17] (lN 17) uYes (fN bTup (aC (fN bSrt (aC (fVar 17) aN)) aN))) aN))) aN))) aN)))) (sRet (fC (.bl false))) sNil) [some sc, some (.loc 2), s2, some (sD b rows), some (.int (b : Int)), some (tR rows), some (.int ((rows.length : Nat) : Int)), some (.int ((cntR rows : Nat) : Int)), some (tN ws), s9, s10, s11, s12, s13, some (.int (i : Int)), some (.int (j : Int)), some (.loc (suf.length + rows.length + 3)), s17, s18, s19] (D3 J cs b0 (suf ++ (Bk (rows.map fun xs => xs.map (sw i j)) ++ [.lst (locs (suf.length + 3) rows.length)]))) = .nx [some sc, some (.loc 2), s2, some (sD b rows), some (.int (b : Int)), some (tR rows), some (.int ((rows.length : Nat) : Int)), some (.int ((cntR rows : Nat) : Int)), some (tN ws), s9, s10, s11, s12, s13, some (.int (i : Int)), some (.int (j : Int)), some (.loc (suf.length + rows.length + 3)), s17, s18, s19] (D3 J cs b0 (suf ++ (Bk (rows.map fun xs => xs.map (sw i j)) ++ [.lst (locs (suf.length + 3) rows.length)]))) := by
  have hm := h.m1
  have hb := h.b1
  have hc := h.c35
  let Q : List (List Nat) := rows.map fun xs => xs.map (sw i j)
  have ql : Q.length = rows.length := List.length_map ..
  let st : Sto := D3 J cs b0 (suf ++ (Bk Q ++ [.lst (locs (suf.length + 3) rows.length)]))
  have gd : ∀ k, k < rows.length → Q[k]? = some (Q.getD k []) := fun k hk => by
    rw [List.getD_eq_getElem?_getD, List.getElem?_eq_getElem (by omega)]
    rfl
  have ge : (suf ++ (Bk Q ++ [.lst (locs (suf.length + 3) rows.length)]))[suf.length + rows.length]? = some (.lst (locs (suf.length + 3) rows.length)) := by
    have := Bk_end (suf := suf) (more := []) (rows := Q) (o := .lst (locs (suf.length + 3) rows.length))
    rw [ql] at this
    exact this
  have eq : (rows.map fun xs => srtN (xs.map (sw i j))) = Q.map srtN := by
    simp only [Q]
    rw [List.map_map]
    rfl
  refine e_ifF (e_chk (a := sD b (Q.map srtN)) (st1 := st) (a2 := sD b (Q.map srtN)) (st2 := st) ?_ ?_ (toD_sD _ _ _) (toD_sD _ _ _) (repr_dSD 5 (by omega) (by rw [List.length_map]; omega) fun xs hx => ?_)) rfl
  · rw [← eq]
    exact e_fNK (as := [.int (j : Int), .int (i : Int), sD b rows]) (e_aC (e_fB (a := .int (j : Int)) rfl rfl) (e_aC (e_fB (a := .int (i : Int)) rfl rfl) (e_aC (e_fB (a := sD b rows) rfl rfl) e_aN))) (exchanged_ok (by omega) fun xs hx => by have := big_row h hx; omega)
  · refine e_fN (as := [.int (b : Int), tR (Q.map srtN)]) (st1 := st) (e_aC (e_fB (a := .int (b : Int)) rfl rfl) (e_aC (e_fB (a := tR (Q.map srtN)) (e_fN (as := [.tmp ((Q.map srtN).map tN)]) (st1 := st) (e_aC (e_lc (xs := locs (suf.length + 3) rows.length) (G := stillOf (.loc (suf.length + rows.length + 3)) (locs (suf.length + 3) rows.length)) (st1 := st) (fIter_loc rfl (d3_lst ge)) ?_) e_aN) rfl) rfl) e_aN)) (mkTup_ok (by simp))
    have ev : (Q.map srtN).map tN = (List.range' (suf.length + 3) rows.length).map fun k => tN (srtN (Q.getD (k - (suf.length + 3)) [])) := by
      refine List.ext_getElem? fun k => ?_
      by_cases hk : k < rows.length
      · rw [List.getElem?_map, List.getElem?_map, gd k hk, List.getElem?_map, List.getElem?_range' hk, Nat.one_mul]
        show _ = some (tN (srtN (Q.getD (suf.length + 3 + k - (suf.length + 3)) [])))
        rw [Nat.add_sub_cancel_left]
        rfl
      · rw [List.getElem?_eq_none (by rw [List.length_map, List.length_map]; omega), List.getElem?_eq_none (by rw [List.length_map, List.length_range']; omega)]
    rw [ev]
    refine lcF_map (f := A.loc) (val := fun k => tN (srtN (Q.getD (k - (suf.length + 3)) []))) (d3_get ge) (size_big (by rw [List.length_range']; omega)) fun k hk => ⟨_, rfl, ?_⟩
    obtain ⟨q, hq, rfl⟩ := List.mem_range'.mp hk
    have z : seqOf (.loc (suf.length + 3 + 1 * q)) st = some (nL (Q.getD q [])) := by
      rw [Nat.one_mul, Nat.add_right_comm]
      exact d3_lst (Bk_at (gd q hq))
    rw [show suf.length + 3 + 1 * q - (suf.length + 3) = q by omega]
    exact e_fB (e_fN (e_aC (e_fN (e_aC (a := .loc (suf.length + 3 + 1 * q)) rfl e_aN) (bSrt_nL z)) e_aN) (r := .ok (tN (srtN (Q.getD q []))) st) rfl) rfl
  · obtain ⟨q, hq, rfl⟩ := List.mem_map.mp hx
    obtain ⟨r, hr, rfl⟩ := List.mem_map.mp hq
    refine ⟨?_, fun x hx => ?_⟩
    · rw [(srtN_perm _).length_eq, List.length_map]
      exact big_row h hr
    · obtain ⟨y, hy, rfl⟩ := List.mem_map.mp ((srtN_perm _).mem_iff.mp hx)
      have := h.S.lt hr hy
      unfold sw
      split
      · omega
      · split <;> omega
end Lw
namespace Lw
open PySem PySem.Spec PyProof.Rows L2 Gd Ev
open Classical
open Wi

/-- what stands before each turn -/
def Turn (sc : A) (J : O) (ρ : Rho) (st : Sto) : Prop := ∃ (s2 s3 s4 s5 s6 s7 s8 s9 s10 s11 s12 s13 s14 s15 s16 s17 s18 s19 : Option A) (cs : List Int) (b0 : Int) (suf : Sto), Src J cs b0 ∧ ρ = [some sc, some (.loc 2), s2, s3, s4, s5, s6, s7, s8, s9, s10, s11, s12, s13, s14, s15, s16, s17, s18, s19] ∧ st = D3 J cs b0 suf
theorem turn_ok {sc : A} {J : O} {ρ : Rho} {st : Sto} (x : A) (h : Turn sc J ρ st) : ∃ ρ1 st1 ρ2 st2, gSet 2 x ρ st = .ok ρ1 st1 ∧ (sSeq (sAsg (fN c_law_standing (aC (fB (fVar 1)) (aC (fB (fC (.int 7))) (aC (fB (fC (.int 5))) aN)))) (gSet 3)) (sSeq (sAsg (fVar 3) (gTupF 2 (gC (gSet 4) (gC (gSet 5) gN)))) (sSeq (sPar 6 7 (aC (fB (fN bLen (aC (fVar 5) aN))) (aC (fB (fN c_law_count (aC (fB (fVar 3)) aN))) aN))) (sSeq (sAsg (fIf (uB (f2 opGt (fN c_law_any (aC (fB (fVar 1)) (aC (fB (fC (.int 4))) aN))) (fC (.int 0)))) (fN c_law_wish (aC (fB (fVar 1)) (aC (fB (fVar 3)) aN))) (fN c_law_places (aC (fB (fVar 3)) aN))) (gSet 8)) (sSeq (sIf (uOr (uB (f2 opIsN (fNK c_is_wish (aC (fB (fVar 8)) (aC (fB (fVar 3)) aN))) (fC (.bl true)))) (uB (f2 opNe (fN bRepr (aC (fNK c_crowds (aC (fB (fVar 8)) (aC (fB (fVar 3)) aN))) aN)) (fN bRepr (aC (fN c_law_crowds (aC (fB (fVar 3)) (aC (fB (fVar 8)) aN))) aN))))) (sRet (fC (.bl false))) sNil) (sSeq (sIf (uB (f2 opNe (fN bRepr (aC (fNK c_is_met (aC (fB (fVar 8)) (aC (fB (fVar 3)) aN))) aN)) (fN bRepr (aC (f2 opEq (fVar 8) (fN c_law_places (aC (fB (fVar 3)) aN))) aN)))) (sRet (fC (.bl false))) sNil) (sSeq (sAsg (fN mkLst (aC (fB (fN bLst (aC (fVar 8) aN))) (aC (fB (f2 opAdd (fVar 8) (fN mkTup (aC (fB (fC (.int 0))) aN)))) (aC (fB (fIf (uB (f2 opGt (fVar 7) (fC (.int 0)))) (fSl (fVar 8) (oS (fC (.int 1))) oN) (fN mkTup (aC (fB (fC (.int 0))) aN)))) (aC (fB (fIf (uB (f2 opGt (fVar 7) (fC (.int 0)))) (f2 opMul (fN mkTup (aC (fB (fVar 6)) aN)) (fVar 7)) (fC .non))) (aC (fB (fC .non)) (aC (fB (fIf (uB (f2 opGt (fVar 7) (fC (.int 0)))) (f2 opMul (fN mkTup (aC (fB (fC (.bl true))) aN)) (fVar 7)) (fC (.int 7)))) aN))))))) (gSet 9)) (sSeq (sAsg (f2 opAdd (fVar 9) (fN mkLst (aC (fB (fIf (uB (f2 opGt (fVar 7) (fVar 4))) (f2 opMul (fN mkTup (aC (fB (fC (.int 0))) aN)) (fVar 7)) (fN mkLst aN))) (aC (fB (fIf (uB (f2 opGt (fVar 7) (fC (.int 0)))) (f2 opAdd (fN mkTup (aC (fB (fNeg (fC (.int 1)))) aN)) (fSl (fVar 8) (oS (fC (.int 1))) oN)) (fC (.str "")))) (aC (fB (fIf (uB (f2 opGt (fVar 7) (fC (.int 0)))) (f2 opAdd (fN mkTup (aC (fB (fC (.str "0"))) aN)) (fSl (fVar 8) (oS (fC (.int 1))) oN)) (fN mkTup (aC (fB (fC (.int 0))) (aC (fB (fC (.int 0))) aN))))) aN))))) (gSet 9)) (sSeq (sIf (uB (f2 opIsN (fN c_is_wish (aC (fB (fVar 3)) (aC (fB (fN c_law_of (aC (fB (fVar 1)) (aC (fB (fVar 9)) aN)))) aN))) (fC (.bl false)))) (sRet (fC (.bl false))) sNil) (sSeq (sAsg (fN mkTup (aC (fB (fVar 4)) (aC (fB (fN c_law_dealt (aC (fB (fVar 1)) (aC (fB (fVar 4)) (aC (fB (fVar 6)) (aC (fB (fLRg1 (fVar 7))) aN)))))) aN))) (gSet 10)) (sSeq (sIf (uB (f2 opNe (fN bRepr (aC (fNK c_wish_of (aC (fB (fVar 10)) (aC (fB (fVar 3)) aN))) aN)) (fN bRepr (aC (fN c_law_places (aC (fB (fVar 10)) aN)) aN)))) (sRet (fC (.bl false))) sNil) (sSeq (sAsg (fN bTup (aC (fN c_law_mixed (aC (fB (fVar 1)) (aC (fB (fLRg1 (fVar 6))) aN))) aN)) (gSet 11)) (sSeq (sPar 12 13 (aC (fB (fNK c_renamed_blocks (aC (fB (fVar 11)) (aC (fB (fVar 3)) aN)))) (aC (fB (fNK c_renamed_wish (aC (fB (fVar 11)) (aC (fB (fVar 8)) aN)))) aN))) (sSeq (sIf (uOr (uB (f2 opNe (fN bRepr (aC (fVar 12) aN)) (fN bRepr (aC (fN mkTup (aC (fB (fVar 4)) (aC (fB (fN bTup (aC (fLc (fRg1 (fVar 6)) [19] (lN 19) uYes (f2 opIx (fVar 5) (fMT mIndexT (fVar 11) (aC (fB (fVar 19)) aN)))) aN))) aN))) aN)))) (uB (f2 opNe (fN bRepr (aC (fVar 13) aN)) (fN bRepr (aC (fN bTup (aC (fLc (fIter (fVar 8)) [14] (lN 14) uYes (f2 opIx (fVar 11) (fVar 14))) aN)) aN))))) (sRet (fC (.bl false))) sNil) (sIf (uB (f2 opGt (fVar 7) (fC (.int 0)))) (sSeq (sAsg (fN mkTup (aC (fB (fN c_law_any (aC (fB (fVar 1)) (aC (fB (fVar 7)) aN)))) (aC (fB (fN c_law_any (aC (fB (fVar 1)) (aC (fB (fVar 7)) aN)))) aN))) (gTupF 2 (gC (gSet 14) (gC (gSet 15) gN)))) (sSeq (sIf (uB (f2 opNe (fN bRepr (aC (fNK c_alike_records (aC (fB (fVar 15)) (aC (fB (fVar 14)) (aC (fB (fVar 8)) (aC (fB (fVar 3)) aN))))) aN)) (fN bRepr (aC (f2 opEq (f2 opIx (fVar 8) (fVar 14)) (f2 opIx (fVar 8) (fVar 15))) aN)))) (sRet (fC (.bl false))) sNil) (sSeq (sAsg (fLc (fIter (fVar 5)) [17] (lN 17) uYes (fLc (fIter (fVar 17)) [18] (lN 18) uYes (fIf (uB (f2 opEq (fVar 18) (fVar 14))) (fVar 15) (fIf (uB (f2 opEq (fVar 18) (fVar 15))) (fVar 14) (fVar 18))))) (gSet 16)) (sIf (uB (f2 opNe (fN bRepr (aC (fNK c_exchanged (aC (fB (fVar 15)) (aC (fB (fVar 14)) (aC (fB (fVar 3)) aN)))) aN)) (fN bRepr (aC (fN mkTup (aC (fB (fVar 4)) (aC (fB (fN bTup (aC (fLc (fIter (fVar 16)) [17] (lN 17) uYes (fN bTup (aC (fN bSrt (aC (fVar 17) aN)) aN))) aN))) aN))) aN)))) (sRet (fC (.bl false))) sNil)))) sNil))))))))))))))) ρ1 st1 = .nx ρ2 st2 ∧ Turn sc J ρ2 st2 := by
  obtain ⟨s2, s3, s4, s5, s6, s7, s8, s9, s10, s11, s12, s13, s14, s15, s16, s17, s18, s19, cs, b0, suf, S, rfl, rfl⟩ := h
  obtain ⟨b, rows, cs1, b1, h, S1, e0⟩ := st_0 (sc := sc) (s2 := some x) (s3 := s3) (s4 := s4) (s5 := s5) (s6 := s6) (s7 := s7) (s8 := s8) (s9 := s9) (s10 := s10) (s11 := s11) (s12 := s12) (s13 := s13) (s14 := s14) (s15 := s15) (s16 := s16) (s17 := s17) (s18 := s18) (s19 := s19) (suf := suf) S
  obtain ⟨ws, cs2, b2, hw, S2, e3⟩ := st_3 (sc := sc) (s2 := some x) (s8 := s8) (s9 := s9) (s10 := s10) (s11 := s11) (s12 := s12) (s13 := s13) (s14 := s14) (s15 := s15) (s16 := s16) (s17 := s17) (s18 := s18) (s19 := s19) (suf := suf) S1 h
  obtain ⟨os, ho, hol, e6⟩ := st_6 (sc := sc) (s2 := some x) (s9 := s9) (s10 := s10) (s11 := s11) (s12 := s12) (s13 := s13) (s14 := s14) (s15 := s15) (s16 := s16) (s17 := s17) (s18 := s18) (s19 := s19) (J := J) (cs := cs2) (b0 := b2) (suf := suf) h hw
  obtain ⟨suf2, odd, hodd, e7⟩ := st_7 (sc := sc) (s2 := some x) (s10 := s10) (s11 := s11) (s12 := s12) (s13 := s13) (s14 := s14) (s15 := s15) (s16 := s16) (s17 := s17) (s18 := s18) (s19 := s19) (J := J) (cs := cs2) (b0 := b2) (suf := suf) h hw ho hol
  obtain ⟨cs3, b3, S3, e8⟩ := st_8 (sc := sc) (s2 := some x) (s10 := s10) (s11 := s11) (s12 := s12) (s13 := s13) (s14 := s14) (s15 := s15) (s16 := s16) (s17 := s17) (s18 := s18) (s19 := s19) (ws := ws) S2 h hodd
  obtain ⟨rows3, cs4, b4, S4, r1, r2, r3, e9⟩ := st_9 (sc := sc) (s2 := some x) (s9 := some (.loc (suf2.length + 3))) (s10 := s10) (s11 := s11) (s12 := s12) (s13 := s13) (s14 := s14) (s15 := s15) (s16 := s16) (s17 := s17) (s18 := s18) (s19 := s19) (ws := ws) (suf := suf2 ++ [.lst odd]) S3 h
  obtain ⟨names, cs5, b5, S5, hp, e11⟩ := st_11 (sc := sc) (s2 := some x) (s9 := some (.loc (suf2.length + 3))) (s10 := some (sD b rows3)) (s11 := s11) (s12 := s12) (s13 := s13) (s14 := s14) (s15 := s15) (s16 := s16) (s17 := s17) (s18 := s18) (s19 := s19) (ws := ws) (suf := suf2 ++ [.lst odd] ++ [.lst (nL (List.range (cntR rows)))]) S4 h
  let suf5 : Sto := suf2 ++ [.lst odd] ++ [.lst (nL (List.range (cntR rows)))] ++ [.lst (nL (List.range rows.length))]
  have e14 : ∃ ρ2 st2, (sIf (uB (f2 opGt (fVar 7) (fC (.int 0)))) (sSeq (sAsg (fN mkTup (aC (fB (fN c_law_any (aC (fB (fVar 1)) (aC (fB (fVar 7)) aN)))) (aC (fB (fN c_law_any (aC (fB (fVar 1)) (aC (fB (fVar 7)) aN)))) aN))) (gTupF 2 (gC (gSet 14) (gC (gSet 15) gN)))) (sSeq (sIf (uB (f2 opNe (fN bRepr (aC (fNK c_alike_records (aC (fB (fVar 15)) (aC (fB (fVar 14)) (aC (fB (fVar 8)) (aC (fB (fVar 3)) aN))))) aN)) (fN bRepr (aC (f2 opEq (f2 opIx (fVar 8) (fVar 14)) (f2 opIx (fVar 8) (fVar 15))) aN)))) (sRet (fC (.bl false))) sNil) (sSeq (sAsg (fLc (fIter (fVar 5)) [17] (lN 17) uYes (fLc (fIter (fVar 17)) [18] (lN 18) uYes (fIf (uB (f2 opEq (fVar 18) (fVar 14))) (fVar 15) (fIf (uB (f2 opEq (fVar 18) (fVar 15))) (fVar 14) (fVar 18))))) (gSet 16)) (sIf (uB (f2 opNe (fN bRepr (aC (fNK c_exchanged (aC (fB (fVar 15)) (aC (fB (fVar 14)) (aC (fB (fVar 3)) aN)))) aN)) (fN bRepr (aC (fN mkTup (aC (fB (fVar 4)) (aC (fB (fN bTup (aC (fLc (fIter (fVar 16)) [17] (lN 17) uYes (fN bTup (aC (fN bSrt (aC (fVar 17) aN)) aN))) aN))) aN))) aN)))) (sRet (fC (.bl false))) sNil)))) sNil) [some sc, some (.loc 2), some x, some (sD b rows), some (.int (b : Int)), some (tR rows), some (.int ((rows.length : Nat) : Int)), some (.int ((cntR rows : Nat) : Int)), some (tN ws), some (.loc (suf2.length + 3)), some (sD b rows3), some (tN names), some (sD b (laidN rows names)), some (tN (ws.map (wt names))), s14, s15, s16, s17, s18, s19] (D3 J cs5 b5 suf5) = .nx ρ2 st2 ∧ Turn sc J ρ2 st2 := by
    have eu : ∀ ρ : Rho, ρ[7]? = some (some (.int ((cntR rows : Nat) : Int))) → uB (f2 opGt (fVar 7) (fC (.int 0))) ρ (D3 J cs5 b5 suf5) = .ok (decide ((0 : Int) < ((cntR rows : Nat) : Int))) (D3 J cs5 b5 suf5) := fun ρ hz =>
      e_uB (e_f2 (a := .int ((cntR rows : Nat) : Int)) (show fVar 7 ρ _ = _ by unfold fVar; rw [hz]) (b := .int 0) rfl rfl)
    by_cases hk : 0 < cntR rows
    · obtain ⟨i, j, cs6, b6, S6, hi, hj, ea⟩ := st_14a (sc := sc) (s2 := some x) (s9 := some (.loc (suf2.length + 3))) (s10 := some (sD b rows3)) (s11 := some (tN names)) (s12 := some (sD b (laidN rows names))) (s13 := some (tN (ws.map (wt names)))) (s14 := s14) (s15 := s15) (s16 := s16) (s17 := s17) (s18 := s18) (s19 := s19) (ws := ws) (suf := suf5) S5 h hk
      exact ⟨_, _, e_ifT ((eu _ rfl).trans (by rw [decide_eq_true (by omega)])) (e_seq ea (e_seq (st_14b hw hi hj) (e_seq (st_14c h) (st_14d h hi hj)))), _, _, _, _, _, _, _, _, _, _, _, _, _, _, _, _, _, _, cs6, b6, _, S6, rfl, rfl⟩
    · exact ⟨_, _, e_ifF ((eu _ rfl).trans (by rw [decide_eq_false (by omega)])) rfl, _, _, _, _, _, _, _, _, _, _, _, _, _, _, _, _, _, _, cs5, b5, _, S5, rfl, rfl⟩
  obtain ⟨ρ2, st2, e14, T⟩ := e14
  exact ⟨_, _, ρ2, st2, rfl, e_seq e0 (e_seq st_1 (e_seq (st_2 h) (e_seq e3 (e_seq (st_4 h hw) (e_seq (st_5 h hw) (e_seq e6 (e_seq e7 (e_seq e8 (e_seq e9 (e_seq (st_10 h r1 r2 r3) (e_seq e11 (e_seq (st_12 h hw hp) (e_seq (st_13 h hw hp) e14))))))))))))), T⟩
theorem law_ok (ns : List Int) : ∃ st', c_law [.frz (ns.map A.int)] [] = .ok (.bl true) st' := by
  obtain ⟨J, cs, b0, S, e⟩ := draw_ok ns 2 (by decide) (by decide)
  have e1 : (sAsg (fN c_law_draw (aC (fB (fVar 0)) (aC (fB (fC (.int 2))) aN))) (gSet 1)) [some (.frz (ns.map A.int)), none, none, none, none, none, none, none, none, none, none, none, none, none, none, none, none, none, none, none] [] = .nx [some (.frz (ns.map A.int)), some (.loc 2), none, none, none, none, none, none, none, none, none, none, none, none, none, none, none, none, none, none] (D3 J cs b0 []) :=
    e_asg (e_fB (e_fN (e_aC (e_fB (a := .frz (ns.map A.int)) rfl rfl) (e_aC (e_fB (a := .int 2) rfl rfl) e_aN)) e) rfl) rfl
  have e2 : ∃ ρ2 st2, (sFor (fRg1 (fC (.int 4))) (gSet 2) (sSeq (sAsg (fN c_law_standing (aC (fB (fVar 1)) (aC (fB (fC (.int 7))) (aC (fB (fC (.int 5))) aN)))) (gSet 3)) (sSeq (sAsg (fVar 3) (gTupF 2 (gC (gSet 4) (gC (gSet 5) gN)))) (sSeq (sPar 6 7 (aC (fB (fN bLen (aC (fVar 5) aN))) (aC (fB (fN c_law_count (aC (fB (fVar 3)) aN))) aN))) (sSeq (sAsg (fIf (uB (f2 opGt (fN c_law_any (aC (fB (fVar 1)) (aC (fB (fC (.int 4))) aN))) (fC (.int 0)))) (fN c_law_wish (aC (fB (fVar 1)) (aC (fB (fVar 3)) aN))) (fN c_law_places (aC (fB (fVar 3)) aN))) (gSet 8)) (sSeq (sIf (uOr (uB (f2 opIsN (fNK c_is_wish (aC (fB (fVar 8)) (aC (fB (fVar 3)) aN))) (fC (.bl true)))) (uB (f2 opNe (fN bRepr (aC (fNK c_crowds (aC (fB (fVar 8)) (aC (fB (fVar 3)) aN))) aN)) (fN bRepr (aC (fN c_law_crowds (aC (fB (fVar 3)) (aC (fB (fVar 8)) aN))) aN))))) (sRet (fC (.bl false))) sNil) (sSeq (sIf (uB (f2 opNe (fN bRepr (aC (fNK c_is_met (aC (fB (fVar 8)) (aC (fB (fVar 3)) aN))) aN)) (fN bRepr (aC (f2 opEq (fVar 8) (fN c_law_places (aC (fB (fVar 3)) aN))) aN)))) (sRet (fC (.bl false))) sNil) (sSeq (sAsg (fN mkLst (aC (fB (fN bLst (aC (fVar 8) aN))) (aC (fB (f2 opAdd (fVar 8) (fN mkTup (aC (fB (fC (.int 0))) aN)))) (aC (fB (fIf (uB (f2 opGt (fVar 7) (fC (.int 0)))) (fSl (fVar 8) (oS (fC (.int 1))) oN) (fN mkTup (aC (fB (fC (.int 0))) aN)))) (aC (fB (fIf (uB (f2 opGt (fVar 7) (fC (.int 0)))) (f2 opMul (fN mkTup (aC (fB (fVar 6)) aN)) (fVar 7)) (fC .non))) (aC (fB (fC .non)) (aC (fB (fIf (uB (f2 opGt (fVar 7) (fC (.int 0)))) (f2 opMul (fN mkTup (aC (fB (fC (.bl true))) aN)) (fVar 7)) (fC (.int 7)))) aN))))))) (gSet 9)) (sSeq (sAsg (f2 opAdd (fVar 9) (fN mkLst (aC (fB (fIf (uB (f2 opGt (fVar 7) (fVar 4))) (f2 opMul (fN mkTup (aC (fB (fC (.int 0))) aN)) (fVar 7)) (fN mkLst aN))) (aC (fB (fIf (uB (f2 opGt (fVar 7) (fC (.int 0)))) (f2 opAdd (fN mkTup (aC (fB (fNeg (fC (.int 1)))) aN)) (fSl (fVar 8) (oS (fC (.int 1))) oN)) (fC (.str "")))) (aC (fB (fIf (uB (f2 opGt (fVar 7) (fC (.int 0)))) (f2 opAdd (fN mkTup (aC (fB (fC (.str "0"))) aN)) (fSl (fVar 8) (oS (fC (.int 1))) oN)) (fN mkTup (aC (fB (fC (.int 0))) (aC (fB (fC (.int 0))) aN))))) aN))))) (gSet 9)) (sSeq (sIf (uB (f2 opIsN (fN c_is_wish (aC (fB (fVar 3)) (aC (fB (fN c_law_of (aC (fB (fVar 1)) (aC (fB (fVar 9)) aN)))) aN))) (fC (.bl false)))) (sRet (fC (.bl false))) sNil) (sSeq (sAsg (fN mkTup (aC (fB (fVar 4)) (aC (fB (fN c_law_dealt (aC (fB (fVar 1)) (aC (fB (fVar 4)) (aC (fB (fVar 6)) (aC (fB (fLRg1 (fVar 7))) aN)))))) aN))) (gSet 10)) (sSeq (sIf (uB (f2 opNe (fN bRepr (aC (fNK c_wish_of (aC (fB (fVar 10)) (aC (fB (fVar 3)) aN))) aN)) (fN bRepr (aC (fN c_law_places (aC (fB (fVar 10)) aN)) aN)))) (sRet (fC (.bl false))) sNil) (sSeq (sAsg (fN bTup (aC (fN c_law_mixed (aC (fB (fVar 1)) (aC (fB (fLRg1 (fVar 6))) aN))) aN)) (gSet 11)) (sSeq (sPar 12 13 (aC (fB (fNK c_renamed_blocks (aC (fB (fVar 11)) (aC (fB (fVar 3)) aN)))) (aC (fB (fNK c_renamed_wish (aC (fB (fVar 11)) (aC (fB (fVar 8)) aN)))) aN))) (sSeq (sIf (uOr (uB (f2 opNe (fN bRepr (aC (fVar 12) aN)) (fN bRepr (aC (fN mkTup (aC (fB (fVar 4)) (aC (fB (fN bTup (aC (fLc (fRg1 (fVar 6)) [19] (lN 19) uYes (f2 opIx (fVar 5) (fMT mIndexT (fVar 11) (aC (fB (fVar 19)) aN)))) aN))) aN))) aN)))) (uB (f2 opNe (fN bRepr (aC (fVar 13) aN)) (fN bRepr (aC (fN bTup (aC (fLc (fIter (fVar 8)) [14] (lN 14) uYes (f2 opIx (fVar 11) (fVar 14))) aN)) aN))))) (sRet (fC (.bl false))) sNil) (sIf (uB (f2 opGt (fVar 7) (fC (.int 0)))) (sSeq (sAsg (fN mkTup (aC (fB (fN c_law_any (aC (fB (fVar 1)) (aC (fB (fVar 7)) aN)))) (aC (fB (fN c_law_any (aC (fB (fVar 1)) (aC (fB (fVar 7)) aN)))) aN))) (gTupF 2 (gC (gSet 14) (gC (gSet 15) gN)))) (sSeq (sIf (uB (f2 opNe (fN bRepr (aC (fNK c_alike_records (aC (fB (fVar 15)) (aC (fB (fVar 14)) (aC (fB (fVar 8)) (aC (fB (fVar 3)) aN))))) aN)) (fN bRepr (aC (f2 opEq (f2 opIx (fVar 8) (fVar 14)) (f2 opIx (fVar 8) (fVar 15))) aN)))) (sRet (fC (.bl false))) sNil) (sSeq (sAsg (fLc (fIter (fVar 5)) [17] (lN 17) uYes (fLc (fIter (fVar 17)) [18] (lN 18) uYes (fIf (uB (f2 opEq (fVar 18) (fVar 14))) (fVar 15) (fIf (uB (f2 opEq (fVar 18) (fVar 15))) (fVar 14) (fVar 18))))) (gSet 16)) (sIf (uB (f2 opNe (fN bRepr (aC (fNK c_exchanged (aC (fB (fVar 15)) (aC (fB (fVar 14)) (aC (fB (fVar 3)) aN)))) aN)) (fN bRepr (aC (fN mkTup (aC (fB (fVar 4)) (aC (fB (fN bTup (aC (fLc (fIter (fVar 16)) [17] (lN 17) uYes (fN bTup (aC (fN bSrt (aC (fVar 17) aN)) aN))) aN))) aN))) aN)))) (sRet (fC (.bl false))) sNil)))) sNil)))))))))))))))) [some (.frz (ns.map A.int)), some (.loc 2), none, none, none, none, none, none, none, none, none, none, none, none, none, none, none, none, none, none] (D3 J cs b0 []) = .nx ρ2 st2 := by
    have := loop_inv (body := (sSeq (sAsg (fN c_law_standing (aC (fB (fVar 1)) (aC (fB (fC (.int 7))) (aC (fB (fC (.int 5))) aN)))) (gSet 3)) (sSeq (sAsg (fVar 3) (gTupF 2 (gC (gSet 4) (gC (gSet 5) gN)))) (sSeq (sPar 6 7 (aC (fB (fN bLen (aC (fVar 5) aN))) (aC (fB (fN c_law_count (aC (fB (fVar 3)) aN))) aN))) (sSeq (sAsg (fIf (uB (f2 opGt (fN c_law_any (aC (fB (fVar 1)) (aC (fB (fC (.int 4))) aN))) (fC (.int 0)))) (fN c_law_wish (aC (fB (fVar 1)) (aC (fB (fVar 3)) aN))) (fN c_law_places (aC (fB (fVar 3)) aN))) (gSet 8)) (sSeq (sIf (uOr (uB (f2 opIsN (fNK c_is_wish (aC (fB (fVar 8)) (aC (fB (fVar 3)) aN))) (fC (.bl true)))) (uB (f2 opNe (fN bRepr (aC (fNK c_crowds (aC (fB (fVar 8)) (aC (fB (fVar 3)) aN))) aN)) (fN bRepr (aC (fN c_law_crowds (aC (fB (fVar 3)) (aC (fB (fVar 8)) aN))) aN))))) (sRet (fC (.bl false))) sNil) (sSeq (sIf (uB (f2 opNe (fN bRepr (aC (fNK c_is_met (aC (fB (fVar 8)) (aC (fB (fVar 3)) aN))) aN)) (fN bRepr (aC (f2 opEq (fVar 8) (fN c_law_places (aC (fB (fVar 3)) aN))) aN)))) (sRet (fC (.bl false))) sNil) (sSeq (sAsg (fN mkLst (aC (fB (fN bLst (aC (fVar 8) aN))) (aC (fB (f2 opAdd (fVar 8) (fN mkTup (aC (fB (fC (.int 0))) aN)))) (aC (fB (fIf (uB (f2 opGt (fVar 7) (fC (.int 0)))) (fSl (fVar 8) (oS (fC (.int 1))) oN) (fN mkTup (aC (fB (fC (.int 0))) aN)))) (aC (fB (fIf (uB (f2 opGt (fVar 7) (fC (.int 0)))) (f2 opMul (fN mkTup (aC (fB (fVar 6)) aN)) (fVar 7)) (fC .non))) (aC (fB (fC .non)) (aC (fB (fIf (uB (f2 opGt (fVar 7) (fC (.int 0)))) (f2 opMul (fN mkTup (aC (fB (fC (.bl true))) aN)) (fVar 7)) (fC (.int 7)))) aN))))))) (gSet 9)) (sSeq (sAsg (f2 opAdd (fVar 9) (fN mkLst (aC (fB (fIf (uB (f2 opGt (fVar 7) (fVar 4))) (f2 opMul (fN mkTup (aC (fB (fC (.int 0))) aN)) (fVar 7)) (fN mkLst aN))) (aC (fB (fIf (uB (f2 opGt (fVar 7) (fC (.int 0)))) (f2 opAdd (fN mkTup (aC (fB (fNeg (fC (.int 1)))) aN)) (fSl (fVar 8) (oS (fC (.int 1))) oN)) (fC (.str "")))) (aC (fB (fIf (uB (f2 opGt (fVar 7) (fC (.int 0)))) (f2 opAdd (fN mkTup (aC (fB (fC (.str "0"))) aN)) (fSl (fVar 8) (oS (fC (.int 1))) oN)) (fN mkTup (aC (fB (fC (.int 0))) (aC (fB (fC (.int 0))) aN))))) aN))))) (gSet 9)) (sSeq (sIf (uB (f2 opIsN (fN c_is_wish (aC (fB (fVar 3)) (aC (fB (fN c_law_of (aC (fB (fVar 1)) (aC (fB (fVar 9)) aN)))) aN))) (fC (.bl false)))) (sRet (fC (.bl false))) sNil) (sSeq (sAsg (fN mkTup (aC (fB (fVar 4)) (aC (fB (fN c_law_dealt (aC (fB (fVar 1)) (aC (fB (fVar 4)) (aC (fB (fVar 6)) (aC (fB (fLRg1 (fVar 7))) aN)))))) aN))) (gSet 10)) (sSeq (sIf (uB (f2 opNe (fN bRepr (aC (fNK c_wish_of (aC (fB (fVar 10)) (aC (fB (fVar 3)) aN))) aN)) (fN bRepr (aC (fN c_law_places (aC (fB (fVar 10)) aN)) aN)))) (sRet (fC (.bl false))) sNil) (sSeq (sAsg (fN bTup (aC (fN c_law_mixed (aC (fB (fVar 1)) (aC (fB (fLRg1 (fVar 6))) aN))) aN)) (gSet 11)) (sSeq (sPar 12 13 (aC (fB (fNK c_renamed_blocks (aC (fB (fVar 11)) (aC (fB (fVar 3)) aN)))) (aC (fB (fNK c_renamed_wish (aC (fB (fVar 11)) (aC (fB (fVar 8)) aN)))) aN))) (sSeq (sIf (uOr (uB (f2 opNe (fN bRepr (aC (fVar 12) aN)) (fN bRepr (aC (fN mkTup (aC (fB (fVar 4)) (aC (fB (fN bTup (aC (fLc (fRg1 (fVar 6)) [19] (lN 19) uYes (f2 opIx (fVar 5) (fMT mIndexT (fVar 11) (aC (fB (fVar 19)) aN)))) aN))) aN))) aN)))) (uB (f2 opNe (fN bRepr (aC (fVar 13) aN)) (fN bRepr (aC (fN bTup (aC (fLc (fIter (fVar 8)) [14] (lN 14) uYes (f2 opIx (fVar 11) (fVar 14))) aN)) aN))))) (sRet (fC (.bl false))) sNil) (sIf (uB (f2 opGt (fVar 7) (fC (.int 0)))) (sSeq (sAsg (fN mkTup (aC (fB (fN c_law_any (aC (fB (fVar 1)) (aC (fB (fVar 7)) aN)))) (aC (fB (fN c_law_any (aC (fB (fVar 1)) (aC (fB (fVar 7)) aN)))) aN))) (gTupF 2 (gC (gSet 14) (gC (gSet 15) gN)))) (sSeq (sIf (uB (f2 opNe (fN bRepr (aC (fNK c_alike_records (aC (fB (fVar 15)) (aC (fB (fVar 14)) (aC (fB (fVar 8)) (aC (fB (fVar 3)) aN))))) aN)) (fN bRepr (aC (f2 opEq (f2 opIx (fVar 8) (fVar 14)) (f2 opIx (fVar 8) (fVar 15))) aN)))) (sRet (fC (.bl false))) sNil) (sSeq (sAsg (fLc (fIter (fVar 5)) [17] (lN 17) uYes (fLc (fIter (fVar 17)) [18] (lN 18) uYes (fIf (uB (f2 opEq (fVar 18) (fVar 14))) (fVar 15) (fIf (uB (f2 opEq (fVar 18) (fVar 15))) (fVar 14) (fVar 18))))) (gSet 16)) (sIf (uB (f2 opNe (fN bRepr (aC (fNK c_exchanged (aC (fB (fVar 15)) (aC (fB (fVar 14)) (aC (fB (fVar 3)) aN)))) aN)) (fN bRepr (aC (fN mkTup (aC (fB (fVar 4)) (aC (fB (fN bTup (aC (fLc (fIter (fVar 16)) [17] (lN 17) uYes (fN bTup (aC (fN bSrt (aC (fVar 17) aN)) aN))) aN))) aN))) aN)))) (sRet (fC (.bl false))) sNil)))) sNil)))))))))))))))) (g := gSet 2) (G := fun _ => True) (fun _ ρ st => Turn (.frz (ns.map A.int)) J ρ st) (fun r => ∃ ρ2 st2, r = .nx ρ2 st2) (xs := nL (List.range 4)) (ρ := [some (.frz (ns.map A.int)), some (.loc 2), none, none, none, none, none, none, none, none, none, none, none, none, none, none, none, none, none, none]) (st := D3 J cs b0 [])
      ⟨none, none, none, none, none, none, none, none, none, none, none, none, none, none, none, none, none, none, cs, b0, [], S, rfl, rfl⟩ (fun _ _ _ _ => trivial) (fun ρ st _ => ⟨ρ, st, rfl⟩) fun x xs ρ st h => by
        obtain ⟨ρ1, st1, ρ2, st2, q1, q2, q3⟩ := turn_ok x h
        exact ⟨ρ1, st1, q1, .inl ⟨ρ2, st2, .inl q2, q3⟩⟩
    obtain ⟨ρ2, st2, q⟩ := this
    exact ⟨ρ2, st2, e_for (xs := nL (List.range 4)) (G := fun _ => True) (fRg1_nat (n := 4) rfl (by decide)) q⟩
  obtain ⟨ρ2, st2, e2⟩ := e2
  have f : ∃ st', Ev.finish [] (.bl true) st2 = .ok (.bl true) st' := by
    unfold Ev.finish
    by_cases k : Kept [] st2
    · rw [if_pos k]
      exact ⟨_, rfl⟩
    · rw [if_neg k]
      exact ⟨_, rfl⟩
  obtain ⟨st', f⟩ := f
  exact ⟨st', defn_rt rfl (e_seq e1 (e_seq e2 (e_ret rfl))) f⟩
end Lw
namespace Lw
open PySem PySem.Spec PyProof.Rows L2 Gd Ev
theorem all_mk {l : PySem.W.OpenLaw} {w : World} {K : PySem.W.Frag} {h : Heap} {mg : Str → Option Value} {fa f1 f2 f3 f4 f5 f6 f7 f8 f9 f10 f11 f12 f13 f14 f15 f16 f17 f18 f19 f20 f21 f22 f23 f24 : Addr} (X : K.In h) (G : h.Ns mainGlobals mg) (hfa : mg "law" = some (.ref fa))
    {od1 an1 : Option Addr} {sl1 : Array (Option Value)} {oc1 kV1 dc1 pm1 cd1 ct1 : Value} {od2 an2 : Option Addr} {sl2 : Array (Option Value)} {oc2 kV2 dc2 pm2 cd2 ct2 : Value} {od3 an3 : Option Addr} {sl3 : Array (Option Value)} {oc3 kV3 dc3 pm3 cd3 ct3 : Value} {od4 an4 : Option Addr} {sl4 : Array (Option Value)} {oc4 kV4 dc4 pm4 cd4 ct4 : Value} {od5 an5 : Option Addr} {sl5 : Array (Option Value)} {oc5 kV5 dc5 pm5 cd5 ct5 : Value} {od6 an6 : Option Addr} {sl6 : Array (Option Value)} {oc6 kV6 dc6 pm6 cd6 ct6 : Value} {od7 an7 : Option Addr} {sl7 : Array (Option Value)} {oc7 kV7 dc7 pm7 cd7 ct7 : Value} {od8 an8 : Option Addr} {sl8 : Array (Option Value)} {oc8 kV8 dc8 pm8 cd8 ct8 : Value} {od9 an9 : Option Addr} {sl9 : Array (Option Value)} {oc9 kV9 dc9 pm9 cd9 ct9 : Value} {od10 an10 : Option Addr} {sl10 : Array (Option Value)} {oc10 kV10 dc10 pm10 cd10 ct10 : Value} {od11 an11 : Option Addr} {sl11 : Array (Option Value)} {oc11 kV11 dc11 pm11 cd11 ct11 : Value} {od12 an12 : Option Addr} {sl12 : Array (Option Value)} {oc12 kV12 dc12 pm12 cd12 ct12 : Value} {od13 an13 : Option Addr} {sl13 : Array (Option Value)} {oc13 kV13 dc13 pm13 cd13 ct13 : Value} {od14 an14 : Option Addr} {sl14 : Array (Option Value)} {oc14 kV14 dc14 pm14 cd14 ct14 : Value} {od15 an15 : Option Addr} {sl15 : Array (Option Value)} {oc15 kV15 dc15 pm15 cd15 ct15 : Value} {od16 an16 : Option Addr} {sl16 : Array (Option Value)} {oc16 kV16 dc16 pm16 cd16 ct16 : Value} {od17 an17 : Option Addr} {sl17 : Array (Option Value)} {oc17 kV17 dc17 pm17 cd17 ct17 : Value} {od18 an18 : Option Addr} {sl18 : Array (Option Value)} {oc18 kV18 dc18 pm18 cd18 ct18 : Value} {od19 an19 : Option Addr} {sl19 : Array (Option Value)} {oc19 kV19 dc19 pm19 cd19 ct19 : Value} {od20 an20 : Option Addr} {sl20 : Array (Option Value)} {oc20 kV20 dc20 pm20 cd20 ct20 : Value} {od21 an21 : Option Addr} {sl21 : Array (Option Value)} {oc21 kV21 dc21 pm21 cd21 ct21 : Value} {od22 an22 : Option Addr} {sl22 : Array (Option Value)} {oc22 kV22 dc22 pm22 cd22 ct22 : Value} {od23 an23 : Option Addr} {sl23 : Array (Option Value)} {oc23 kV23 dc23 pm23 cd23 ct23 : Value} {od24 an24 : Option Addr} {sl24 : Array (Option Value)} {oc24 kV24 dc24 pm24 cd24 ct24 : Value}
    (a1 : PySem.W.nsIn K mainGlobals "is_whole" = some (some (.ref f1))) (l1 : K.lookup f1 = some ⟨oc1, od1, .func (PySem.W.fnOf "is_whole" "is_whole" (defArgs s_is_whole) (defBody s_is_whole) (defScope s_is_whole) .none kV1 dc1 pm1 an1 cd1 ct1), sl1⟩) (c1 : PySem.W.codeIn K cd1 "is_whole" = true) (k1 : PySem.W.keepIn K (.ref f1) = true)
    (a2 : PySem.W.nsIn K mainGlobals "is_number" = some (some (.ref f2))) (l2 : K.lookup f2 = some ⟨oc2, od2, .func (PySem.W.fnOf "is_number" "is_number" (defArgs s_is_number) (defBody s_is_number) (defScope s_is_number) .none kV2 dc2 pm2 an2 cd2 ct2), sl2⟩) (c2 : PySem.W.codeIn K cd2 "is_number" = true) (k2 : PySem.W.keepIn K (.ref f2) = true)
    (a3 : PySem.W.nsIn K mainGlobals "is_tuple_of" = some (some (.ref f3))) (l3 : K.lookup f3 = some ⟨oc3, od3, .func (PySem.W.fnOf "is_tuple_of" "is_tuple_of" (defArgs s_is_tuple_of) (defBody s_is_tuple_of) (defScope s_is_tuple_of) .none kV3 dc3 pm3 an3 cd3 ct3), sl3⟩) (c3 : PySem.W.codeIn K cd3 "is_tuple_of" = true) (k3 : PySem.W.keepIn K (.ref f3) = true)
    (a4 : PySem.W.nsIn K mainGlobals "record_count" = some (some (.ref f4))) (l4 : K.lookup f4 = some ⟨oc4, od4, .func (PySem.W.fnOf "record_count" "record_count" (defArgs s_record_count) (defBody s_record_count) (defScope s_record_count) .none kV4 dc4 pm4 an4 cd4 ct4), sl4⟩) (c4 : PySem.W.codeIn K cd4 "record_count" = true) (k4 : PySem.W.keepIn K (.ref f4) = true)
    (a5 : PySem.W.nsIn K mainGlobals "is_wish" = some (some (.ref f5))) (l5 : K.lookup f5 = some ⟨oc5, od5, .func (PySem.W.fnOf "is_wish" "is_wish" (defArgs s_is_wish) (defBody s_is_wish) (defScope s_is_wish) .none kV5 dc5 pm5 an5 cd5 ct5), sl5⟩) (c5 : PySem.W.codeIn K cd5 "is_wish" = true) (k5 : PySem.W.keepIn K (.ref f5) = true)
    (a6 : PySem.W.nsIn K mainGlobals "crowd" = some (some (.ref f6))) (l6 : K.lookup f6 = some ⟨oc6, od6, .func (PySem.W.fnOf "crowd" "crowd" (defArgs s_crowd) (defBody s_crowd) (defScope s_crowd) .none kV6 dc6 pm6 an6 cd6 ct6), sl6⟩) (c6 : PySem.W.codeIn K cd6 "crowd" = true) (k6 : PySem.W.keepIn K (.ref f6) = true)
    (a7 : PySem.W.nsIn K mainGlobals "crowds" = some (some (.ref f7))) (l7 : K.lookup f7 = some ⟨oc7, od7, .func (PySem.W.fnOf "crowds" "crowds" (defArgs s_crowds) (defBody s_crowds) (defScope s_crowds) .none kV7 dc7 pm7 an7 cd7 ct7), sl7⟩) (c7 : PySem.W.codeIn K cd7 "crowds" = true) (k7 : PySem.W.keepIn K (.ref f7) = true)
    (a8 : PySem.W.nsIn K mainGlobals "is_met" = some (some (.ref f8))) (l8 : K.lookup f8 = some ⟨oc8, od8, .func (PySem.W.fnOf "is_met" "is_met" (defArgs s_is_met) (defBody s_is_met) (defScope s_is_met) .none kV8 dc8 pm8 an8 cd8 ct8), sl8⟩) (c8 : PySem.W.codeIn K cd8 "is_met" = true) (k8 : PySem.W.keepIn K (.ref f8) = true)
    (a9 : PySem.W.nsIn K mainGlobals "wish_of" = some (some (.ref f9))) (l9 : K.lookup f9 = some ⟨oc9, od9, .func (PySem.W.fnOf "wish_of" "wish_of" (defArgs s_wish_of) (defBody s_wish_of) (defScope s_wish_of) .none kV9 dc9 pm9 an9 cd9 ct9), sl9⟩) (c9 : PySem.W.codeIn K cd9 "wish_of" = true) (k9 : PySem.W.keepIn K (.ref f9) = true)
    (a10 : PySem.W.nsIn K mainGlobals "renamed_blocks" = some (some (.ref f10))) (l10 : K.lookup f10 = some ⟨oc10, od10, .func (PySem.W.fnOf "renamed_blocks" "renamed_blocks" (defArgs s_renamed_blocks) (defBody s_renamed_blocks) (defScope s_renamed_blocks) .none kV10 dc10 pm10 an10 cd10 ct10), sl10⟩) (c10 : PySem.W.codeIn K cd10 "renamed_blocks" = true) (k10 : PySem.W.keepIn K (.ref f10) = true)
    (a11 : PySem.W.nsIn K mainGlobals "renamed_wish" = some (some (.ref f11))) (l11 : K.lookup f11 = some ⟨oc11, od11, .func (PySem.W.fnOf "renamed_wish" "renamed_wish" (defArgs s_renamed_wish) (defBody s_renamed_wish) (defScope s_renamed_wish) .none kV11 dc11 pm11 an11 cd11 ct11), sl11⟩) (c11 : PySem.W.codeIn K cd11 "renamed_wish" = true) (k11 : PySem.W.keepIn K (.ref f11) = true)
    (a12 : PySem.W.nsIn K mainGlobals "alike_records" = some (some (.ref f12))) (l12 : K.lookup f12 = some ⟨oc12, od12, .func (PySem.W.fnOf "alike_records" "alike_records" (defArgs s_alike_records) (defBody s_alike_records) (defScope s_alike_records) .none kV12 dc12 pm12 an12 cd12 ct12), sl12⟩) (c12 : PySem.W.codeIn K cd12 "alike_records" = true) (k12 : PySem.W.keepIn K (.ref f12) = true)
    (a13 : PySem.W.nsIn K mainGlobals "exchanged" = some (some (.ref f13))) (l13 : K.lookup f13 = some ⟨oc13, od13, .func (PySem.W.fnOf "exchanged" "exchanged" (defArgs s_exchanged) (defBody s_exchanged) (defScope s_exchanged) .none kV13 dc13 pm13 an13 cd13 ct13), sl13⟩) (c13 : PySem.W.codeIn K cd13 "exchanged" = true) (k13 : PySem.W.keepIn K (.ref f13) = true)
    (a14 : PySem.W.nsIn K mainGlobals "_law_draw" = some (some (.ref f14))) (l14 : K.lookup f14 = some ⟨oc14, od14, .func (PySem.W.fnOf "_law_draw" "_law_draw" (defArgs s_law_draw) (defBody s_law_draw) (defScope s_law_draw) .none kV14 dc14 pm14 an14 cd14 ct14), sl14⟩) (c14 : PySem.W.codeIn K cd14 "_law_draw" = true) (k14 : PySem.W.keepIn K (.ref f14) = true)
    (a15 : PySem.W.nsIn K mainGlobals "_law_any" = some (some (.ref f15))) (l15 : K.lookup f15 = some ⟨oc15, od15, .func (PySem.W.fnOf "_law_any" "_law_any" (defArgs s_law_any) (defBody s_law_any) (defScope s_law_any) .none kV15 dc15 pm15 an15 cd15 ct15), sl15⟩) (c15 : PySem.W.codeIn K cd15 "_law_any" = true) (k15 : PySem.W.keepIn K (.ref f15) = true)
    (a16 : PySem.W.nsIn K mainGlobals "_law_of" = some (some (.ref f16))) (l16 : K.lookup f16 = some ⟨oc16, od16, .func (PySem.W.fnOf "_law_of" "_law_of" (defArgs s_law_of) (defBody s_law_of) (defScope s_law_of) .none kV16 dc16 pm16 an16 cd16 ct16), sl16⟩) (c16 : PySem.W.codeIn K cd16 "_law_of" = true) (k16 : PySem.W.keepIn K (.ref f16) = true)
    (a17 : PySem.W.nsIn K mainGlobals "_law_mixed" = some (some (.ref f17))) (l17 : K.lookup f17 = some ⟨oc17, od17, .func (PySem.W.fnOf "_law_mixed" "_law_mixed" (defArgs s_law_mixed) (defBody s_law_mixed) (defScope s_law_mixed) .none kV17 dc17 pm17 an17 cd17 ct17), sl17⟩) (c17 : PySem.W.codeIn K cd17 "_law_mixed" = true) (k17 : PySem.W.keepIn K (.ref f17) = true)
    (a18 : PySem.W.nsIn K mainGlobals "_law_dealt" = some (some (.ref f18))) (l18 : K.lookup f18 = some ⟨oc18, od18, .func (PySem.W.fnOf "_law_dealt" "_law_dealt" (defArgs s_law_dealt) (defBody s_law_dealt) (defScope s_law_dealt) .none kV18 dc18 pm18 an18 cd18 ct18), sl18⟩) (c18 : PySem.W.codeIn K cd18 "_law_dealt" = true) (k18 : PySem.W.keepIn K (.ref f18) = true)
    (a19 : PySem.W.nsIn K mainGlobals "_law_standing" = some (some (.ref f19))) (l19 : K.lookup f19 = some ⟨oc19, od19, .func (PySem.W.fnOf "_law_standing" "_law_standing" (defArgs s_law_standing) (defBody s_law_standing) (defScope s_law_standing) .none kV19 dc19 pm19 an19 cd19 ct19), sl19⟩) (c19 : PySem.W.codeIn K cd19 "_law_standing" = true) (k19 : PySem.W.keepIn K (.ref f19) = true)
    (a20 : PySem.W.nsIn K mainGlobals "_law_count" = some (some (.ref f20))) (l20 : K.lookup f20 = some ⟨oc20, od20, .func (PySem.W.fnOf "_law_count" "_law_count" (defArgs s_law_count) (defBody s_law_count) (defScope s_law_count) .none kV20 dc20 pm20 an20 cd20 ct20), sl20⟩) (c20 : PySem.W.codeIn K cd20 "_law_count" = true) (k20 : PySem.W.keepIn K (.ref f20) = true)
    (a21 : PySem.W.nsIn K mainGlobals "_law_places" = some (some (.ref f21))) (l21 : K.lookup f21 = some ⟨oc21, od21, .func (PySem.W.fnOf "_law_places" "_law_places" (defArgs s_law_places) (defBody s_law_places) (defScope s_law_places) .none kV21 dc21 pm21 an21 cd21 ct21), sl21⟩) (c21 : PySem.W.codeIn K cd21 "_law_places" = true) (k21 : PySem.W.keepIn K (.ref f21) = true)
    (a22 : PySem.W.nsIn K mainGlobals "_law_wish" = some (some (.ref f22))) (l22 : K.lookup f22 = some ⟨oc22, od22, .func (PySem.W.fnOf "_law_wish" "_law_wish" (defArgs s_law_wish) (defBody s_law_wish) (defScope s_law_wish) .none kV22 dc22 pm22 an22 cd22 ct22), sl22⟩) (c22 : PySem.W.codeIn K cd22 "_law_wish" = true) (k22 : PySem.W.keepIn K (.ref f22) = true)
    (a23 : PySem.W.nsIn K mainGlobals "_law_crowds" = some (some (.ref f23))) (l23 : K.lookup f23 = some ⟨oc23, od23, .func (PySem.W.fnOf "_law_crowds" "_law_crowds" (defArgs s_law_crowds) (defBody s_law_crowds) (defScope s_law_crowds) .none kV23 dc23 pm23 an23 cd23 ct23), sl23⟩) (c23 : PySem.W.codeIn K cd23 "_law_crowds" = true) (k23 : PySem.W.keepIn K (.ref f23) = true)
    (a24 : PySem.W.nsIn K mainGlobals "law" = some (some (.ref f24))) (l24 : K.lookup f24 = some ⟨oc24, od24, .func (PySem.W.fnOf "law" "law" (defArgs s_law) (defBody s_law) (defScope s_law) .none kV24 dc24 pm24 an24 cd24 ct24), sl24⟩) (c24 : PySem.W.codeIn K cd24 "law" = true) (k24 : PySem.W.keepIn K (.ref f24) = true)
    (z1 : PySem.W.nsIn K mainGlobals "abs" = some none)
    (z2 : PySem.W.nsIn K mainGlobals "bool" = some none)
    (z3 : PySem.W.nsIn K mainGlobals "enumerate" = some none)
    (z4 : PySem.W.nsIn K mainGlobals "int" = some none)
    (z5 : PySem.W.nsIn K mainGlobals "isinstance" = some none)
    (z6 : PySem.W.nsIn K mainGlobals "len" = some none)
    (z7 : PySem.W.nsIn K mainGlobals "list" = some none)
    (z8 : PySem.W.nsIn K mainGlobals "range" = some none)
    (z9 : PySem.W.nsIn K mainGlobals "repr" = some none)
    (z10 : PySem.W.nsIn K mainGlobals "sorted" = some none)
    (z11 : PySem.W.nsIn K mainGlobals "sum" = some none)
    (z12 : PySem.W.nsIn K mainGlobals "tuple" = some none)
    : ∃ fd : FuncData, (∀ (s : Shared) (v : Value), BindsTo s fd ⟨[v], []⟩ [("script", v)]) ∧ ∀ base : Heap, K.In base → base.Ns mainGlobals mg → FnG l.prog w K mg base 5 fa fd ["script"] (spOf K c_law) := by
  have e := hfa.symm.trans (PySem.W.mg_of X G a24)
  cases e
  have F1 := fun_mk (st := s_is_whole) l1 c1 k1
  have g1 := PySem.W.mg_of X G a1
  have b1 := F1.binds (ps := ["value"]) fun _ _ _ _ _ _ us hl => match us, hl with | [_], _ => rfl
  have F2 := fun_mk (st := s_is_number) l2 c2 k2
  have g2 := PySem.W.mg_of X G a2
  have b2 := F2.binds (ps := ["value"]) fun _ _ _ _ _ _ us hl => match us, hl with | [_], _ => rfl
  have F3 := fun_mk (st := s_is_tuple_of) l3 c3 k3
  have g3 := PySem.W.mg_of X G a3
  have b3 := F3.binds (ps := ["value", "many"]) fun _ _ _ _ _ _ us hl => match us, hl with | [_, _], _ => rfl
  have F4 := fun_mk (st := s_record_count) l4 c4 k4
  have g4 := PySem.W.mg_of X G a4
  have b4 := F4.binds (ps := ["standing"]) fun _ _ _ _ _ _ us hl => match us, hl with | [_], _ => rfl
  have F5 := fun_mk (st := s_is_wish) l5 c5 k5
  have g5 := PySem.W.mg_of X G a5
  have b5 := F5.binds (ps := ["standing", "value"]) fun _ _ _ _ _ _ us hl => match us, hl with | [_, _], _ => rfl
  have F6 := fun_mk (st := s_crowd) l6 c6 k6
  have g6 := PySem.W.mg_of X G a6
  have b6 := F6.binds (ps := ["block", "wish", "many"]) fun _ _ _ _ _ _ us hl => match us, hl with | [_, _, _], _ => rfl
  have F7 := fun_mk (st := s_crowds) l7 c7 k7
  have g7 := PySem.W.mg_of X G a7
  have b7 := F7.binds (ps := ["standing", "wish"]) fun _ _ _ _ _ _ us hl => match us, hl with | [_, _], _ => rfl
  have F8 := fun_mk (st := s_is_met) l8 c8 k8
  have g8 := PySem.W.mg_of X G a8
  have b8 := F8.binds (ps := ["standing", "wish"]) fun _ _ _ _ _ _ us hl => match us, hl with | [_, _], _ => rfl
  have F9 := fun_mk (st := s_wish_of) l9 c9 k9
  have g9 := PySem.W.mg_of X G a9
  have b9 := F9.binds (ps := ["standing", "other"]) fun _ _ _ _ _ _ us hl => match us, hl with | [_, _], _ => rfl
  have F10 := fun_mk (st := s_renamed_blocks) l10 c10 k10
  have g10 := PySem.W.mg_of X G a10
  have b10 := F10.binds (ps := ["standing", "names"]) fun _ _ _ _ _ _ us hl => match us, hl with | [_, _], _ => rfl
  have F11 := fun_mk (st := s_renamed_wish) l11 c11 k11
  have g11 := PySem.W.mg_of X G a11
  have b11 := F11.binds (ps := ["wish", "names"]) fun _ _ _ _ _ _ us hl => match us, hl with | [_, _], _ => rfl
  have F12 := fun_mk (st := s_alike_records) l12 c12 k12
  have g12 := PySem.W.mg_of X G a12
  have b12 := F12.binds (ps := ["standing", "wish", "one", "other"]) fun _ _ _ _ _ _ us hl => match us, hl with | [_, _, _, _], _ => rfl
  have F13 := fun_mk (st := s_exchanged) l13 c13 k13
  have g13 := PySem.W.mg_of X G a13
  have b13 := F13.binds (ps := ["standing", "one", "other"]) fun _ _ _ _ _ _ us hl => match us, hl with | [_, _, _], _ => rfl
  have F14 := fun_mk (st := s_law_draw) l14 c14 k14
  have g14 := PySem.W.mg_of X G a14
  have b14 := F14.binds (ps := ["script", "salt"]) fun _ _ _ _ _ _ us hl => match us, hl with | [_, _], _ => rfl
  have F15 := fun_mk (st := s_law_any) l15 c15 k15
  have g15 := PySem.W.mg_of X G a15
  have b15 := F15.binds (ps := ["deal", "bound"]) fun _ _ _ _ _ _ us hl => match us, hl with | [_, _], _ => rfl
  have F16 := fun_mk (st := s_law_of) l16 c16 k16
  have g16 := PySem.W.mg_of X G a16
  have b16 := F16.binds (ps := ["deal", "some"]) fun _ _ _ _ _ _ us hl => match us, hl with | [_, _], _ => rfl
  have F17 := fun_mk (st := s_law_mixed) l17 c17 k17
  have g17 := PySem.W.mg_of X G a17
  have b17 := F17.binds (ps := ["deal", "some"]) fun _ _ _ _ _ _ us hl => match us, hl with | [_, _], _ => rfl
  have F18 := fun_mk (st := s_law_dealt) l18 c18 k18
  have g18 := PySem.W.mg_of X G a18
  have b18 := F18.binds (ps := ["deal", "b", "many", "records"]) fun _ _ _ _ _ _ us hl => match us, hl with | [_, _, _, _], _ => rfl
  have F19 := fun_mk (st := s_law_standing) l19 c19 k19
  have g19 := PySem.W.mg_of X G a19
  have b19 := F19.binds (ps := ["deal", "most", "size"]) fun _ _ _ _ _ _ us hl => match us, hl with | [_, _, _], _ => rfl
  have F20 := fun_mk (st := s_law_count) l20 c20 k20
  have g20 := PySem.W.mg_of X G a20
  have b20 := F20.binds (ps := ["standing"]) fun _ _ _ _ _ _ us hl => match us, hl with | [_], _ => rfl
  have F21 := fun_mk (st := s_law_places) l21 c21 k21
  have g21 := PySem.W.mg_of X G a21
  have b21 := F21.binds (ps := ["standing"]) fun _ _ _ _ _ _ us hl => match us, hl with | [_], _ => rfl
  have F22 := fun_mk (st := s_law_wish) l22 c22 k22
  have g22 := PySem.W.mg_of X G a22
  have b22 := F22.binds (ps := ["deal", "standing"]) fun _ _ _ _ _ _ us hl => match us, hl with | [_, _], _ => rfl
  have F23 := fun_mk (st := s_law_crowds) l23 c23 k23
  have g23 := PySem.W.mg_of X G a23
  have b23 := F23.binds (ps := ["standing", "wish"]) fun _ _ _ _ _ _ us hl => match us, hl with | [_, _], _ => rfl
  have F24 := fun_mk (st := s_law) l24 c24 k24
  have g24 := PySem.W.mg_of X G a24
  have b24 := F24.binds (ps := ["script"]) fun _ _ _ _ _ _ us hl => match us, hl with | [_], _ => rfl
  have y_abs := PySem.W.mg_none_of X G z1
  have y_bool := PySem.W.mg_none_of X G z2
  have y_enumerate := PySem.W.mg_none_of X G z3
  have y_int := PySem.W.mg_none_of X G z4
  have y_isinstance := PySem.W.mg_none_of X G z5
  have y_len := PySem.W.mg_none_of X G z6
  have y_list := PySem.W.mg_none_of X G z7
  have y_range := PySem.W.mg_none_of X G z8
  have y_repr := PySem.W.mg_none_of X G z9
  have y_sorted := PySem.W.mg_none_of X G z10
  have y_sum := PySem.W.mg_none_of X G z11
  have y_tuple := PySem.W.mg_none_of X G z12
  refine ⟨PySem.W.fnOf "law" "law" (defArgs s_law) (defBody s_law) (defScope s_law) .none kV24 dc24 pm24 an24 cd24 ct24, fun s v => .of_eq rfl, fun base _ _ => ?_⟩
  have Z : Zs K mg := ⟨y_abs, y_bool, y_enumerate, y_int, y_isinstance, y_len, y_list, y_range, y_repr, y_sorted, y_sum, y_tuple⟩
  let C_is_whole : Cal l.prog w K mg base 1 "is_whole" ["value"] (spOf K c_is_whole) := ⟨f1, _, ok_is_whole F1 Z , b1, k1, g1⟩
  let C_is_number : Cal l.prog w K mg base 2 "is_number" ["value"] (spOf K c_is_number) := ⟨f2, _, ok_is_number F2 Z C_is_whole, b2, k2, g2⟩
  let C_is_tuple_of : Cal l.prog w K mg base 1 "is_tuple_of" ["value", "many"] (spOf K c_is_tuple_of) := ⟨f3, _, ok_is_tuple_of F3 Z , b3, k3, g3⟩
  let C_record_count : Cal l.prog w K mg base 1 "record_count" ["standing"] (spOf K c_record_count) := ⟨f4, _, ok_record_count F4 Z , b4, k4, g4⟩
  let C_is_wish : Cal l.prog w K mg base 3 "is_wish" ["standing", "value"] (spOf K c_is_wish) := ⟨f5, _, ok_is_wish F5 Z C_is_number C_is_tuple_of C_record_count, b5, k5, g5⟩
  let C_crowd : Cal l.prog w K mg base 1 "crowd" ["block", "wish", "many"] (spOf K c_crowd) := ⟨f6, _, ok_crowd F6 Z , b6, k6, g6⟩
  let C_crowds : Cal l.prog w K mg base 2 "crowds" ["standing", "wish"] (spOf K c_crowds) := ⟨f7, _, ok_crowds F7 Z C_crowd, b7, k7, g7⟩
  let C_is_met : Cal l.prog w K mg base 1 "is_met" ["standing", "wish"] (spOf K c_is_met) := ⟨f8, _, ok_is_met F8 Z , b8, k8, g8⟩
  let C_wish_of : Cal l.prog w K mg base 2 "wish_of" ["standing", "other"] (spOf K c_wish_of) := ⟨f9, _, ok_wish_of F9 Z C_record_count, b9, k9, g9⟩
  let C_renamed_blocks : Cal l.prog w K mg base 1 "renamed_blocks" ["standing", "names"] (spOf K c_renamed_blocks) := ⟨f10, _, ok_renamed_blocks F10 Z , b10, k10, g10⟩
  let C_renamed_wish : Cal l.prog w K mg base 1 "renamed_wish" ["wish", "names"] (spOf K c_renamed_wish) := ⟨f11, _, ok_renamed_wish F11 Z , b11, k11, g11⟩
  let C_alike_records : Cal l.prog w K mg base 1 "alike_records" ["standing", "wish", "one", "other"] (spOf K c_alike_records) := ⟨f12, _, ok_alike_records F12 Z , b12, k12, g12⟩
  let C_exchanged : Cal l.prog w K mg base 1 "exchanged" ["standing", "one", "other"] (spOf K c_exchanged) := ⟨f13, _, ok_exchanged F13 Z , b13, k13, g13⟩
  let C_law_draw : Cal l.prog w K mg base 1 "_law_draw" ["script", "salt"] (spOf K c_law_draw) := ⟨f14, _, ok_law_draw F14 Z , b14, k14, g14⟩
  let C_law_any : Cal l.prog w K mg base 1 "_law_any" ["deal", "bound"] (spOf K c_law_any) := ⟨f15, _, ok_law_any F15 Z , b15, k15, g15⟩
  let C_law_of : Cal l.prog w K mg base 2 "_law_of" ["deal", "some"] (spOf K c_law_of) := ⟨f16, _, ok_law_of F16 Z C_law_any, b16, k16, g16⟩
  let C_law_mixed : Cal l.prog w K mg base 2 "_law_mixed" ["deal", "some"] (spOf K c_law_mixed) := ⟨f17, _, ok_law_mixed F17 Z C_law_any, b17, k17, g17⟩
  let C_law_dealt : Cal l.prog w K mg base 3 "_law_dealt" ["deal", "b", "many", "records"] (spOf K c_law_dealt) := ⟨f18, _, ok_law_dealt F18 Z C_law_of C_law_mixed, b18, k18, g18⟩
  let C_law_standing : Cal l.prog w K mg base 4 "_law_standing" ["deal", "most", "size"] (spOf K c_law_standing) := ⟨f19, _, ok_law_standing F19 Z C_law_any C_law_dealt, b19, k19, g19⟩
  let C_law_count : Cal l.prog w K mg base 1 "_law_count" ["standing"] (spOf K c_law_count) := ⟨f20, _, ok_law_count F20 Z , b20, k20, g20⟩
  let C_law_places : Cal l.prog w K mg base 2 "_law_places" ["standing"] (spOf K c_law_places) := ⟨f21, _, ok_law_places F21 Z C_law_count, b21, k21, g21⟩
  let C_law_wish : Cal l.prog w K mg base 4 "_law_wish" ["deal", "standing"] (spOf K c_law_wish) := ⟨f22, _, ok_law_wish F22 Z C_law_dealt C_law_count C_law_places, b22, k22, g22⟩
  let C_law_crowds : Cal l.prog w K mg base 1 "_law_crowds" ["standing", "wish"] (spOf K c_law_crowds) := ⟨f23, _, ok_law_crowds F23 Z , b23, k23, g23⟩
  have kb_is_wish : KBinds K C_is_wish.fd ["standing", "value"] ["value", "standing"] (fun us ws => us ++ ws.reverse) (fun us ws => us ++ ws.reverse) := Ev.kw_two F5 (fun _ _ _ _ _ _ _ _ => rfl) (fun _ _ _ _ _ _ _ _ => rfl) (fun _ _ _ _ _ _ _ _ => rfl)
  have kb_crowds : KBinds K C_crowds.fd ["standing", "wish"] ["wish", "standing"] (fun us ws => us ++ ws.reverse) (fun us ws => us ++ ws.reverse) := Ev.kw_two F7 (fun _ _ _ _ _ _ _ _ => rfl) (fun _ _ _ _ _ _ _ _ => rfl) (fun _ _ _ _ _ _ _ _ => rfl)
  have kb_is_met : KBinds K C_is_met.fd ["standing", "wish"] ["wish", "standing"] (fun us ws => us ++ ws.reverse) (fun us ws => us ++ ws.reverse) := Ev.kw_two F8 (fun _ _ _ _ _ _ _ _ => rfl) (fun _ _ _ _ _ _ _ _ => rfl) (fun _ _ _ _ _ _ _ _ => rfl)
  have kb_wish_of : KBinds K C_wish_of.fd ["standing", "other"] ["other", "standing"] (fun us ws => us ++ ws.reverse) (fun us ws => us ++ ws.reverse) := Ev.kw_two F9 (fun _ _ _ _ _ _ _ _ => rfl) (fun _ _ _ _ _ _ _ _ => rfl) (fun _ _ _ _ _ _ _ _ => rfl)
  have kb_renamed_blocks : KBinds K C_renamed_blocks.fd ["standing", "names"] ["names", "standing"] (fun us ws => us ++ ws.reverse) (fun us ws => us ++ ws.reverse) := Ev.kw_two F10 (fun _ _ _ _ _ _ _ _ => rfl) (fun _ _ _ _ _ _ _ _ => rfl) (fun _ _ _ _ _ _ _ _ => rfl)
  have kb_renamed_wish : KBinds K C_renamed_wish.fd ["wish", "names"] ["names", "wish"] (fun us ws => us ++ ws.reverse) (fun us ws => us ++ ws.reverse) := Ev.kw_two F11 (fun _ _ _ _ _ _ _ _ => rfl) (fun _ _ _ _ _ _ _ _ => rfl) (fun _ _ _ _ _ _ _ _ => rfl)
  have kb_alike_records : KBinds K C_alike_records.fd ["standing", "wish", "one", "other"] ["other", "one", "wish", "standing"] (fun us ws => us ++ ws.reverse) (fun us ws => us ++ ws.reverse) := Ev.kw_four F12 (fun _ _ _ _ _ _ _ _ _ _ => rfl) (fun _ _ _ _ _ _ _ _ _ _ => rfl) (fun _ _ _ _ _ _ _ _ _ _ => rfl) (fun _ _ _ _ _ _ _ _ _ _ => rfl) (fun _ _ _ _ _ _ _ _ _ _ => rfl)
  have kb_exchanged : KBinds K C_exchanged.fd ["standing", "one", "other"] ["other", "one", "standing"] (fun us ws => us ++ ws.reverse) (fun us ws => us ++ ws.reverse) := Ev.kw_three F13 (fun _ _ _ _ _ _ _ _ _ => rfl) (fun _ _ _ _ _ _ _ _ _ => rfl) (fun _ _ _ _ _ _ _ _ _ => rfl) (fun _ _ _ _ _ _ _ _ _ => rfl)
  exact ok_law F24 Z C_is_wish kb_is_wish C_crowds kb_crowds C_is_met kb_is_met C_wish_of kb_wish_of C_renamed_blocks kb_renamed_blocks C_renamed_wish kb_renamed_wish C_alike_records kb_alike_records C_exchanged kb_exchanged C_law_draw C_law_any C_law_of C_law_mixed C_law_dealt C_law_standing C_law_count C_law_places C_law_wish C_law_crowds
end Lw
open PySem PySem.W PyProof.Rows
set_option maxHeartbeats 0 in
theorem PySem.Challenge.cw_fewestpours_k02_wishes_and_crowds_holds : PySem.Challenge.rw_fewestpours_k02_wishes_and_crowds.Holds := by
  w_on; o_law; k_head; (case hw => w_witness2)
  k_fill
  refine Ev.walk_ofE (l := PySem.Challenge.rw_fewestpours_k02_wishes_and_crowds) (n := 63) (k := 5) (x := "script") (c := Lw.c_law) rfl (by decide) rfl ⟨rfl, by decide, by decide⟩ (fun w h Y => PySem.W.kIn_of Y) ?F (fun ns _ => Lw.law_ok ns)
  case F =>
    intro w mg fa h KX G hmg
    refine' Lw.all_mk KX G hmg ?a1 ?l1 ?c1 ?k1 ?a2 ?l2 ?c2 ?k2 ?a3 ?l3 ?c3 ?k3 ?a4 ?l4 ?c4 ?k4 ?a5 ?l5 ?c5 ?k5 ?a6 ?l6 ?c6 ?k6 ?a7 ?l7 ?c7 ?k7 ?a8 ?l8 ?c8 ?k8 ?a9 ?l9 ?c9 ?k9 ?a10 ?l10 ?c10 ?k10 ?a11 ?l11 ?c11 ?k11 ?a12 ?l12 ?c12 ?k12 ?a13 ?l13 ?c13 ?k13 ?a14 ?l14 ?c14 ?k14 ?a15 ?l15 ?c15 ?k15 ?a16 ?l16 ?c16 ?k16 ?a17 ?l17 ?c17 ?k17 ?a18 ?l18 ?c18 ?k18 ?a19 ?l19 ?c19 ?k19 ?a20 ?l20 ?c20 ?k20 ?a21 ?l21 ?c21 ?k21 ?a22 ?l22 ?c22 ?k22 ?a23 ?l23 ?c23 ?k23 ?a24 ?l24 ?c24 ?k24 ?z1 ?z2 ?z3 ?z4 ?z5 ?z6 ?z7 ?z8 ?z9 ?z10 ?z11 ?z12
    (case a1 => k_is)
    (case l1 => k_is)
    (case c1 => k_is)
    (case k1 => k_is)
    (case a2 => k_is)
    (case l2 => k_is)
    (case c2 => k_is)
    (case k2 => k_is)
    (case a3 => k_is)
    (case l3 => k_is)
    (case c3 => k_is)
    (case k3 => k_is)
    (case a4 => k_is)
    (case l4 => k_is)
    (case c4 => k_is)
    (case k4 => k_is)
    (case a5 => k_is)
    (case l5 => k_is)
    (case c5 => k_is)
    (case k5 => k_is)
    (case a6 => k_is)
    (case l6 => k_is)
    (case c6 => k_is)
    (case k6 => k_is)
    (case a7 => k_is)
    (case l7 => k_is)
    (case c7 => k_is)
    (case k7 => k_is)
    (case a8 => k_is)
    (case l8 => k_is)
    (case c8 => k_is)
    (case k8 => k_is)
    (case a9 => k_is)
    (case l9 => k_is)
    (case c9 => k_is)
    (case k9 => k_is)
    (case a10 => k_is)
    (case l10 => k_is)
    (case c10 => k_is)
    (case k10 => k_is)
    (case a11 => k_is)
    (case l11 => k_is)
    (case c11 => k_is)
    (case k11 => k_is)
    (case a12 => k_is)
    (case l12 => k_is)
    (case c12 => k_is)
    (case k12 => k_is)
    (case a13 => k_is)
    (case l13 => k_is)
    (case c13 => k_is)
    (case k13 => k_is)
    (case a14 => k_is)
    (case l14 => k_is)
    (case c14 => k_is)
    (case k14 => k_is)
    (case a15 => k_is)
    (case l15 => k_is)
    (case c15 => k_is)
    (case k15 => k_is)
    (case a16 => k_is)
    (case l16 => k_is)
    (case c16 => k_is)
    (case k16 => k_is)
    (case a17 => k_is)
    (case l17 => k_is)
    (case c17 => k_is)
    (case k17 => k_is)
    (case a18 => k_is)
    (case l18 => k_is)
    (case c18 => k_is)
    (case k18 => k_is)
    (case a19 => k_is)
    (case l19 => k_is)
    (case c19 => k_is)
    (case k19 => k_is)
    (case a20 => k_is)
    (case l20 => k_is)
    (case c20 => k_is)
    (case k20 => k_is)
    (case a21 => k_is)
    (case l21 => k_is)
    (case c21 => k_is)
    (case k21 => k_is)
    (case a22 => k_is)
    (case l22 => k_is)
    (case c22 => k_is)
    (case k22 => k_is)
    (case a23 => k_is)
    (case l23 => k_is)
    (case c23 => k_is)
    (case k23 => k_is)
    (case a24 => k_is)
    (case l24 => k_is)
    (case c24 => k_is)
    (case k24 => k_is)
    (case z1 => k_is)
    (case z2 => k_is)
    (case z3 => k_is)
    (case z4 => k_is)
    (case z5 => k_is)
    (case z6 => k_is)
    (case z7 => k_is)
    (case z8 => k_is)
    (case z9 => k_is)
    (case z10 => k_is)
    (case z11 => k_is)
    (case z12 => k_is)
