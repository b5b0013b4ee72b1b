import PyProof.Rows.All
import Wide.All
import OpenK.AllK
import Wide.FinOn
import HandS.ForMost
import HandS.Style
import HandS.Wide
import HandS.Flow
import HandS.Conv
import HandS.RaiseMore
import HandS.Evl
import HandS.Walk
import PyProof.Rows.RegFStrParts
import PySem.Challenge.RW_fewestpours_k24_tables_and_digits
import HandS.SortInts
import HandS.IsInst
import PyProof.Rows.SortShellAny
import KE.KTupSum
import HandS.Deep
import HandS.TupMul
import HandS.More
import HandS.Strs
import HandS.Iter
import KE.GoesEnum
import HandS.TupAny
import HandS.TupLe
import HandS.Zip
import HandS.Rev
import HandS.RevRange
import HandS.DictComp
import HandS.DictEq
import HandS.SetFor
import KE.DataMinMax
import HandS.WideBits
import HandS.TupSets
set_option Elab.async false
set_option linter.all false
set_option maxRecDepth 100000
set_option maxHeartbeats 4000000
/-! promises that hold where nothing is being shown (no repr runs): what a def's text may then ask -/
namespace Gd
open PySem PySem.Spec PyProof.Rows L2
/-- no repr runs around -/
abbrev Still (A : Around) : Prop := A.guards = some []
structure FnG (P : Program) (w : World) (K : PySem.W.Frag) (mg : Str → Option Value) (base : Heap) (k : Nat) (f : Addr) (fd : FuncData) (ps : List Str) (sp : Sp) : Prop where
  len : ∀ {vs H Q E}, sp vs H Q E → vs.length = ps.length
  run : ∀ {A outer s H args us vs Q E}, Still A → Room k A → Env0 P w K mg base A outer s H → BindsTo s fd args (ps.zip us) → Vals vs us → sp vs H Q E →
    codeAny (model P w) A (.call (.ref f) args) (CR CX0 outer P w H s Q E) s
section
variable {P : Program} {w : World} {K : PySem.W.Frag} {mg : Str → Option Value} {base : Heap} {j k : Nat} {f : Addr} {fd : FuncData} {ps : List Str} {sp : Sp}
theorem FnG.of (F : FnOk P w K mg base CX0 k f fd ps sp) : FnG P w K mg base k f fd ps sp := ⟨fun h => F.len _ _ _ _ h, fun _ hr e b r h => F.run _ _ _ _ _ _ _ _ _ hr e b r h⟩
theorem FnG.mono (F : FnG P w K mg base j f fd ps sp) (h : j ≤ k) : FnG P w K mg base k f fd ps sp := ⟨F.len, fun g hr => F.run g (hr.mono h)⟩
/-- a def's promise by its body; the body may use that no repr runs -/
theorem okG {x qual : Str} {st : Stmt} {N : List Str} (F : Fun K x qual st f fd) (S : FnScope N ps (defScope st)) (len : ∀ {vs H Q E}, sp vs H Q E → vs.length = ps.length)
    (body : ∀ (cdv : Value) (A : Around) (outer : List Env) (s : Shared) (H : Hp) (vs : List V) (Q : VK) (E : XK), Still A → Room k (A.deeper (envOfC qual (defScope st) s.heap.objs.size f cdv)) → sp vs H Q E →
      ∃ t, PSs (cxOf CX0 P w K mg base N qual (defScope st) f cdv A outer s H E).nox (defBody st) t ∧ t { nx := fun _ H1 => Q .non H1, rt := Q } (start N vs) H) : FnG P w K mg base (k + 1) f fd ps sp := by
  obtain ⟨_, _, kV, doc, pm, an, cdv, ct, _, rfl, at_, code⟩ := F.ex
  constructor
  · exact len
  intro A outer s H args us vs Q E still room e0 binds rel want
  have inK := e0.mod.kin.keeps fun b o e => (e0.bs b o e).1
  have noL := e0.mod.nolimit.keeps fun b o e => (e0.bs b o e).1
  refine codeAny_call_function room.depth (inK _ _ at_) rfl S.co S.gen rfl (PySem.W.codeRec_of inK code) (binds _ _ _ _ (wpAny_newFunctionEnv_cells S.kind ?_ ?_))
  · rintro ⟨n, v⟩ hy
    exact (S.par n (List.of_mem_zip hy).1).imp id fun q => ⟨q, PySem.W.cellsFrom_some _ _ _ (.inl q)⟩
  rintro env rfl s1 made
  refine ⟨noL.keeps made.toInCall.keep, codeAny_func ?_⟩
  obtain ⟨t, ht, hq⟩ := body cdv A outer s H vs Q E still (room.deeper _) want
  have I0 := inv_start (CX := CX0) (E := E) (N := N) S room.hd e0 (len want) rel made
  refine wpAny_mono (ht.nox.run [] s1 (start N vs) H _ I0 hq) ?_ fun _ _ z => z
  rintro (_ | _ | _ | u) s2 z
  · obtain ⟨_, H2, J, q⟩ := z
    exact ⟨V.non, H2, J.os, J.bare, J.base, J.hok, rfl, q⟩
  · obtain ⟨_, _, _, z⟩ := z
    exact (show False from z).elim
  · obtain ⟨_, _, _, z⟩ := z
    exact (show False from z).elim
  · obtain ⟨v, _, H2, J, rv, q⟩ := z
    exact ⟨v, H2, J.os, J.bare, J.base, J.hok, rv, q⟩
end
section
variable {X : Cx} {k : Nat} {f : Addr} {fd : FuncData} {ps ks : List Str} {sp : Sp} {x : Str} {E : XK} {ds : List Value} {dvs : List V} {e : Expr} {es : List Expr} {t tk : TA} {p pos : Pos}
  {g : List Value → List Value → List Value} {gV : List V → List V → List V} {kws : List Keyword}
/-- what comes back from such a call -/
theorem back_of {pins : List (Addr × Obj)} {σ : L2.St} {H : Hp} {s : Shared} {Q : VK} {args : Args} (I : Inv X pins σ H s) (hx : Passes CX0 X E)
    (c : codeAny (model X.prog X.w) X.A (.call (.ref f) args) (CR CX0 X.stack X.prog X.w H s Q E) s) : wpAny (model X.prog X.w) X.A (PySem.call (.ref f) args.pos args.kw) (EP X pins σ Q) X.xe s := by
  refine wpAny_call (codeAny_mono c ?_)
  rintro (err | _ | _ | _ | u) s2 z
  · exact hx pins σ H s err s2 I z
  · exact (show False from z).elim
  · exact (show False from z).elim
  · exact (show False from z).elim
  · exact I.after z
theorem pe_callG (F : FnG X.prog X.w X.K X.mg X.base k f fd ps sp) (still : Still X.A) (hr : Room k X.A) (hg : Gl X x) (hm : X.mg x = some (.ref f)) (hk : PySem.W.keepIn X.K (.ref f) = true) (hb : Binds X.K fd ps ds) (hd : Vals dvs ds) (hx : Passes CX0 X E)
    (ha : PA X (e :: es) t) (hdb : (x == ("__debug__" : Str)) = false := by decide) (he : starEach (e :: es) X.env = (false, eval e X.env) :: starEach es X.env := by rfl) (hpl : (backTo pos (starEach es X.env)).any (·.1) = false := by rfl) :
    PE X (.Call (.Name x p) (e :: es) [] pos) (tCall sp dvs E t) := by
  constructor
  intro pins s σ H Q I h
  refine wpAny_Call_Name_kw (ld_glob I hg hm (PySem.W.callWith_K (h₀ := X.base) I.ok.mod.kin hk (thn (ha.run pos pins s σ H _ I h) ?_) he hpl) hdb)
  rintro us s1 ⟨vs, H1, I1, rel, want⟩
  have rel2 := rel.append hd
  have n2 : (us ++ ds).length = ps.length := rel2.length.symm.trans (F.len want)
  exact ⟨I1.kIn, back_of I1 hx (F.run still hr I1.env0 (hb s1 us I1.kIn n2) rel2 want)⟩
/-- f(k = v, ..): keywords alone, and behind others -/
theorem pe_kwG (F : FnG X.prog X.w X.K X.mg X.base k f fd ps sp) (still : Still X.A) (hr : Room k X.A) (hg : Gl X x) (hm : X.mg x = some (.ref f)) (hk : PySem.W.keepIn X.K (.ref f) = true) (hb : KBinds X.K fd ps ks g gV) (hx : Passes CX0 X E)
    (hkw : PK X kws tk) (hall : (backToKw pos (keywordEach kws X.env)).all (·.1.isSome) = true := by rfl) (hks : (backToKw pos (keywordEach kws X.env)).filterMap (·.1) = ks := by rfl) (hdb : (x == ("__debug__" : Str)) = false := by decide)
    (hpl : ((backTo pos (starEach [] X.env)).any (·.1) || (backToKw pos (keywordEach kws X.env)).any (·.1.isNone)) = false := by rfl) : PE X (.Call (.Name x p) [] kws pos) (tCallK sp gV E tNil tk) := by
  constructor
  intro pins s σ H Q I h
  refine wpAny_Call_Name_kw (ld_glob I hg hm (PySem.W.callWith_KW0 (h₀ := X.base) I.ok.mod.kin hk hall (thn (hkw.run pos pins s σ H _ I h) ?_) hpl) hdb)
  rintro ws s2 ⟨zs, H2, I2, rz, want⟩
  have rel2 := hb.rel (vs := []) (us := []) .nil rz
  rw [hks]
  exact ⟨I2.kIn, back_of I2 hx (F.run still hr I2.env0 (hb.to s2 [] ws I2.kIn (rel2.length.symm.trans (F.len want))) rel2 want)⟩
theorem pe_kwG1 (F : FnG X.prog X.w X.K X.mg X.base k f fd ps sp) (still : Still X.A) (hr : Room k X.A) (hg : Gl X x) (hm : X.mg x = some (.ref f)) (hk : PySem.W.keepIn X.K (.ref f) = true) (hb : KBinds X.K fd ps ks g gV) (hx : Passes CX0 X E)
    (ha : PA X (e :: es) t) (hkw : PK X kws tk) (hall : (backToKw pos (keywordEach kws X.env)).all (·.1.isSome) = true := by rfl) (hks : (backToKw pos (keywordEach kws X.env)).filterMap (·.1) = ks := by rfl) (hdb : (x == ("__debug__" : Str)) = false := by decide)
    (he : starEach (e :: es) X.env = (false, eval e X.env) :: starEach es X.env := by rfl) (hpl : ((backTo pos (starEach (e :: es) X.env)).any (·.1) || (backToKw pos (keywordEach kws X.env)).any (·.1.isNone)) = false := by rfl) :
    PE X (.Call (.Name x p) (e :: es) kws pos) (tCallK sp gV E t tk) := by
  constructor
  intro pins s σ H Q I h
  refine wpAny_Call_Name_kw (ld_glob I hg hm (PySem.W.callWith_KW (h₀ := X.base) I.ok.mod.kin hk hall (thn (ha.run pos pins s σ H _ I h) ?_) hpl he) hdb)
  rintro us s1 ⟨vs, H1, I1, rel, want⟩
  refine thn (hkw.run pos pins s1 σ H1 _ I1 want) ?_
  rintro ws s2 ⟨zs, H2, I2, rz, want⟩
  have rel2 := hb.rel rel rz
  rw [hks]
  exact ⟨I2.kIn, back_of I2 hx (F.run still hr I2.env0 (hb.to s2 us ws I2.kIn (rel2.length.symm.trans (F.len want))) rel2 want)⟩
/-- repr of data without dicts -/
def rReprD (K : PySem.W.Frag) : List V → Hp → VK → Prop := fun vs H Q => ∃ x d, vs = [x] ∧ Dp K H x d ∧ d.showable = true ∧ d.hasDict = false ∧ d.depth ≤ 20 ∧ d.shown.length ≤ sizeLine ∧ Q (.str d.shown) H
theorem call_reprD (still : Still X.A) (hu : X.A.units + 64 < cLine) : CallR X (.builtin "repr") (rReprD X.K) := by
  rintro pins s σ H vs us Q I rel ⟨x, d, rfl, hd, sh, nd, dp, len, want⟩
  cases rel with
  | cons rx rn =>
    cases rn
    rename_i u
    obtain ⟨as, reads⟩ := Dp.reads I d x u hd rx
    have fin : ∀ (h2 : Heap) (t tk : Nat), (∀ b o, s.heap.get? b = some o → h2.get? b = some o) → EP X pins σ Q (.str d.shown t) { s with heap := h2, toks := tk } := fun h2 t tk keep => ⟨.str _, H, I.kept keep, ⟨_, rfl⟩, want⟩
    cases hd with
    | non =>
      cases rx
      exact PySem.P.repr_of_none (fin s.heap _ _ fun _ _ e => e)
    | bl b =>
      cases rx
      exact PySem.P.repr_of_bool (fin s.heap _ _ fun _ _ e => e)
    | int i =>
      obtain ⟨t, rfl⟩ := rx
      exact PySem.P.repr_of_int (of_decide_eq_true sh) (fin s.heap _ _ fun _ _ e => e)
    | str z =>
      obtain ⟨t, rfl⟩ := rx
      exact PySem.P.repr_of_str (fin s.heap _ _ fun _ _ e => e) len
    | lst hs hall =>
      obtain rfl : u = Value.ref _ := rx
      exact repr_of_reads' reads sh (PyData.noDict_hsm nd) still (by omega) (fun _ _ e => e) (fun h2 t tk keep => fin h2 t tk keep) len
    | tup hs hall =>
      obtain rfl : u = Value.ref _ := rx
      exact repr_of_reads' reads sh (PyData.noDict_hsm nd) still (by omega) (fun _ _ e => e) (fun h2 t tk keep => fin h2 t tk keep) len
end
/-- the end: as the layer's own, from a promise that holds where no repr runs -/
theorem law_callG {P : Program} {w : World} {K : PySem.W.Frag} {mg mb : Str → Option Value} {k : Nat} {fa a : Addr} {fd : FuncData} {x : Str} {sp : Sp} {s : Shared} {vs : List Value} {ns : List Int}
    (inK : K.In s.heap) (names : s.heap.Ns mainGlobals mg) (blt : s.heap.Ns builtinsNs mb) (bltIs : ∀ x : Str, x ≠ "__name__" → mb x = bootBuiltins x) (noLim : s.heap.NoLimit) (noGen : s.gens = #[])
    (script : s.heap.get? a = some { cls := .type "list", data := .seq vs.toArray }) (areI : IntsAre vs ns) (len : ns.length ≤ sizeLine) (room : Room k callerA)
    (F : ∀ base : Heap, K.In base → base.Ns mainGlobals mg → FnG P w K mg base k fa fd [x] sp) (binds : ∀ (s : Shared) (u : Value), BindsTo s fd ⟨[u], []⟩ [(x, u)])
    (want : ∀ H : Hp, SqL K H a (ns.map V.int) → sp [.ref a] H (fun v _ => v = .bl true) fun _ _ _ => False) :
    codeAny (model P w) callerA (.call (.ref fa) ⟨[.ref a], []⟩) (fun r s2 => r = .ok (.ret (.bool true)) ∧ OldK s.heap s2.heap ∧ s2.os = s.os ∧ AllBare s2.gens) s := by
  -- over any abstract heap that tracks at most the script
  suffices main : ∀ H : Hp, (∀ b, H b = none ∨ b = a ∧ K.lookup a = none ∧ ∃ o xs, H b = some (.frz o (.lst xs))) → SqL K H a (ns.map V.int) → HOk P w H s.heap →
      codeAny (model P w) callerA (.call (.ref fa) ⟨[.ref a], []⟩) (fun r s2 => r = .ok (.ret (.bool true)) ∧ OldK s.heap s2.heap ∧ s2.os = s.os ∧ AllBare s2.gens) s by
    rcases own : K.lookup a with _ | o
    · refine main (fun b => if b = a then some (.frz { cls := .type "list", data := .seq vs.toArray } (.lst (ns.map V.int))) else none) (fun b => ?_) (.inl (.inr ⟨_, if_pos rfl⟩)) fun b u z => ?_
      · by_cases e : b = a
        · exact .inr ⟨e, own, _, _, if_pos e⟩
        · exact .inl (if_neg e)
      · by_cases e : b = a
        · subst e
          cases (if_pos rfl).symm.trans z
          exact ⟨script, (List.length_map (f := V.int)) ▸ len, vs, _, vals_ints areI, script⟩
        · cases (if_neg e).symm.trans z
    · have same := (inK a o own).symm.trans script
      cases same
      refine main (fun _ => none) (fun _ => .inl rfl) (.inr ⟨_, vs.toArray, _, own, rfl, rfl, rfl, ?_, by simpa using vals_ints areI⟩) fun b u z => by cases z
      rw [List.size_toArray, areI.length]
      exact len
  intro H few at_ hok
  have shown : ∀ {b : Addr} {o : Obj}, s.heap.get? b = some o → H b = none → (hidT s.heap H).get? b = some o := fun e n => hidT_get e n
  -- what is tracked is no namespace, and none of the module's own
  have dicts : ∀ {b : Addr} {o : Obj} {es : Array DictEntry} {ep : Nat}, s.heap.get? b = some o → o.data = .dict es ep → H b = none := by
    intro b o es ep e d
    rcases few b with z | ⟨rfl, _⟩
    · exact z
    · cases e.symm.trans script
      cases d
  have spaces : ∀ {b : Addr} {m : Str → Option Value}, s.heap.Ns b m → (hidT s.heap H).Ns b m := fun ⟨o, es, ep, e, d, r⟩ => ⟨o, es, ep, shown e (dicts e d), d, r⟩
  have inB : K.In (hidT s.heap H) := fun b o e => by
    refine shown (inK b o e) ?_
    rcases few b with z | ⟨rfl, no, _⟩
    · exact z
    · cases no.symm.trans e
  have modB : Mod K mg (hidT s.heap H) := ⟨inB, spaces names, ⟨mb, spaces blt, bltIs⟩, noLim.elim fun mc z => ⟨mc, spaces z.1, z.2⟩⟩
  have env : Env0 P w K mg (hidT s.heap H) callerA [] s H := ⟨rfl, modB, fun _ _ => of_hidT, Nat.le_of_eq (hidT_size _ _), trivial, fun b z => absurd z List.not_mem_nil, hok, .of_eq noGen⟩
  refine codeAny_mono ((F _ inB (spaces names)).run (us := [.ref a]) (vs := [.ref a]) rfl room env (binds s (.ref a)) (.cons rfl .nil) (want H at_)) ?_
  rintro (err | _ | _ | _ | u) s2 z
  · exact (show False from z).elim
  · exact (show False from z).elim
  · exact (show False from z).elim
  · exact (show False from z).elim
  obtain ⟨v, H2, os, bare, un, hok2, rel, rfl⟩ := z
  cases (show u = Value.bool true from rel)
  refine ⟨rfl, OldK.of_keep fun b o e => ?_, os, bare⟩
  rcases few b with z | ⟨_, _, ob, xs, z⟩
  · exact un.keep b o e z (fun y => absurd (show b ∈ ([] : List Addr) from y) List.not_mem_nil) List.not_mem_nil
  · have e1 := (hok b _ z).1.symm.trans e
    cases e1
    exact (hok2 b _ (un.frzs b _ _ z)).1
theorem walk_ofG {l : PySem.W.OpenLaw} {n k : Nat} {q : Program} {loose : List Str} {XP : (Str → Option Value) → Heap → Prop} {YP : World → Heap → Prop} {d : DefRec} {K : Params → PySem.W.Frag} {sp : PySem.W.Frag → Sp} {x : Str}
    (hn : l.most = some n) (hn2 : n ≤ sizeLine) (hdf : d.params.defaults = []) (room : Room k callerA) (hY : ∀ (w : World) (h : Heap), YP w h → (K w.params).In h)
    (F : ∀ (w : World) (mg : Str → Option Value) (fa : Addr) (h : Heap), (K w.params).In h → h.Ns mainGlobals mg → mg d.name = some (.ref fa) →
      ∃ fd : FuncData, (∀ (s : Shared) (u : Value), BindsTo s fd ⟨[u], []⟩ [(x, u)]) ∧ ∀ base : Heap, (K w.params).In base → base.Ns mainGlobals mg → FnG l.prog w (K w.params) mg base k fa fd [x] (sp (K w.params)))
    (want : ∀ (K : PySem.W.Frag) (H : Hp) (a : Addr) (ns : List Int), ns.length ≤ n → SqL K H a (ns.map V.int) → sp K [.ref a] H (fun v _ => v = .bl true) fun _ _ _ => False) :
    PySem.W.WalkO q loose XP YP l.row.toRowW d [] (fun f vs => PySem.call f vs) := by
  refine Att.attach_call hn hdf ?_
  intro w s₀ s mg mb fa o pm cd doc a vs ns G Y ho hd hcd hmg hobj hints hlen hg
  obtain ⟨fd, hb, hF⟩ := F w mg fa _ (hY w _ Y) G.T.g hmg
  exact law_callG (hY w _ Y) G.T.g G.T.b G.T.builtins G.T.nolimit hg hobj hints (Nat.le_trans hlen hn2) room hF hb fun H at_ => want _ H a ns hlen at_
end Gd
/-! the layer's rules with the written part said: so they stand within comprehensions, too -/
namespace Gd
open PySem PySem.Spec PyProof.Rows L2
section
variable {X : Cx} {K : PySem.W.Frag} {tg l e : Expr} {tl te : TE} {pos : Pos}
theorem ixLK (h : X.K = K) : IxR X (rIxL K) := h ▸ ix_list
theorem ixTK (h : X.K = K) : IxR X (rIxT K) := h ▸ ix_tup
theorem slLK (h : X.K = K) : SlR X (rSlL K) := h ▸ sl_list
def rLenK (K : PySem.W.Frag) : List V → Hp → VK → Prop := fun vs H Q => ∃ p ys, vs = [.ref p] ∧ (SqL K H p ys ∨ SqT K H p ys) ∧ Q (.int ys.length) H
theorem lenK (h : X.K = K) : CallR X (.builtin "len") (rLenK K) := by
  subst h
  exact call_len_seq
def rTupK (K : PySem.W.Frag) : List V → Hp → VK → Prop := fun vs H Q => ∃ p ys, vs = [.ref p] ∧ ((SqL K H p ys ∧ ∀ l, H l = none → Q (.ref l) (upd H l (.tup ys))) ∨ (SqT K H p ys ∧ Q (.ref p) H))
theorem tupK (h : X.K = K) : CallR X (.type "tuple") (rTupK K) := by
  subst h
  exact call_tuple_of
def rLstK (K : PySem.W.Frag) : List V → Hp → VK → Prop := fun vs H Q => ∃ p ys, vs = [.ref p] ∧ (SqL K H p ys ∨ SqT K H p ys) ∧ ∀ l, H l = none → Q (.ref l) (upd H l (.lst ys))
theorem lstK (h : X.K = K) : CallR X (.type "list") (rLstK K) := by
  subst h
  exact call_list_of
theorem sumK (h : X.K = K) (hc : X.calm = true) : CallR X (.builtin "sum") (rSum K) := h ▸ cr_sum hc
theorem minK (h : X.K = K) (hc : X.calm = true) : CallR X (.builtin "min") (rMin K) := h ▸ cr_min hc
theorem maxK (h : X.K = K) (hc : X.calm = true) : CallR X (.builtin "max") (rMax K) := h ▸ cr_max hc
theorem sortK (h : X.K = K) : CallR X (.builtin "sorted") (rSorted K) := h ▸ cr_sorted
theorem reprK (h : X.K = K) (still : Still X.A) (hu : X.A.units + 64 < cLine) : CallR X (.builtin "repr") (rReprD K) := h ▸ call_reprD still hu
theorem eqK (h : X.K = K) (hu : X.A.units + 64 < cLine) : OpR X (compareOp .Eq) (rEqD K) := h ▸ op_eqD hu
theorem neK (h : X.K = K) (hu : X.A.units + 64 < cLine) : OpR X (compareOp .NotEq) (rNeD K) := h ▸ op_neD hu
theorem inK (h : X.K = K) : OpR X (compareOp .In) (rIn K false) := h ▸ op_in_seq
theorem ninK (h : X.K = K) : OpR X (compareOp .NotIn) (rIn K true) := h ▸ op_notIn_seq
theorem pi_listK (h : X.K = K) (hl : PE X l tl) : PI X tg l (iList K tl) := h ▸ pi_list hl
theorem pi_tupK (h : X.K = K) (hl : PE X l tl) : PI X tg l (iTup K tl) := h ▸ pi_tup hl
theorem revLK {k : Nat} {p1 p2 p3 : Pos} (h : X.K = K) (he : PE X e te) : PE X (.Subscript e (.Slice none none (some (.UnaryOp .USub (.Constant (.int 1) k p1) p2)) p3) pos) (tRevL K te) := h ▸ pe_revL he
end
/-- what is free in a block is known around it -/
def FreeIn (sc : Scope) : List (Str × NameKind) → Prop
  | [] => True
  | (x, .free) :: r => (sc.names.lookup x = some .cell ∨ sc.names.lookup x = some .free) ∧ FreeIn sc r
  | (_, .local) :: r => FreeIn sc r
  | (_, .cell) :: r => FreeIn sc r
  | (_, .globalImplicit) :: r => FreeIn sc r
  | (_, .globalExplicit) :: r => FreeIn sc r
theorem FreeIn.at {sc : Scope} {ns : List (Str × NameKind)} : ∀ {y : Str × NameKind}, FreeIn sc ns → y ∈ ns → y.2 = .free → sc.names.lookup y.1 = some .cell ∨ sc.names.lookup y.1 = some .free := by
  induction ns with
  | nil => exact fun _ hy _ => absurd hy List.not_mem_nil
  | cons z r ih =>
    intro y h hy hk
    obtain ⟨x, k⟩ := z
    rcases List.mem_cons.mp hy with e | hm
    · subst e
      obtain rfl : k = .free := hk
      exact h.1
    · clear hy
      cases k with
      | free => exact ih h.2 hm hk
      | «local» => exact ih h hm hk
      | cell => exact ih h hm hk
      | globalExplicit => exact ih h hm hk
      | globalImplicit => exact ih h hm hk
theorem blk_in {N : List Str} {sc scope : Scope} {own : List (Str × Nat)} (h : blkC N scope scope own = true) (f : FreeIn sc scope.names) : BlkOk N sc scope own :=
  let b := blkOk_by h
  ⟨b.kind, b.uniq, b.ix, fun _ hy e => f.at hy e, b.own⟩
/-- a def that may be called: where it stands, and its promise -/
structure Cal (P : Program) (w : World) (K : PySem.W.Frag) (mg : Str → Option Value) (base : Heap) (k : Nat) (x : Str) (ps : List Str) (sp : Sp) where
  f : Addr
  fd : FuncData
  ok : FnG P w K mg base k f fd ps sp
  b : Binds K fd ps []
  kp : PySem.W.keepIn K (.ref f) = true
  g : mg x = some (.ref f)
section
variable {X : Cx} {k j : Nat} {ps ks : List Str} {sp : Sp} {x : Str} {e : Expr} {es : List Expr} {t tk : TA} {p pos : Pos} {g : List Value → List Value → List Value} {gV : List V → List V → List V} {kws : List Keyword}
theorem pe_cal (C : Cal X.prog X.w X.K X.mg X.base k x ps sp) (still : Still X.A) (hr : Room k X.A) (ha : PA X (e :: es) t) (hg : Gl X x := by rfl) (hdb : (x == ("__debug__" : Str)) = false := by decide)
    (he : starEach (e :: es) X.env = (false, eval e X.env) :: starEach es X.env := by rfl) (hpl : (backTo pos (starEach es X.env)).any (·.1) = false := by rfl) : PE X (.Call (.Name x p) (e :: es) [] pos) (tCall sp [] E0 t) :=
  pe_callG C.ok still hr hg C.g C.kp C.b .nil pass0 ha hdb he hpl
theorem pe_calK (C : Cal X.prog X.w X.K X.mg X.base k x ps sp) (hb : KBinds X.K C.fd ps ks g gV) (still : Still X.A) (hr : Room k X.A) (hkw : PK X kws tk) (hg : Gl X x := by rfl) (hall : (backToKw pos (keywordEach kws X.env)).all (·.1.isSome) = true := by rfl)
    (hks : (backToKw pos (keywordEach kws X.env)).filterMap (·.1) = ks := by rfl) (hdb : (x == ("__debug__" : Str)) = false := by decide) (hpl : ((backTo pos (starEach [] X.env)).any (·.1) || (backToKw pos (keywordEach kws X.env)).any (·.1.isNone)) = false := by rfl) :
    PE X (.Call (.Name x p) [] kws pos) (tCallK sp gV E0 tNil tk) := pe_kwG C.ok still hr hg C.g C.kp hb pass0 hkw hall hks hdb hpl
end
end Gd
/-! small data: what repr shows of it -/
namespace Gd
open PySem PySem.Spec PyProof.Rows L2
mutual
/-- data of at most so much depth and weight, its ints of twelve digits -/
inductive Sm : Nat → Nat → PyData → Prop
  | non {d : Nat} : Sm d 0 .none
  | bl {d : Nat} (b : Bool) : Sm d 0 (.bool b)
  | int {d : Nat} {i : Int} (h : -999999999999 ≤ i) (h' : i ≤ 999999999999) : Sm d 40 (.int i)
  | str {d : Nat} {x : Str} (h : x.cps.all (· < 0x110000) = true) : Sm d x.cps.size (.str x)
  | lst {d n : Nat} {xs : List PyData} (h : SmAll d n xs) : Sm (d + 1) n (.list xs)
  | tup {d n : Nat} {xs : List PyData} (h : SmAll d n xs) : Sm (d + 1) n (.tuple xs)
inductive SmAll : Nat → Nat → List PyData → Prop
  | nil {d : Nat} : SmAll d 0 []
  | cons {d n m : Nat} {x : PyData} {xs : List PyData} (h : Sm d n x) (r : SmAll d m xs) : SmAll d (n + 1 + m) (x :: xs)
end
structure SmOk (d n : Nat) (x : PyData) : Prop where
  lay : x.canLay0 = true
  dep : x.depth ≤ d
  wgt : x.weight ≤ n
  few : x.intsShort 13 = true
  shw : x.showable = true
structure SmOkAll (d n : Nat) (x : List PyData) : Prop where
  lay : PyData.canLayAll0 x = true
  dep : PyData.depthAll x ≤ d
  wgt : PyData.weightAll x ≤ n
  few : PyData.intsShortAll 13 x = true
  shw : PyData.showableAll x = true
mutual
theorem Sm.ok {d n : Nat} {x : PyData} : Sm d n x → SmOk d n x
  | .non => ⟨rfl, Nat.zero_le _, Nat.zero_le _, rfl, rfl⟩
  | .bl b => ⟨rfl, Nat.zero_le _, Nat.zero_le _, rfl, rfl⟩
  | .int (i := i) h h' => by
    have l40 : i.natAbs < 2 ^ 40 := by
      have : i.natAbs ≤ 999999999999 := by omega
      exact Nat.lt_of_le_of_lt this (by decide)
    have lg : i ≠ 0 → i.natAbs.log2 < 40 := fun h0 => (Nat.log2_lt (by omega)).mpr l40
    refine ⟨rfl, Nat.zero_le _, ?_, decide_eq_true (PyData.shown_int_le2 h h'), ?_⟩
    · show (if i == 0 then 0 else i.natAbs.log2 + 1) ≤ 40
      by_cases h0 : i = 0
      · subst h0
        decide
      · rw [if_neg (by simpa using h0)]
        exact lg h0
    · show decide (i.natAbs.log2 < 1920) = true
      by_cases h0 : i = 0
      · subst h0
        decide
      · exact decide_eq_true (Nat.lt_trans (lg h0) (by decide))
  | .str h => ⟨h, Nat.zero_le _, Nat.le_refl _, rfl, rfl⟩
  | .lst h => by
    have o := h.ok
    refine ⟨by simpa only [PyData.canLay0] using o.lay, ?_, by simpa only [PyData.weight] using o.wgt, by simpa only [PyData.intsShort] using o.few, by simpa only [PyData.showable] using o.shw⟩
    simp only [PyData.depth]
    have := o.dep
    omega
  | .tup h => by
    have o := h.ok
    refine ⟨by simpa only [PyData.canLay0] using o.lay, ?_, by simpa only [PyData.weight] using o.wgt, by simpa only [PyData.intsShort] using o.few, by simpa only [PyData.showable] using o.shw⟩
    simp only [PyData.depth]
    have := o.dep
    omega
theorem SmAll.ok {d n : Nat} {x : List PyData} : SmAll d n x → SmOkAll d n x
  | .nil => ⟨rfl, Nat.zero_le _, Nat.zero_le _, rfl, rfl⟩
  | .cons h r => by
    have a := h.ok
    have b := r.ok
    have a2 := a.dep
    have b2 := b.dep
    have a3 := a.wgt
    have b3 := b.wgt
    refine ⟨by simp only [PyData.canLayAll0, a.lay, b.lay, Bool.and_self], ?_, ?_, by simp only [PyData.intsShortAll, a.few, b.few, Bool.and_self], by simp only [PyData.showableAll, a.shw, b.shw, Bool.and_self]⟩
    · simp only [PyData.depthAll]
      omega
    · simp only [PyData.weightAll]
      omega
end
def rReprS (K : PySem.W.Frag) : List V → Hp → VK → Prop := fun vs H Q => ∃ (x : V) (d : PyData) (dp n : Nat), vs = [x] ∧ Dp K H x d ∧ Sm dp n d ∧ dp ≤ 20 ∧ n ≤ 2 ^ 20 ∧ Q (.str d.shown) H
theorem reprS {X : Cx} {K : PySem.W.Frag} (h : X.K = K) (still : Still X.A) (hu : X.A.units + 64 < cLine) : CallR X (.builtin "repr") (rReprS K) := by
  subst h
  rintro pins s σ H vs us Q I rel ⟨x, d, dp, n, rfl, hd, sm, h1, h2, q⟩
  have o := sm.ok
  have o2 := o.dep
  have lay : PyData.layable0 d = true := by
    unfold PyData.layable0
    rw [o.lay, decide_eq_true (show d.depth ≤ 64 by omega), decide_eq_true (Nat.le_trans o.wgt h2)]
    rfl
  refine call_reprD still hu pins s σ H [x] us Q I rel ⟨x, d, rfl, hd, o.shw, PyData.hasDict_of_layable lay, by omega, Nat.le_trans (shown_le13 lay o.few) (by decide), q⟩
/-- lists of ints -/
theorem smAll_ints {d : Nat} : ∀ ns : List Int, (∀ i ∈ ns, -999999999999 ≤ i ∧ i ≤ 999999999999) → SmAll d (41 * ns.length) (ns.map PyData.int)
  | [], _ => .nil
  | i :: ns, h => by
    have a := smAll_ints (d := d) ns fun j hj => h j (List.mem_cons_of_mem _ hj)
    obtain ⟨b1, b2⟩ := h i (by simp)
    have := SmAll.cons (d := d) (.int b1 b2) a
    rw [List.length_cons, show 41 * (ns.length + 1) = 40 + 1 + 41 * ns.length by omega]
    exact this
theorem dpAll_ints {K : PySem.W.Frag} {H : Hp} : ∀ ns : List Int, DpAll K H (ns.map V.int) (ns.map PyData.int)
  | [] => .nil
  | i :: ns => .cons (.int i) (dpAll_ints ns)
end Gd
/-! sorted of a tuple of ints -/
namespace Gd
open PySem PySem.Spec PyProof.Rows PySem.Builtin
section
variable {prog : Program} {w : World} {A : Around} {E : Value → Shared → Prop} {s : Shared}
theorem collect_tup {l : Addr} {vs : List Value} {Q : List Value → Shared → Prop} (hl : IsTup s.heap l vs.toArray)
    (h : Q vs { s with heap := (s.heap.push (seqObj "list" #[] 0)).update s.heap.objs.size (Obj.mapSeq (· ++ vs.toArray)) }) (hsz : vs.length ≤ sizeLine) :
    wpAny (model prog w) A (collect (.ref l)) Q E s := by
  obtain ⟨o, ho, hc, n, hd⟩ := id hl
  unfold collect
  refine wpAny_bind (wpAny_runValue (codeAny_builtin entry_proto_collect' ?_))
  show wpAny _ _ (do again (.builtin "list.__iadd__" ⟨[← newList [], .ref l], []⟩)) _ _ s
  refine wpAny_bind (wpAny_newList (wpAny_pure ⟨Code.quiet_builtin _ (by decide +kernel), codeAny_builtin entry_list_iadd' ?_⟩))
  show wpAny _ _ (Builtin.List.listExtendWith (.ref s.heap.objs.size) (.ref l) (.ref s.heap.objs.size)) _ _ { s with heap := s.heap.push (seqObj "list" #[] 0) }
  unfold Builtin.List.listExtendWith
  have ho' : (s.heap.push (seqObj "list" #[] 0)).get? l = some o := Heap.get?_push_of_some _ ho
  refine wpAny_bind (wpAny_typeOf (T := "tuple") ⟨o, ho', hc⟩ ?_)
  rw [if_pos (by rw [show (Value.type "tuple" == Value.type "tuple") = true from rfl]; simp)]
  refine wpAny_bind (listItems_at ho' hd ?_)
  refine wpAny_bind (listItems_at (xs := #[]) (n := 0) (Heap.get?_push_size _ rfl) rfl ?_)
  rw [if_neg (by simp)]
  refine wpAny_bind (listUpdate_at (xs := #[]) (n := 0) (Heap.get?_push_size _ rfl) rfl ?_ (Nat.zero_le _) (by show (#[] ++ vs.toArray).size ≤ sizeLine + 1; simp only [Array.size_append, List.size_toArray, List.length_nil]; omega))
  refine wpAny_pure ?_
  show wpAny (model prog w) A (do
      let o ← load s.heap.objs.size
      match o.data with
      | .seq xs _ => pure xs.toList
      | _ => unsupported "internal:collect") Q E { s with heap := (s.heap.push (seqObj "list" #[] 0)).update s.heap.objs.size (Obj.mapSeq (· ++ vs.toArray)) }
  refine wpAny_bind (wpAny_load (get?_update_seq (Heap.get?_push_size _ rfl) _) ?_)
  show wpAny _ _ (pure ((#[] : Array Value) ++ vs.toArray).toList) Q E _
  rw [show ((#[] : Array Value) ++ vs.toArray).toList = vs by simp]
  exact wpAny_pure h
theorem sorted_tup {l : Addr} {vs : List Value} {ns : List Int} {Q : Value → Shared → Prop} (hl : IsTup s.heap l vs.toArray) (hI : IntsAre vs ns) (hL : vs.length ≤ sizeLine)
    (h : ∀ (out : Array Value) (ns' : List Int), IntsAre out.toList ns' → ns'.Perm ns → ns'.Pairwise (· ≤ ·) → Q (.ref (s.heap.objs.size + 1)) { s with heap := sortedAll s.heap vs out }) :
    wpAny (model prog w) A (call (.builtin "sorted") [.ref l]) Q E s := by
  refine Calls.call_function_entry kind_sorted plain_sorted entry_sorted (args_sorted1 _) ?_
  unfold Builtin.«sorted»
  refine wpAny_bind (m := checkCount "sorted" 1 1 _) (wpAny_pure ?_)
  refine wpAny_bind (collect_tup hl ?_ hL)
  refine wpAny_bind (wpAny_newList ?_ hL)
  have hsz : ((s.heap.push (seqObj "list" #[] 0)).update s.heap.objs.size (Obj.mapSeq (· ++ vs.toArray))).objs.size = s.heap.objs.size + 1 := by
    rw [Heap.size_update, size_push']
  have hoL : (((s.heap.push (seqObj "list" #[] 0)).update s.heap.objs.size (Obj.mapSeq (· ++ vs.toArray))).push (seqObj "list" vs.toArray 0)).get? (s.heap.objs.size + 1) = some (seqObj "list" vs.toArray 0) := by
    rw [← hsz]; exact Heap.get?_push_size _ rfl
  show wpAny _ _ _ _ _ { s with heap := ((s.heap.push (seqObj "list" #[] 0)).update s.heap.objs.size (Obj.mapSeq (· ++ vs.toArray))).push (seqObj "list" vs.toArray 0) }
  rw [hsz]
  refine wpAny_bind (wpAny_holding (wpAny_call_entry slot_list_sort ⟨_, hoL, rfl⟩ entry_list_sort (list_sort_treeAny hoL hI hL fun out ns' a1 a2 a3 => ⟨_, rfl, ?_⟩) (args_list_sort _)))
  exact wpAny_pure ⟨_, rfl, h out ns' a1 a2 a3⟩
end
open L2
/-- sorted(xs), a list or tuple of ints -/
def rSrt (K : PySem.W.Frag) : List V → Hp → VK → Prop := fun vs H Q => ∃ (a : Addr) (ns : List Int), vs = [V.ref a] ∧ (SqL K H a (ns.map V.int) ∨ SqT K H a (ns.map V.int)) ∧
  ∀ (ns' : List Int) (p : Addr), ns'.Perm ns → ns'.Pairwise (· ≤ ·) → H p = none → Q (.ref p) (upd H p (.lst (ns'.map V.int)))
theorem srtK {X : Cx} {K : PySem.W.Frag} (hK : X.K = K) : CallR X (.builtin "sorted") (rSrt K) := by
  subst hK
  intro pins s σ H vs us Q I r h
  obtain ⟨a, ns, rfl, hs | hs, q⟩ := h
  · exact cr_sortedI pins s σ H _ us Q I r ⟨a, ns, rfl, hs, q⟩
  · obtain ⟨its, rv, hl, hz⟩ := I.tuple hs
    rw [Vals.ref1 r]
    have hi := rv.ints
    refine sorted_tup hl hi (by rw [← rv.length]; exact hz) fun out ns' k1 k2 k3 => ?_
    obtain ⟨ep, he'⟩ := PyProof.Rows.sortedAll_at s.heap its out
    have hlen : (ns'.map V.int).length ≤ sizeLine := by
      rw [List.length_map, k2.length_eq]
      rw [List.length_map] at hz
      exact hz
    exact ⟨.ref _, upd H (s.heap.objs.size + 1) (.lst (ns'.map V.int)), I.laid (t' := s.toks) (fun _ _ => PyProof.Rows.sortedAll_old) (Nat.le_succ _) ⟨hlen, out.toList, ep, vals_of_ints k1, he'⟩, rfl, q _ _ k2 k3 (I.hok.fresh (Nat.le_succ _))⟩
theorem isiK {X : Cx} {K : PySem.W.Frag} (hK : X.K = K) : CallR X (.builtin "isinstance") (rIsi K) := hK ▸ call_isi
/-- sum of a list or a tuple of ints -/
def rSum2 (K : PySem.W.Frag) : List V → Hp → VK → Prop := fun vs H Q => ∃ (a : Addr) (ns : List Int), vs = [V.ref a] ∧ (SqL K H a (ns.map V.int) ∨ SqT K H a (ns.map V.int)) ∧ Q (.int ns.sum) H
theorem sum2K {X : Cx} {K : PySem.W.Frag} (hK : X.K = K) (hc : X.calm = true) : CallR X (.builtin "sum") (rSum2 K) := by
  subst hK
  intro pins s σ H vs us Q I r h
  obtain ⟨a, ns, rfl, hs | hs, q⟩ := h
  · exact cr_sum hc pins s σ H _ us Q I r ⟨a, ns, rfl, hs, q⟩
  · obtain ⟨its, rv, hl, _⟩ := I.tuple hs
    rw [Vals.ref1 r]
    have hi := rv.ints
    obtain ⟨xs, e⟩ := hi.allInts.items
    have hn : numsOf (intItems xs).toList = ns := by rw [← e]; exact hi.numsOf
    rw [nums_intItems] at hn
    have hl : s.heap.IsTuple a its.toArray := hl
    rw [e] at hl
    refine PySem.W.ktm_sumG (I.ok.hd hc) hl fun h' tk t' hk => ?_
    rw [preSum_eq, List.take_of_length_le (by simp), hn]
    exact ⟨.int _, H, I.kept hk, ⟨_, rfl⟩, q⟩
theorem inDK {X : Cx} {K : PySem.W.Frag} (hK : X.K = K) (hu : X.A.units + 65 < cLine) : OpR X (compareOp .In) (rInD K) := hK ▸ op_inD hu
theorem ninDK {X : Cx} {K : PySem.W.Frag} (hK : X.K = K) (hu : X.A.units + 65 < cLine) : OpR X (compareOp .NotIn) (rNotInD K) := hK ▸ op_notInD hu
theorem units65 {k : Nat} {A : Around} (r : Room k A) : A.units + 65 < cLine := by have := r.un; omega
theorem repTK {X : Cx} {K : PySem.W.Frag} (hK : X.K = K) : OpR X (binaryOp .Mult) (rRepT K) := hK ▸ op_repT
end Gd
/-! the place of an int in a tuple; a tuple taken once -/
namespace Gd
open PySem PySem.Spec PyProof.Rows L2
theorem flat_ints (ys : List Int) : (ys.map V.int).all flatV = true := by
  rw [List.all_map]
  exact List.all_eq_true.mpr fun _ _ => rfl
def rIndexI (K : PySem.W.Frag) : V → List V → Hp → VK → Prop := fun x xs H Q => ∃ p, ∃ ys : List Int, ∃ z j, x = .ref p ∧ xs = [.int z] ∧ SqT K H p (ys.map V.int) ∧ ys[j]? = some z ∧ (∀ m, m < j → ys[m]? ≠ some z) ∧ Q (.int (j : Nat)) H
section
variable {X : Cx}
theorem mt_indexIK {K : PySem.W.Frag} (hK : X.K = K) : MtR X "tuple.index" (rIndexI K) := by
  subst hK
  intro pins s σ H x xs v us Q I rx rs h
  obtain ⟨p, ys, z, j, rfl, rfl, hq, hy, hno, q⟩ := h
  cases rx
  obtain ⟨u, rfl, t, rfl⟩ := vals1 rs
  obtain ⟨its, r, pl, hz⟩ := I.tuple hq
  obtain ⟨⟨cls, dd, dt, sl⟩, ho, hc, n, hd⟩ := pl
  simp only at hc hd
  subst hc
  subst hd
  have hl : its.toArray.size = ys.length := by rw [List.size_toArray, ← r.length, List.length_map]
  have hj : j < its.toArray.size := by rw [hl]; exact (List.getElem?_eq_some_iff.mp hy).1
  have at' : ∀ (m : Nat) (hm : m < its.toArray.size), ∃ y t', ys[m]? = some y ∧ its.toArray[m] = Value.int y t' := fun m hm => by
    have hm' : m < ys.length := by rw [← hl]; exact hm
    obtain ⟨w, hw, t', hw'⟩ := r.get (i := m) (x := .int ys[m]) (by simp [hm'])
    refine ⟨ys[m], t', List.getElem?_eq_getElem hm', ?_⟩
    have e := (List.getElem?_eq_some_iff.mp hw).2
    rw [← hw', ← e]
    simp
  refine call_meets PySem.F.slot_tuple_index ⟨_, ho, rfl⟩ PySem.F.entry_tuple_index (PySem.F.args_tuple_index_2 _ _) (TI.tuple_indexAt p its.toArray n dd sl (.int z t) (eqU (.int z)) j hj ?_ ?_)
    ⟨ho, fun w hw => mem_eqAt (x := .int z) ⟨t, rfl⟩ rfl r (flat_ints ys) w (by simpa using hw), ⟨.int (j : Nat), H, I.tok _, ⟨_, rfl⟩, q⟩⟩
  · obtain ⟨y, t', h1, h2⟩ := at' j hj
    rw [hy] at h1
    cases h1
    rw [h2]
    show (z == z) = true
    exact beq_self_eq_true z
  · intro m hm hmj
    obtain ⟨y, t', h1, h2⟩ := at' m hm
    rw [h2]
    show (y == z) = false
    exact beq_eq_false_iff_ne.mpr fun e => hno m hmj (e ▸ h1)
end
theorem tuple_mul1 (l : Addr) (items : Array Value) (n : Nat) (dd : Option Addr) (sl : Array (Option Value)) (u : Tok) :
    Meets (Builtin.«tuple.__mul__» ⟨[.ref l, .int 1 u], []⟩) (fun _ R s => s.heap.get? l = some { cls := .type "tuple", dict := dd, data := .seq items n, slots := sl } ∧ R (.ok (.ret (Value.ref l))) s) :=
  .of_wp fun prog w A R s h => by
    obtain ⟨hp, g, d, tk, os⟩ := s
    obtain ⟨hl, h⟩ := h
    have f1 := AutoSeq1.idx_int
    have c1 : (items.isEmpty || (1 : Int) == 1) = true := by simp
    wp_walk using wpAny_loadPart' hl
    exact ⟨_, rfl, h⟩
/-- a tuple taken k times, k from 1 on -/
def rRep2 (K : PySem.W.Frag) : R2 := fun x y H Q => ∃ l k xs, x = .ref l ∧ y = .int k ∧ SqT K H l xs ∧ xs ≠ [] ∧ 1 ≤ k ∧ k ≤ 1000 ∧ xs.length ≤ 1000 ∧ (k = 1 → Q (.ref l) H) ∧ (2 ≤ k → ∀ p, H p = none → Q (.ref p) (upd H p (.tup (List.replicate k.toNat xs).flatten)))
theorem rep2K {X : Cx} {K : PySem.W.Frag} (hK : X.K = K) : OpR X (binaryOp .Mult) (rRep2 K) := by
  subst hK
  intro pins s σ H x y v u Q I rx ry h
  obtain ⟨l, k, xs, rfl, rfl, hT, hne, h1, h2, hz, q1, q2⟩ := h
  by_cases hk : 2 ≤ k
  · exact op_repT pins s σ H _ _ v u Q I rx ry ⟨l, k, xs, rfl, rfl, hT, hne, hk, h2, hz, q2 hk⟩
  obtain rfl : k = 1 := by omega
  cases rx
  obtain ⟨t, rfl⟩ := ry
  obtain ⟨its, r, ⟨⟨cls, dd, data, sl⟩, ho, hc, n, hd⟩, hs⟩ := I.tuple hT
  simp only at hc hd
  subst hc hd
  exact wpAny_binaryOp_repeat_ref (T := "tuple") (U := "int") (by decide) ⟨_, ho, rfl⟩ (fun s' => typeIs_int s' 1 t) noFill_tuple_mul F.fills_int_mul F.slot_int_rmul repeat_tuple F.slot_int_index.lookup
    (call_meets F.slot_int_rmul (typeIs_int s 1 t) F.entry_int_rmul (F.args_int_rmul_2 _ _) (int_rmul_tuple 1 t l its.toArray n dd sl)
      ⟨ho, rfl, ⟨_, ho, rfl⟩, call_meets F.slot_tuple_mul ⟨_, ho, rfl⟩ F.entry_tuple_mul (F.args_tuple_mul_2 _ _) (tuple_mul1 l its.toArray n dd sl t) ⟨ho, .ref l, H, I, rfl, q1 rfl⟩⟩)
end Gd
namespace Gd
open PySem PySem.Spec PyProof.Rows L2
/-- o[i] of a list, by values -/
theorem getLK {X : Cx} {K : PySem.W.Frag} (hK : X.K = K) : PGet X (rIxL K) := by
  subst hK
  intro pins s σ H x y v u Q I rx ry h
  obtain ⟨p, xs, i, z, rfl, rfl, hq, he, q⟩ := h
  cases rx
  obtain ⟨t, rfl⟩ := ry
  obtain ⟨its, r, pl, hz⟩ := I.list hq
  obtain ⟨j, h1, h2, h3, h4, h5⟩ := atI_get he
  obtain ⟨w, ew, rw'⟩ := r.get h2
  have hl := r.length
  have hn := line63
  have fin : EP X pins σ Q w s := ⟨z, H, I, rw', q⟩
  by_cases h0 : 0 ≤ i
  · have hj : i.toNat = j := by
      rw [seqIndex_of h0 h5] at h1
      exact Option.some.inj h1
    exact wpAny_getItem_list pl.isList h0 (by omega) (by rw [hj]; simpa using ew) fin
  · have hj : (i + (its.toArray.size : Int)).toNat = j := by
      rw [seqIndex_neg (by omega) h4] at h1
      rw [List.size_toArray, ← hl]
      exact Option.some.inj h1
    exact wpAny_getItem_list_neg pl.isList (by omega) (by rw [List.size_toArray] <;> omega) (by omega) (by rw [hj]; simpa using ew) fin
end Gd
namespace Gd
open PySem PySem.Spec PyProof.Rows L2
theorem pe_bmK {X : Cx} {K : PySem.W.Frag} {T id : String} {name : Str} {r : V → List V → Hp → VK → Prop} {o e : Expr} {es : List Expr} {to : TE} {t : TA} {apos cpos : Pos} (hK : X.K = K) (pa : PlainAttrs T) (slot : Slot T name id) (hty : typeOf (.builtin id) = pure (.type "method_descriptor")) (hm : MtR X id r) (ho : PE X o to) (ha : PA X (e :: es) t)
    (hbase : attributeBase o name X.env (eval o X.env) = eval o X.env := by rfl)
    (hfew : ((backTo cpos (starEach (e :: es) X.env)).all (fun x => !x.1) && (backToKw cpos (keywordEach [] X.env)).all (fun x => x.1.isSome)
      && decide ((e :: es).length + ([] : List Keyword).length + (if ([] : List Keyword).isEmpty then 0 else 1) < 30)) = true := by rfl)
    (hline : (apos.endLine == cpos.line) = true := by rfl) (hs : starEach (e :: es) X.env = (false, eval e X.env) :: starEach es X.env := by rfl) (hplain : (backTo cpos (starEach es X.env)).any (·.1) = false := by rfl) :
    PE X (.Call (.Attribute o name apos) (e :: es) [] cpos) (tBM K T r to t) := hK ▸ pe_bm pa slot hty hm ho ha hbase hfew hline hs hplain
end Gd
namespace Gd
open PySem PySem.Spec PyProof.Rows L2
/-- tuple(xs) of a list: the new tuple's very object is told -/
def rTupF (K : PySem.W.Frag) : List V → Hp → VK → Prop := fun xs H Q => ∃ p ys, xs = [.ref p] ∧ SqL K H p ys ∧ ∀ (l : Addr) (ob : Obj), ob.cls = .type "tuple" → ob.dict = none → H l = none → Q (.ref l) (upd H l (.frz ob (.tup ys)))
theorem tupFK {X : Cx} {K : PySem.W.Frag} (hK : X.K = K) : CallR X (.type "tuple") (rTupF K) := by
  subst hK
  intro pins s σ H xs us Q I r h
  obtain ⟨p, ys, rfl, hq, q⟩ := h
  obtain ⟨u, rfl, rx⟩ := vals1 r
  cases rx
  obtain ⟨its, r', pl, hz⟩ := I.list hq
  have hlen := r'.length
  refine call_tuple_list pl.isList (fun h' kp => ?_) (by simp only [List.size_toArray] <;> omega)
  have I1 : Inv X pins σ H { s with heap := h' } := I.kept (t' := s.toks) kp
  have I2 : Inv X pins σ (upd H h'.objs.size (.frz { cls := .type "tuple", data := .seq its.toArray } (.tup ys))) { s with heap := h'.push { cls := .type "tuple", data := .seq its.toArray } } :=
    I1.laid (t' := s.toks) (fun b o e => Heap.get?_push_of_some _ e) (Nat.le_refl _) (show ObjOk X.prog X.w _ _ _ (.frz { cls := .type "tuple", data := .seq its.toArray } (.tup ys)) from ⟨Heap.get?_push_size _ rfl, hz, its, r', IsTup.new _ _⟩)
  exact ⟨.ref h'.objs.size, _, I2, rfl, q _ _ rfl rfl (I1.hok.fresh (Nat.le_refl _))⟩
def tTidx (K : PySem.W.Frag) (to : TE) (t : TA) : TE := fun σ H Q => to σ H fun x H1 => (∃ (p : Addr) (o : Obj) (ys : List V), x = .ref p ∧ H1 p = some (.frz o (.tup ys)) ∧ o.cls = .type "tuple" ∧ o.dict = none) ∧ t σ H1 fun xs H2 => rIndexI K x xs H2 Q
theorem pe_tidx {X : Cx} {K : PySem.W.Frag} {o e : Expr} {es : List Expr} {to : TE} {t : TA} {apos cpos : Pos} (hK : X.K = K) (ho : PE X o to) (ha : PA X (e :: es) t)
    (hbase : attributeBase o "index" X.env (eval o X.env) = eval o X.env := by rfl)
    (hfew : ((backTo cpos (starEach (e :: es) X.env)).all (fun x => !x.1) && (backToKw cpos (keywordEach [] X.env)).all (fun x => x.1.isSome)
      && decide ((e :: es).length + ([] : List Keyword).length + (if ([] : List Keyword).isEmpty then 0 else 1) < 30)) = true := by rfl)
    (hline : (apos.endLine == cpos.line) = true := by rfl) (hs : starEach (e :: es) X.env = (false, eval e X.env) :: starEach es X.env := by rfl) (hplain : (backTo cpos (starEach es X.env)).any (·.1) = false := by rfl) :
    PE X (.Call (.Attribute o "index" apos) (e :: es) [] cpos) (tTidx K to t) := by
  refine ⟨fun pins s σ H Q I h => ?_⟩
  refine wpAny_Call_method_late hbase hfew hline rfl (thn (ho.run pins s σ H _ I h) fun v s1 ⟨x, H1, I1, r1, ty, q1⟩ => ?_)
  obtain ⟨p, ob, ys, rfl, hp, hc, hd⟩ := ty
  cases r1
  have ho := (show ObjOk X.prog X.w H1 s1.heap p (.frz ob (.tup ys)) from I1.hok p _ hp).1
  refine ⟨"tuple", "tuple.index", PySem.F.plainAttrs_tuple, PySem.F.slot_tuple_index, PySem.F.type_tuple_index, ⟨ob, ho, hc⟩, fun a ea => ⟨ob, by cases ea; exact ho, hd⟩, ?_⟩
  have hA := ha.run cpos pins s1 σ H1 _ I1 q1
  rw [hs] at hA ⊢
  refine Calls.callWith_builtin (by show (false || (backTo cpos (starEach es X.env)).any (·.1)) = false; rw [hplain] <;> rfl) (Calls.evalArgs_plain ?_)
  exact thn hA fun us s2 ⟨vs, H2, I2, r2, q2⟩ => mt_indexIK hK pins s2 σ H2 (.ref p) vs _ us Q I2 rfl r2 q2
end Gd
/-! enumerate of a tuple -/
namespace Gd
open PySem PySem.Spec PyProof.Rows L2
section
variable {prog : Program} {w : World} {A : Around} {E : Value → Shared → Prop} {s : Shared}
theorem meets_enumerate_new1 {v : Value} {o : Obj} {H : Heap → Prop} (B : Begins v o H) :
    Meets (Builtin.«enumerate.__new__» ⟨[.type "enumerate", v], []⟩) (fun _ R s => H s.heap ∧
      R (.ok (.ret (.ref (s.heap.push o).objs.size))) { s with heap := (s.heap.push o).push { cls := .type "enumerate", data := .fields #[.none, .bool false, .ref s.heap.objs.size, rawInt 0, .none, .none] } }) :=
  .of_wp fun prog w A R s h => by
    obtain ⟨hp, g, d, tk, os⟩ := s; obtain ⟨h1, h⟩ := h
    have hsub := sub_enumerate
    have q1 : ∀ {A' : Around} {E : Value → Shared → Prop} {Q : Value → Shared → Prop}, Q (.ref hp.objs.size) ⟨hp.push o, g, d, tk, os⟩ → wpAny (model prog w) A' (pyIter v) Q E ⟨hp, g, d, tk, os⟩ :=
      fun q => B.iter prog w _ _ ⟨hp, g, d, tk, os⟩ _ h1 q
    wp_walk using q1
    refine wpAny_stack_any fun st => wpAny_pure ?_
    split
    · rename_i c _ _ _ _ _
      cases (c == Value.type "enumerate")
      · wp_walk using q1
        exact ⟨_, rfl, h⟩
      · wp_walk using q1
        exact ⟨_, rfl, h⟩
    · wp_walk using q1
      exact ⟨_, rfl, h⟩
theorem enum_begins1 {v : Value} {o : Obj} {H : Heap → Prop} {Q : Value → Shared → Prop} (B : Begins v o H) (h1 : H s.heap)
    (h : ∀ h', IsEnum h' (s.heap.objs.size + 1) s.heap.objs.size 0 .none → h'.get? s.heap.objs.size = some o → h'.objs.size = s.heap.objs.size + 2 →
      (∀ b o, s.heap.get? b = some o → h'.get? b = some o) → Q (.ref (s.heap.objs.size + 1)) { s with heap := h' }) :
    wpAny (model prog w) A (call (.type "enumerate") [v]) Q E s := by
  refine callType_new F.called_enumerate (by decide) (F.typeCall_enumerate_1 _) (F.newCall_enumerate_1 _) (fun obj => F.args_object_init_2 obj _) F.entry_enumerate_new
    (meets_enumerate_new1 B) ⟨h1, ?_⟩
  have hz : (s.heap.push o).objs.size = s.heap.objs.size + 1 := Heap.size_push ..
  show _ ∧ _
  rw [hz]
  have he : IsEnum ((s.heap.push o).push { cls := .type "enumerate", data := .fields #[.none, .bool false, .ref s.heap.objs.size, rawInt 0, .none, .none] }) (s.heap.objs.size + 1) s.heap.objs.size 0 .none := by
    have := Heap.get?_push_size (s.heap.push o) (o := { cls := .type "enumerate", data := .fields #[.none, .bool false, .ref s.heap.objs.size, rawInt 0, .none, .none] }) rfl
    rw [hz] at this; exact this
  refine ⟨⟨_, he, rfl⟩, h _ he (Heap.get?_push_of_some _ (Heap.get?_push_size _ B.free)) (by rw [Heap.size_push, hz]) fun b o x => Heap.get?_push_of_some _ (Heap.get?_push_of_some _ x)⟩
end
/-- the tuple at a, each item in a new pair -/
def IteT (K : PySem.W.Frag) (a : Addr) : It :=
  ⟨fun i H => ∃ (xs : List V) (x : V), SqT K H a xs ∧ xs[i]? = some x, fun i H v H' => ∃ T x, v = .ref T ∧ H T = none ∧ H' = upd H T (.tup [.int (i : Nat), x]) ∧ ∀ xs, SqT K H a xs → xs[i]? = some x, fun i H => ∃ xs : List V, SqT K H a xs ∧ xs.length = i⟩
theorem turn_enumT {P : Program} {w : World} {K : PySem.W.Frag} {elts : List Expr} {kk : Nat} {tpos : Pos} (a e it : Addr) :
    Turn P w K (.Tuple elts kk tpos) (IteT K a) [e, it] e (fun i h => (∃ old, IsEnum h e it ((i : Nat) : Int) old) ∧ h.IsTupleIter it a i ∧ e ≠ it) where
  mem := by simp
  obj := fun i h st b hb => by
    obtain ⟨⟨old, he⟩, ⟨o, ho, hc, hd⟩, _⟩ := st
    have e' : b = e ∨ b = it := by simpa using hb
    rcases e' with z | z
    · rw [z]; exact ⟨_, he, fun v q => nomatch q⟩
    · rw [z]; exact ⟨o, ho, fun v q => by rw [hd] at q; cases q⟩
  keep := fun i h h' st k => let ⟨⟨old, he⟩, hi, hne⟩ := st; ⟨⟨old, k e (by simp) _ he⟩, hi.at fun o q => k it (by simp) o q, hne⟩
  item := by
    intro X hP hw hK hc i pins s σ H E I hf st hg
    subst hP hw hK
    obtain ⟨⟨old, he⟩, hit, hne⟩ := st
    obtain ⟨xs, x, hq, hx⟩ := hg
    obtain ⟨its, rv, p, hz⟩ := I.tuple hq
    obtain ⟨u, hu, ru⟩ := rv.get hx
    have hel : e < s.heap.objs.size := Heap.lt_size he
    have hil : it < s.heap.objs.size := by obtain ⟨_, q, _⟩ := hit; exact Heap.lt_size q
    have hai : a ≠ it := fun z => by
      obtain ⟨o, ho, hc1, _⟩ := hit
      obtain ⟨o2, ho2, hc2, _⟩ := p
      rw [z, ho] at ho2
      cases ho2
      rw [hc1] at hc2
      exact absurd (Value.type.inj hc2) (by decide)
    have hea : e ≠ a := fun z => by
      obtain ⟨o2, ho2, hc2, _⟩ := p
      rw [← z] at ho2
      have h3 : some _ = some o2 := he.symm.trans ho2
      cases h3
      exact absurd (Value.type.inj hc2) (by decide)
    have hil2 : i < its.toArray.size := by rw [List.size_toArray]; exact (List.getElem?_eq_some_iff.mp hu).1
    refine wpAny_pyNext_enum_itemC (Draws.tuple (A := X.A.in1) (I.ok.hd hc) it a hai its.toArray) he ⟨hit, p⟩ hil2 hne (by simp [hne, hea]) fun x' h' tk hPx ho hit' hT hsz hk => ?_
    have hxu : x' = u := by
      have h1 : its[i]? = some x' := by simpa using hPx
      exact Option.some.inj (h1.symm.trans hu)
    subst hxu
    refine ⟨_, rfl, wpAny_letOwnedTupleGo_enum (s := { s with heap := h', toks := tk + 1 }) ho fun h'' he' sb => ?_⟩
    have hT2 : h''.get? s.heap.objs.size = some { cls := .type "tuple", data := .seq #[.int i tk, x'] } := (sb.2 _ (Nat.ne_of_gt hel)).trans hT
    have new : ObjOk X.prog X.w (upd H s.heap.objs.size (.tup [.int (i : Nat), x])) h'' s.heap.objs.size (.tup [.int (i : Nat), x]) :=
      ⟨by show 2 ≤ sizeLine; decide, [.int i tk, x'], .cons ⟨_, rfl⟩ (.cons ru .nil), ⟨_, hT2, rfl, _, rfl⟩⟩
    have I1 : Inv X pins σ (upd H s.heap.objs.size (.tup [.int (i : Nat), x])) { s with heap := h'', toks := tk + 1 } :=
      I.turnedNew (ch := [e, it]) (fun b ob hb q => (sb.2 b (fun z => hb (by simp [z]))).trans (hk b ob (fun z => hb (by simp [z])) (fun z => hb (by simp [z])) q)) hf (Nat.le_refl _) new
    refine ⟨.ref s.heap.objs.size, _, I1, rfl, ⟨_, x, rfl, I.hok.fresh (Nat.le_refl _), rfl, fun ys hy => by rw [I.tuple_inj hy hq]; exact hx⟩, ⟨⟨x', ?_⟩, hit'.1.at fun o q => (sb.2 it (Ne.symm hne)).trans q, hne⟩, fun b hb => ?_⟩
    · have e1 : ((i + 1 : Nat) : Int) = (i : Int) + 1 := by omega
      rw [e1]; exact he'
    · have hb' : b < s.heap.objs.size := by
        have e' : b = e ∨ b = it := by simpa using hb
        rcases e' with z | z
        · rw [z]; exact hel
        · rw [z]; exact hil
      rw [upd_ne (Nat.ne_of_lt hb')]
      exact (hf b hb).1
  done := by
    intro X hP hw hK hc i pins s σ H E I hf st hg
    subst hP hw hK
    obtain ⟨⟨old, he⟩, hit, hne⟩ := st
    obtain ⟨xs, hq, hx⟩ := hg
    obtain ⟨its, rv, p, hz⟩ := I.tuple hq
    obtain ⟨f0, f1, f2, f3, f4, f5⟩ := hf it (by simp)
    have hl := rv.length
    have hai : a ≠ it := fun z => by
      obtain ⟨o, ho, hc1, _⟩ := hit
      obtain ⟨o2, ho2, hc2, _⟩ := p
      rw [z, ho] at ho2
      cases ho2
      rw [hc1] at hc2
      exact absurd (Value.type.inj hc2) (by decide)
    have hn : i = its.toArray.size := by rw [List.size_toArray]; omega
    exact wpAny_pyNext_enum_endD (Draws.tuple (A := X.A.in1) (I.ok.hd hc) it a hai its.toArray) he ⟨hn ▸ hit, p⟩ fun h' eb => ⟨rfl, I.turned (t' := s.toks) (fun b o hb q => eb b o hb q) f0 f1 f3 f4 f5⟩
  self := fun A i s Q E st h => let ⟨⟨_, he⟩, _⟩ := st; wpAny_pyIter_enum he h
def iEnumT (K : PySem.W.Frag) (ta : TA) : TI := fun σ H R => ta σ H fun vs H1 => ∃ a xs, vs = [.ref a] ∧ SqT K H1 a xs ∧ R (IteT K a) H1
theorem pi_enumT {X : Cx} {K : PySem.W.Frag} {e : Expr} {ta : TA} {p pos tpos : Pos} {elts : List Expr} {kk : Nat} (hK : X.K = K) (hg : Gl X "enumerate") (hm : X.mg "enumerate" = none) (ha : PA X [e] ta) (hs : starEach [e] X.env = [(false, eval e X.env)] := by rfl) :
    PI X (.Tuple elts kk tpos) (.Call (.Name "enumerate" p) [e] [] pos) (iEnumT K ta) := by
  subst hK
  refine ⟨fun pins s σ H R I h => ?_⟩
  refine Call_ (ld_blt I hg hm boot_enumerate (PyProof.Rows.callWith_type1 (thn (ha.run pos pins s σ H _ I h) fun us s1 ⟨vs, H1, I1, r1, q1⟩ => ?_) hs rfl))
  obtain ⟨a, xs, ex, hq, q⟩ := q1
  subst ex
  cases r1 with
  | cons r rr =>
    cases rr
    cases r
    obtain ⟨its, rv, p', hz⟩ := I1.tuple hq
    refine enum_begins1 (begins_tuple a its.toArray) p' fun h' he hit hsz hk => wpAny_pyIter_enum he ?_
    have I2 : Inv X pins σ H1 { s1 with heap := h' } := I1.kept (t' := s1.toks) hk
    refine ⟨s1.heap.objs.size + 1, [s1.heap.objs.size + 1, s1.heap.objs.size], _, _, H1, rfl, I2, turn_enumT a (s1.heap.objs.size + 1) s1.heap.objs.size, ⟨⟨.none, he⟩, ⟨_, hit, rfl, rfl⟩, Nat.succ_ne_self _⟩, fun b hb => ?_, q⟩
    have e' : b = s1.heap.objs.size + 1 ∨ b = s1.heap.objs.size := by simpa using hb
    have hle : s1.heap.objs.size ≤ b := by
      rcases e' with z | z
      · rw [z]; exact Nat.le_add_right _ _
      · rw [z]; exact Nat.le_refl _
    exact I1.fpOk hle (I1.hok.fresh hle)
theorem walk_enumT {K : PySem.W.Frag} {a : Addr} {xs : List V} : Walk (IteT K a) xs.length (fun H => SqT K H a xs) (YPair (fun i => some (.int (i : Nat))) (fun i => xs[i]?)) := by
  refine ⟨fun i _ hi q => ⟨xs, xs[i], q, by simp [hi]⟩, fun _ q => ⟨xs, q, rfl⟩, fun i H v H' _ q y => ?_⟩
  obtain ⟨T, x, h1, h2, h3, h4⟩ := y
  exact ⟨T, .int (i : Nat), x, h1, h2, h3, rfl, h4 xs q⟩
end Gd
/-! new tuples, their very objects known -/
namespace Ev
open PySem PySem.Spec PyProof.Rows L2 Gd
def Plain (ob : Obj) : Prop := ob.cls = .type "tuple" ∧ ob.dict = none
/-- a new tuple is told -/
def NewT (H : Hp) (xs : List V) (Q : VK) : Prop := ∀ (p : Addr) (ob : Obj), Plain ob → H p = none → Q (.ref p) (upd H p (.frz ob (.tup xs)))
section
variable {X : Cx} {pins : List (Addr × Obj)} {σ : L2.St} {H : Hp} {s : Shared}
theorem laidT {xs : List V} {its : List Value} {Q : VK} {h : Heap} {tk : Nat} (I : Inv X pins σ H { s with heap := h, toks := tk }) (r : Vals xs its) (hz : xs.length ≤ sizeLine) (q : NewT H xs Q) :
    EP X pins σ Q (.ref h.objs.size) { s with heap := h.push { cls := .type "tuple", data := .seq its.toArray }, toks := tk } := by
  have ob : Plain ({ cls := .type "tuple", data := .seq its.toArray } : Obj) := ⟨rfl, rfl⟩
  exact ⟨.ref h.objs.size, _, I.laid (t' := tk) (o := .frz { cls := .type "tuple", data := .seq its.toArray } (.tup xs)) (fun b ob q => Heap.get?_push_of_some _ q) (Nat.le_refl _) (show ObjOk X.prog X.w _ _ _ (.frz _ (.tup xs)) from ⟨Heap.get?_push_size _ rfl, hz, its, r, IsTup.new _ _⟩), rfl, q _ _ ob (I.hok.fresh (Nat.le_refl _))⟩
end
section
variable {X : Cx} {K : PySem.W.Frag} {es : List Expr} {t : TA} {pos : Pos}
def tTupX (t : TA) : TE := fun σ H Q => t σ H fun xs H1 => xs.length ≤ sizeLine ∧ NewT H1 xs Q
theorem pe_tupX {x1} (h : PA X es t) : PE X (.Tuple es x1 pos) (tTupX t) := by
  refine ⟨fun pins s σ H Q I hq => ?_⟩
  refine wpAny_Tuple_spliced (thn (h.run pos pins s σ H _ I hq) fun us s1 ⟨xs, H1, I1, r, z, q⟩ => ⟨by rw [← r.length]; exact z, ?_⟩)
  exact laidT (h := s1.heap) (tk := s1.toks) I1 r z q
def rCatX (K : PySem.W.Frag) : R2 := fun x y H Q => ∃ a b xs ys, x = .ref a ∧ y = .ref b ∧ SqT K H a xs ∧ SqT K H b ys ∧ xs.length + ys.length ≤ sizeLine ∧
  (xs = [] → Q (.ref b) H) ∧ (xs ≠ [] → ys = [] → Q (.ref a) H) ∧ (xs ≠ [] → ys ≠ [] → NewT H (xs ++ ys) Q)
theorem op_catX (hK : X.K = K) : OpR X (binaryOp .Add) (rCatX K) := by
  subst hK
  intro pins s σ H x y v u Q I rx ry h
  obtain ⟨a, b, xs, ys, rfl, rfl, ha, hb, hz, q0, q1, q2⟩ := h
  cases rx
  cases ry
  obtain ⟨its, r1, p1, _⟩ := I.tuple ha
  obtain ⟨its2, r2, p2, _⟩ := I.tuple hb
  by_cases hx : xs = []
  · subst hx
    cases r1
    exact cat_tup0 p1 p2 ⟨.ref b, H, I, rfl, q0 rfl⟩
  refine HT.cat_tup p1 p2 (fun z => hx (r1.nil_iff.mp z)) (fun z => ⟨.ref a, H, I, rfl, q1 hx (r2.nil_iff.mp z)⟩) (fun z => ?_) (by rw [← r1.length, ← r2.length]; exact hz)
  exact laidT (h := s.heap) (tk := s.toks) I (r1.append r2) (by rw [List.length_append]; exact hz) (q2 hx fun w => z (r2.nil_iff.mpr w))
def rSlX (K : PySem.W.Frag) : V → Option Int → Option Int → Hp → VK → Prop := fun x lo hi H Q => ∃ a xs, x = .ref a ∧ SqT K H a xs ∧
  (HT.sIx xs.length 0 lo = 0 ∧ HT.sIx xs.length xs.length hi = xs.length → Q (.ref a) H) ∧ (¬ (HT.sIx xs.length 0 lo = 0 ∧ HT.sIx xs.length xs.length hi = xs.length) → NewT H (cutV xs lo hi) Q)
theorem sl_tupX (hK : X.K = K) : SlR X (rSlX K) := by
  subst hK
  intro pins s σ H x v vl vu lo hi sl Q I rx hs pl pu h
  obtain ⟨a, xs, rfl, hx, q1, q2⟩ := h
  cases rx
  obtain ⟨its, r, ht, hz⟩ := I.tuple hx
  have hlen : its.toArray.size = xs.length := by rw [List.size_toArray]; exact r.length.symm
  refine ⟨"tuple", _, PyProof.Rows.slot_tuple_getitem.lookup, ht.typeIs, ?_⟩
  by_cases hw : HT.sIx xs.length 0 lo = 0 ∧ HT.sIx xs.length xs.length hi = xs.length
  · exact getItem_tuple_whole ht hs pl pu (by rw [hlen]; exact hw) ⟨.ref a, H, I, rfl, q1 hw⟩
  · refine HT.getItem_tuple_cut ht hs pl pu (by rw [hlen]; exact hw) ?_ (by rw [hlen]; exact hz)
    rw [hlen]
    exact laidT (h := s.heap) (tk := s.toks) I ((r.drop (HT.sIx xs.length 0 lo)).take (HT.sIx xs.length xs.length hi - HT.sIx xs.length 0 lo)) (Nat.le_trans (cutV_length xs lo hi) hz) (q2 hw)
/-- tuple(x) -/
def rTupX (K : PySem.W.Frag) : List V → Hp → VK → Prop := fun vs H Q => ∃ p ys, vs = [.ref p] ∧ ((SqL K H p ys ∧ NewT H ys Q) ∨ (SqT K H p ys ∧ Q (.ref p) H))
theorem tupXK (hK : X.K = K) : CallR X (.type "tuple") (rTupX K) := by
  subst hK
  intro pins s σ H xs us Q I r h
  obtain ⟨p, ys, rfl, ⟨h1, q⟩ | ⟨h1, q⟩⟩ := h
  · exact tupFK rfl pins s σ H _ us Q I r ⟨p, ys, rfl, h1, fun l ob h2 h3 h4 => q l ob ⟨h2, h3⟩ h4⟩
  · exact tupK rfl pins s σ H _ us Q I r ⟨p, ys, rfl, .inr ⟨h1, q⟩⟩
def tTupRX (te : L2.St → Hp → (Int → Int → Hp → Prop) → Prop) : TE := fun σ H Q => te σ H fun a b H1 => RgOk a b ∧ NewT H1 (rgV a b) Q
theorem pe_tupRX {e : Expr} {te : L2.St → Hp → (Int → Int → Hp → Prop) → Prop} {p pos : Pos} (hc : X.calm = true) (hg : Gl X "tuple") (hm : X.mg "tuple" = none) (he : PRg X e te) (na : starEach [e] X.env = (false, eval e X.env) :: starEach [] X.env := by rfl) : PE X (.Call (.Name "tuple" p) [e] [] pos) (tTupRX te) := by
  refine ⟨fun pins s σ H Q I h => ?_⟩
  refine Call_ (ld_blt I hg hm boot_tuple (PyProof.Rows.callWith_type1 (args_cons (thn (he pins s σ H _ I h) fun x s1 ⟨r, a, b, t, u, v, H1, ex, hr, I1, ok, q⟩ => args_nil ?_) na) na))
  subst ex
  obtain ⟨b1, b2, b3, b4, b5⟩ := ok
  refine call_tuple_range (n := (b - a).toNat) (I1.ok.hd hc) hr (small_one b1 b2 b3 b4) (rangeSize_nat a b) b5 fun h' tk acc hk hi => ?_
  have I2 : Inv X pins σ H1 { s1 with heap := h', toks := tk } := I1.kept hk
  have := laidT (h := h') (tk := tk) I2 (vals_rg hi) (by rw [rgV_length, sizeLine_eq]; omega) q
  rw [Array.toArray_toList] at this
  exact this
def rRepX (K : PySem.W.Frag) : R2 := fun x y H Q => ∃ l k xs, x = .ref l ∧ y = .int k ∧ SqT K H l xs ∧ xs ≠ [] ∧ 1 ≤ k ∧ k ≤ 1000 ∧ xs.length ≤ 1000 ∧ (k = 1 → Q (.ref l) H) ∧ (2 ≤ k → NewT H (List.replicate k.toNat xs).flatten Q)
theorem repXK (hK : X.K = K) : OpR X (binaryOp .Mult) (rRepX K) := by
  subst hK
  intro pins s σ H x y v u Q I rx ry h
  obtain ⟨l, k, xs, rfl, rfl, hT, hne, h1, h2, hz, q1, q2⟩ := h
  by_cases hk : k = 1
  · exact rep2K rfl pins s σ H _ _ v u Q I rx ry ⟨l, k, xs, rfl, rfl, hT, hne, h1, h2, hz, q1, fun h => by omega⟩
  have h1 : 2 ≤ k := by omega
  have q := q2 h1
  cases rx
  obtain ⟨t, rfl⟩ := ry
  obtain ⟨its, r, ⟨⟨cls, dd, data, sl⟩, ho, hc, n, hd⟩, hs⟩ := I.tuple hT
  simp only at hc hd
  subst hc hd
  have hle : its.length = xs.length := r.length.symm
  have hn : its ≠ [] := fun e => hne (by
    rw [e] at hle
    exact List.eq_nil_of_length_eq_zero hle.symm)
  have hi : its.toArray.isEmpty = false := by
    cases its with
    | nil => exact absurd rfl hn
    | cons a b => rfl
  have hsz0 : its.toArray.size = xs.length := by rw [List.size_toArray, hle]
  have hm : ((its.toArray.size : Nat) : Int) * k ≤ 1000000 := by
    rw [hsz0]
    have a1 : ((xs.length : Nat) : Int) * k ≤ 1000 * k := Int.mul_le_mul_of_nonneg_right (by omega) (by omega)
    omega
  have flen : (List.replicate k.toNat its).flatten.length ≤ sizeLine := by
    rw [PyProof.Rows.lm_len_rep_flat, hle, sizeLine_eq]
    have a1 : k.toNat * xs.length ≤ 1000 * 1000 := Nat.mul_le_mul (by omega) hz
    omega
  have c0 : (decide (k < -(2 ^ 63)) || decide (k ≥ 2 ^ 63)) = false := by
    rw [decide_eq_false (by omega), decide_eq_false (by omega)] <;> rfl
  have c1 : (its.toArray.isEmpty || k == 1) = false := by
    rw [hi, Bool.false_or]
    exact beq_eq_false_iff_ne.mpr (by omega)
  have c2 : (decide (k ≤ 0) || its.toArray.isEmpty) = false := by
    rw [hi, Bool.or_false]
    exact decide_eq_false (by omega)
  have c4 : Builtin.Tuple.tupleTooMany (((its.toArray.size : Nat) : Int) * k) = false := by
    unfold Builtin.Tuple.tupleTooMany
    rw [sizeLine_eq]
    exact decide_eq_false (by omega)
  refine wpAny_binaryOp_repeat_ref (T := "tuple") (U := "int") (by decide) ⟨_, ho, rfl⟩ (fun s' => typeIs_int s' k t) noFill_tuple_mul PySem.F.fills_int_mul PySem.F.slot_int_rmul repeat_tuple PySem.F.slot_int_index.lookup
    (call_meets PySem.F.slot_int_rmul (typeIs_int s k t) PySem.F.entry_int_rmul (PySem.F.args_int_rmul_2 _ _) (int_rmul_tuple k t l its.toArray n dd sl)
      ⟨ho, rfl, ⟨_, ho, rfl⟩, call_meets PySem.F.slot_tuple_mul ⟨_, ho, rfl⟩ PySem.F.entry_tuple_mul (PySem.F.args_tuple_mul_2 _ _) (tuple_mulW l its.toArray n dd sl k t c0 c1 c2 (by omega) c4 (by rw [size_rep, List.size_toArray]; exact flen)) ⟨ho, ?_⟩⟩)
  rw [size_rep]
  exact laidT (h := s.heap) (tk := s.toks) I (r.rep k.toNat) (by rw [PyProof.Rows.lm_len_rep_flat, sizeLine_eq]; have a1 : k.toNat * xs.length ≤ 1000 * 1000 := Nat.mul_le_mul (by omega) hz; omega) q
/-- a tuple whose object is known -/
def TpX (K : PySem.W.Frag) (H : Hp) (p : Addr) (vs : List V) : Prop :=
  (∃ o, H p = some (.frz o (.tup vs)) ∧ Plain o) ∨ ∃ (o : Obj) (its : Array Value) (n : Nat), K.lookup p = some o ∧ Plain o ∧ o.data = .seq its n ∧ its.size ≤ sizeLine ∧ Vals vs its.toList
theorem TpX.sq {H : Hp} {p : Addr} {vs : List V} (h : TpX K H p vs) : SqT K H p vs := by
  rcases h with ⟨o, h, _⟩ | ⟨o, its, n, h1, h2, h3⟩
  · exact .inl (.inr ⟨o, h⟩)
  · exact .inr ⟨o, its, n, h1, h2.1, h3⟩
/-- a method of a tuple -/
def tBMT (K : PySem.W.Frag) (r : V → List V → Hp → VK → Prop) (to : TE) (t : TA) : TE := fun σ H Q => to σ H fun x H1 => (∃ (p : Addr) (vs : List V), x = .ref p ∧ TpX K H1 p vs) ∧ t σ H1 fun xs H2 => r x xs H2 Q
theorem pe_bmT {o e : Expr} {es : List Expr} {to : TE} {t : TA} {id : String} {name : Str} {r : V → List V → Hp → VK → Prop} {apos cpos : Pos} (hK : X.K = K) (pa : PlainAttrs "tuple") (slot : Slot "tuple" name id) (hty : typeOf (.builtin id) = pure (.type "method_descriptor")) (hm : MtR X id r) (ho : PE X o to) (ha : PA X (e :: es) t)
    (hbase : attributeBase o name X.env (eval o X.env) = eval o X.env := by rfl)
    (hfew : ((backTo cpos (starEach (e :: es) X.env)).all (fun x => !x.1) && (backToKw cpos (keywordEach [] X.env)).all (fun x => x.1.isSome)
      && decide ((e :: es).length + ([] : List Keyword).length + (if ([] : List Keyword).isEmpty then 0 else 1) < 30)) = true := by rfl)
    (hline : (apos.endLine == cpos.line) = true := by rfl) (hs : starEach (e :: es) X.env = (false, eval e X.env) :: starEach es X.env := by rfl) (hplain : (backTo cpos (starEach es X.env)).any (·.1) = false := by rfl) :
    PE X (.Call (.Attribute o name apos) (e :: es) [] cpos) (tBMT K r to t) := by
  subst hK
  refine ⟨fun pins s σ H Q I h => ?_⟩
  refine wpAny_Call_method_late hbase hfew hline rfl (thn (ho.run pins s σ H _ I h) fun v s1 ⟨x, H1, I1, r1, ty, q1⟩ => ?_)
  obtain ⟨p, ys, rfl, hp⟩ := ty
  cases r1
  have ob : ∃ ob, s1.heap.get? p = some ob ∧ Plain ob := by
    rcases hp with ⟨o, h, hp⟩ | ⟨o, its, n, h1, h2, h3⟩
    · exact ⟨o, (show ObjOk X.prog X.w H1 s1.heap p (.frz o (.tup ys)) from I1.hok p _ h).1, hp⟩
    · exact ⟨o, I1.kIn p o h1, h2⟩
  obtain ⟨ob, ho, hc, hd⟩ := ob
  refine ⟨"tuple", id, pa, slot, hty, ⟨ob, ho, hc⟩, fun a ea => ⟨ob, by cases ea; exact ho, hd⟩, ?_⟩
  have hA := ha.run cpos pins s1 σ H1 _ I1 q1
  rw [hs] at hA ⊢
  refine Calls.callWith_builtin (by show (false || (backTo cpos (starEach es X.env)).any (·.1)) = false; rw [hplain] <;> rfl) (Calls.evalArgs_plain ?_)
  exact thn hA fun us s2 ⟨vs, H2, I2, r2, q2⟩ => hm pins s2 σ H2 (.ref p) vs _ us Q I2 rfl r2 q2
end
end Ev
/-! a reading of defs as functions: values, a store of lists and dicts, what an expression gives -/
namespace Ev
open PySem PySem.Spec PyProof.Rows L2 Gd

/-- a value: tmp, dtm: a new list, a new dict that nothing else knows; frz: a list that is only read; loc: a list or a dict of the store -/
inductive A where
  | non | bl (b : Bool) | int (i : Int) | str (x : Str)
  | tup (xs : List A) | pr (a b : A) | tmp (xs : List A) | frz (xs : List A) | loc (l : Nat) | dtm (kvs : List (Key × A))
inductive O where
  | lst (xs : List A) | dic (kvs : List (Key × A))
abbrev Sto := List O
abbrev Rho := List (Option A)
inductive R (α : Type) where
  | ok (a : α) (st : Sto) | no
/-- no new list -/
def A.nt : A → Prop
  | .tmp _ => False
  | .dtm _ => False
  | _ => True

section
variable (K : PySem.W.Frag) (μ : Nat → Addr) (n : Nat) (H : Hp)
/-- a list of the written part -/
def KL (a : Addr) (xs : List V) : Prop := ∃ (o : Obj) (its : Array Value) (n : Nat), K.lookup a = some o ∧ o.cls = .type "list" ∧ o.dict = none ∧ o.data = .seq its n ∧ its.size ≤ sizeLine ∧ Vals xs its.toList
/-- a list that is locked, or one of the written part -/
def FzL (a : Addr) (xs : List V) : Prop := (∃ o, H a = some (.frz o (.lst xs))) ∨ KL K a xs
mutual
def Rep : A → V → Prop
  | .non, v => v = .non
  | .bl b, v => v = .bl b
  | .int i, v => v = .int i
  | .str x, v => v = .str x
  | .tup xs, v => ∃ p vs, v = .ref p ∧ TpX K H p vs ∧ RepL xs vs
  | .pr a b, v => ∃ p x y, v = .ref p ∧ H p = some (.tup [x, y]) ∧ (a.nt ∧ Rep a x) ∧ (b.nt ∧ Rep b y)
  | .tmp xs, v => ∃ p vs, v = .ref p ∧ H p = some (.lst vs) ∧ (∀ l, l < n → μ l ≠ p) ∧ RepL xs vs
  | .frz xs, v => ∃ p vs, v = .ref p ∧ FzL K H p vs ∧ RepL xs vs
  | .loc l, v => l < n ∧ v = .ref (μ l)
  | .dtm kvs, v => ∃ p ws, v = .ref p ∧ H p = some (.dK ws) ∧ (∀ l, l < n → μ l ≠ p) ∧ RepD kvs ws
def RepL : List A → List V → Prop
  | [], vs => vs = []
  | a :: as, vs => ∃ v r, vs = v :: r ∧ a.nt ∧ Rep a v ∧ RepL as r
def RepD : List (Key × A) → List (Key × V) → Prop
  | [], vs => vs = []
  | (k, a) :: as, vs => ∃ v r, vs = (k, v) :: r ∧ a.nt ∧ Rep a v ∧ RepD as r
end
end

/-! ### pairs of lists -/
section
variable {α β : Type} {F G : α → β → Prop}
theorem pd_get : ∀ {xs : List α} {ys : List β} {i : Nat} {x : α}, Paired F xs ys → xs[i]? = some x → ∃ y, ys[i]? = some y ∧ F x y
  | _, _, _, _, .nil, e => by simp at e
  | _, _, 0, _, .cons r _, e => by simp at e; subst e; exact ⟨_, rfl, r⟩
  | _, _, i + 1, x, .cons _ t, e => by
    obtain ⟨u, h1, h2⟩ := pd_get (i := i) (x := x) t (by simpa using e)
    exact ⟨u, by simpa using h1, h2⟩
theorem pd_getR : ∀ {xs : List α} {ys : List β} {i : Nat} {y : β}, Paired F xs ys → ys[i]? = some y → ∃ x, xs[i]? = some x ∧ F x y
  | _, _, _, _, .nil, e => by simp at e
  | _, _, 0, _, .cons r _, e => by simp at e; subst e; exact ⟨_, rfl, r⟩
  | _, _, i + 1, x, .cons _ t, e => by
    obtain ⟨u, h1, h2⟩ := pd_getR (i := i) (y := x) t (by simpa using e)
    exact ⟨u, by simpa using h1, h2⟩
theorem pd_append : ∀ {xs xs' : List α} {ys ys' : List β}, Paired F xs ys → Paired F xs' ys' → Paired F (xs ++ xs') (ys ++ ys')
  | _, _, _, _, .nil, s => s
  | _, _, _, _, .cons r t, s => .cons r (pd_append t s)
theorem pd_take : ∀ {xs : List α} {ys : List β} (n : Nat), Paired F xs ys → Paired F (xs.take n) (ys.take n)
  | _, _, 0, _ => .nil
  | _, _, _ + 1, .nil => .nil
  | _, _, n + 1, .cons r t => .cons r (pd_take n t)
theorem pd_drop : ∀ {xs : List α} {ys : List β} (n : Nat), Paired F xs ys → Paired F (xs.drop n) (ys.drop n)
  | _, _, 0, r => r
  | _, _, _ + 1, .nil => .nil
  | _, _, n + 1, .cons r t => pd_drop n t
theorem pd_set {x : α} {y : β} (r : F x y) : ∀ {xs : List α} {ys : List β} (i : Nat), Paired F xs ys → Paired F (xs.set i x) (ys.set i y)
  | _, _, _, .nil => .nil
  | _, _, 0, .cons _ t => .cons r t
  | _, _, i + 1, .cons q t => .cons q (pd_set r i t)
theorem pd_erase : ∀ {xs : List α} {ys : List β} (i : Nat), Paired F xs ys → Paired F (xs.eraseIdx i) (ys.eraseIdx i)
  | _, _, _, .nil => .nil
  | _, _, 0, .cons _ t => t
  | _, _, i + 1, .cons q t => .cons q (pd_erase i t)
theorem pd_rev : ∀ {xs : List α} {ys : List β}, Paired F xs ys → Paired F xs.reverse ys.reverse
  | _, _, .nil => .nil
  | _, _, .cons q t => by
    rw [List.reverse_cons, List.reverse_cons]
    exact pd_append (pd_rev t) (.cons q .nil)
theorem pd_dropLast {xs : List α} {ys : List β} (h : Paired F xs ys) : Paired F xs.dropLast ys.dropLast := by
  rw [List.dropLast_eq_take, List.dropLast_eq_take, h.length]
  exact pd_take _ h
theorem pd_rep {x : α} {y : β} (r : F x y) : ∀ n : Nat, Paired F (List.replicate n x) (List.replicate n y)
  | 0 => .nil
  | n + 1 => by rw [List.replicate_succ, List.replicate_succ]; exact .cons r (pd_rep r n)
theorem pd_flat : ∀ {xs : List (List α)} {ys : List (List β)}, Paired (Paired F) xs ys → Paired F xs.flatten ys.flatten
  | _, _, .nil => .nil
  | _, _, .cons q t => by rw [List.flatten_cons, List.flatten_cons]; exact pd_append q (pd_flat t)
end

section
variable {K : PySem.W.Frag} {μ μ' μ2 : Nat → Addr} {n n' n2 : Nat} {H H' H2 : Hp}
abbrev RN (K : PySem.W.Frag) (μ : Nat → Addr) (n : Nat) (H : Hp) : A → V → Prop := fun a v => a.nt ∧ Rep K μ n H a v
theorem repL_iff : ∀ {xs : List A} {vs : List V}, RepL K μ n H xs vs ↔ Paired (RN K μ n H) xs vs
  | [], vs => ⟨fun h => by cases (show vs = [] from h); exact .nil, fun h => by cases h; rfl⟩
  | a :: as, vs => ⟨fun h => by
      obtain ⟨v, r, rfl, h1, h2, h3⟩ := h
      exact .cons ⟨h1, h2⟩ (repL_iff.mp h3), fun h => by
      cases h with
      | cons h1 h2 => exact ⟨_, _, rfl, h1.1, h1.2, repL_iff.mpr h2⟩⟩
abbrev RK (K : PySem.W.Frag) (μ : Nat → Addr) (n : Nat) (H : Hp) : Key × A → Key × V → Prop := fun a v => a.1 = v.1 ∧ a.2.nt ∧ Rep K μ n H a.2 v.2
theorem repD_iff : ∀ {xs : List (Key × A)} {vs : List (Key × V)}, RepD K μ n H xs vs ↔ Paired (RK K μ n H) xs vs
  | [], vs => ⟨fun h => by cases (show vs = [] from h); exact .nil, fun h => by cases h; rfl⟩
  | (k, a) :: as, vs => ⟨fun h => by
      obtain ⟨v, r, rfl, h1, h2, h3⟩ := h
      exact .cons ⟨rfl, h1, h2⟩ (repD_iff.mp h3), fun h => by
      cases h with
      | cons h1 h2 =>
        rename_i b r
        obtain ⟨k', v⟩ := b
        obtain ⟨h0, h1, h3⟩ := h1
        cases (show k = k' from h0)
        exact ⟨_, _, rfl, h1, h3, repD_iff.mpr h2⟩⟩
def RepO (K : PySem.W.Frag) (μ : Nat → Addr) (n : Nat) (H : Hp) (p : Addr) : O → Prop
  | .lst xs => ∃ vs, H p = some (.lst vs) ∧ RepL K μ n H xs vs
  | .dic kvs => ∃ ws, H p = some (.dK ws) ∧ RepD K μ n H kvs ws
/-- the store is held -/
structure RS (K : PySem.W.Frag) (μ : Nat → Addr) (st : Sto) (H : Hp) : Prop where
  at_ : ∀ l o, st[l]? = some o → RepO K μ st.length H (μ l) o
  inj : ∀ l l', l < st.length → l' < st.length → μ l = μ l' → l = l'
/-- what may have come -/
structure Ext (μ : Nat → Addr) (n : Nat) (H : Hp) (μ' : Nat → Addr) (n' : Nat) (H' : Hp) : Prop where
  le : n ≤ n'
  ag : ∀ l, l < n → μ' l = μ l
  fr : ∀ p o, H p = some o → (∀ l, l < n → μ l ≠ p) → H' p = some o
  so : ∀ p, H' p = none → H p = none
  nw : ∀ l, n ≤ l → l < n' → H (μ' l) = none
theorem Ext.refl : Ext μ n H μ n H := ⟨Nat.le_refl _, fun _ _ => rfl, fun _ _ h _ => h, fun _ h => h, fun l h1 h2 => absurd h1 (by omega)⟩
theorem Ext.trans (a : Ext μ n H μ' n' H') (b : Ext μ' n' H' μ2 n2 H2) : Ext μ n H μ2 n2 H2 where
  le := Nat.le_trans a.le b.le
  ag := fun l h => (b.ag l (Nat.lt_of_lt_of_le h a.le)).trans (a.ag l h)
  fr := fun p o h1 h2 => b.fr p o (a.fr p o h1 h2) fun l hl e => by
    by_cases h : l < n
    · rw [a.ag l h] at e
      exact h2 l h e
    · have := a.nw l (by omega) hl
      rw [e, h1] at this
      cases this
  so := fun p h => a.so p (b.so p h)
  nw := fun l h1 h2 => by
    by_cases h : l < n'
    · rw [b.ag l h]
      exact a.nw l h1 h
    · exact a.so _ (b.nw l (by omega) h2)
theorem RepO.mt {p : Addr} {o : O} (h : RepO K μ n H p o) : ∃ u, H p = some u ∧ Mut (some u) ∧ (∀ x z, u ≠ .frz x z) ∧ (∀ xs, u ≠ .tup xs) := by
  cases o with
  | lst xs =>
    obtain ⟨vs, h1, _⟩ := h
    exact ⟨_, h1, True.intro, (fun _ _ e => nomatch e), (fun _ e => nomatch e)⟩
  | dic kvs =>
    obtain ⟨vs, h1, _⟩ := h
    exact ⟨_, h1, True.intro, (fun _ _ e => nomatch e), (fun _ e => nomatch e)⟩
theorem RS.mt {st : Sto} (h : RS K μ st H) {l : Nat} (hl : l < st.length) : ∃ u, H (μ l) = some u ∧ Mut (some u) ∧ (∀ x z, u ≠ .frz x z) ∧ (∀ xs, u ≠ .tup xs) :=
  (h.at_ l st[l] (List.getElem?_eq_getElem hl)).mt
/-- tuples are no objects of the store -/
theorem RS.ne_tup {st : Sto} (h : RS K μ st H) {p : Addr} {vs : List V} (e : Rd H p (.tup vs)) : ∀ l, l < st.length → μ l ≠ p := fun l hl q => by
  obtain ⟨u, h1, h2, h3, h4⟩ := h.mt hl
  rw [q] at h1
  rcases e with e | ⟨o, e⟩
  · rw [h1] at e
    exact h4 _ (Option.some.inj e)
  · rw [h1] at e
    exact h3 _ _ (Option.some.inj e)
theorem RS.ne_free {st : Sto} (h : RS K μ st H) {p : Addr} (e : H p = none) : ∀ l, l < st.length → μ l ≠ p := fun l hl q => by
  obtain ⟨u, h1, _⟩ := h.mt hl
  rw [q, e] at h1
  cases h1
mutual
theorem Rep.ext {st : Sto} (S : RS K μ st H) (E : Ext μ st.length H μ' n' H') : ∀ {a : A} {v : V}, Rep K μ st.length H a v → Rep K μ' n' H' a v
  | .non, _, h => h
  | .bl _, _, h => h
  | .int _, _, h => h
  | .str _, _, h => h
  | .tup xs, v, ⟨p, vs, e, h1, h2⟩ => by
    refine ⟨p, vs, e, ?_, RepL.ext S E h2⟩
    rcases h1 with ⟨o, h1, h3⟩ | h1
    · refine .inl ⟨o, E.fr _ _ h1 fun l hl q => ?_, h3⟩
      obtain ⟨u, h4, _, h5, _⟩ := S.mt hl
      rw [q, h1] at h4
      exact h5 _ _ (Option.some.inj h4).symm
    · exact .inr h1
  | .pr a b, v, ⟨p, x, y, e, h1, h2, h3⟩ => ⟨p, x, y, e, E.fr _ _ h1 (S.ne_tup (.inl h1)), ⟨h2.1, Rep.ext S E h2.2⟩, h3.1, Rep.ext S E h3.2⟩
  | .tmp xs, v, ⟨p, vs, e, h1, h2, h3⟩ => by
    refine ⟨p, vs, e, E.fr _ _ h1 h2, fun l hl q => ?_, RepL.ext S E h3⟩
    by_cases h : l < st.length
    · rw [E.ag l h] at q
      exact h2 l h q
    · have := E.nw l (by omega) hl
      rw [q, h1] at this
      cases this
  | .frz xs, v, ⟨p, vs, e, h1, h3⟩ => by
    refine ⟨p, vs, e, ?_, RepL.ext S E h3⟩
    rcases h1 with ⟨o, h1⟩ | h1
    · refine .inl ⟨o, E.fr _ _ h1 fun l hl q => ?_⟩
      obtain ⟨u, h4, _, h5, _⟩ := S.mt hl
      rw [q, h1] at h4
      exact h5 _ _ (Option.some.inj h4).symm
    · exact .inr h1
  | .loc l, v, ⟨h1, h2⟩ => ⟨Nat.lt_of_lt_of_le h1 E.le, by rw [E.ag l h1]; exact h2⟩
  | .dtm xs, v, ⟨p, vs, e, h1, h2, h3⟩ => by
    refine ⟨p, vs, e, E.fr _ _ h1 h2, fun l hl q => ?_, RepD.ext S E h3⟩
    by_cases h : l < st.length
    · rw [E.ag l h] at q
      exact h2 l h q
    · have := E.nw l (by omega) hl
      rw [q, h1] at this
      cases this
theorem RepL.ext {st : Sto} (S : RS K μ st H) (E : Ext μ st.length H μ' n' H') : ∀ {xs : List A} {vs : List V}, RepL K μ st.length H xs vs → RepL K μ' n' H' xs vs
  | [], _, h => h
  | _ :: _, _, ⟨v, r, e, h1, h2, h3⟩ => ⟨v, r, e, h1, Rep.ext S E h2, RepL.ext S E h3⟩
theorem RepD.ext {st : Sto} (S : RS K μ st H) (E : Ext μ st.length H μ' n' H') : ∀ {xs : List (Key × A)} {vs : List (Key × V)}, RepD K μ st.length H xs vs → RepD K μ' n' H' xs vs
  | [], _, h => h
  | (_, _) :: _, _, ⟨v, r, e, h1, h2, h3⟩ => ⟨v, r, e, h1, Rep.ext S E h2, RepD.ext S E h3⟩
end
mutual
theorem Rep.lift (ag : ∀ l, l < n → μ' l = μ l) (le : n ≤ n') : ∀ {a : A} {v : V}, a.nt → Rep K μ n H a v → Rep K μ' n' H a v
  | .non, _, _, h => h
  | .bl _, _, _, h => h
  | .int _, _, _, h => h
  | .str _, _, _, h => h
  | .tup xs, v, _, ⟨p, vs, e, h1, h2⟩ => ⟨p, vs, e, h1, RepL.lift ag le h2⟩
  | .pr a b, v, _, ⟨p, x, y, e, h1, h2, h3⟩ => ⟨p, x, y, e, h1, ⟨h2.1, Rep.lift ag le h2.1 h2.2⟩, h3.1, Rep.lift ag le h3.1 h3.2⟩
  | .tmp xs, v, f, _ => f.elim
  | .frz xs, v, _, ⟨p, vs, e, h1, h3⟩ => ⟨p, vs, e, h1, RepL.lift ag le h3⟩
  | .loc l, v, _, ⟨h1, h2⟩ => ⟨Nat.lt_of_lt_of_le h1 le, by rw [ag l h1]; exact h2⟩
  | .dtm xs, v, f, _ => f.elim
theorem RepL.lift (ag : ∀ l, l < n → μ' l = μ l) (le : n ≤ n') : ∀ {xs : List A} {vs : List V}, RepL K μ n H xs vs → RepL K μ' n' H xs vs
  | [], _, h => h
  | _ :: _, _, ⟨v, r, e, h1, h2, h3⟩ => ⟨v, r, e, h1, Rep.lift ag le h1 h2, RepL.lift ag le h3⟩
theorem RepD.lift (ag : ∀ l, l < n → μ' l = μ l) (le : n ≤ n') : ∀ {xs : List (Key × A)} {vs : List (Key × V)}, RepD K μ n H xs vs → RepD K μ' n' H xs vs
  | [], _, h => h
  | (_, _) :: _, _, ⟨v, r, e, h1, h2, h3⟩ => ⟨v, r, e, h1, Rep.lift ag le h1 h2, RepD.lift ag le h3⟩
end
theorem RepO.lift {p : Addr} {o : O} (ag : ∀ l, l < n → μ' l = μ l) (le : n ≤ n') (h : RepO K μ n H p o) : RepO K μ' n' H p o := by
  cases o with
  | lst xs =>
    obtain ⟨vs, h1, h2⟩ := h
    exact ⟨vs, h1, h2.lift ag le⟩
  | dic xs =>
    obtain ⟨vs, h1, h2⟩ := h
    exact ⟨vs, h1, h2.lift ag le⟩
/-- a new object becomes one of the store -/
theorem RS.snoc {st : Sto} (S : RS K μ st H) {p : Addr} {o : O} (hp : ∀ l, l < st.length → μ l ≠ p) (hr : RepO K μ st.length H p o) :
    RS K (fun l => if l = st.length then p else μ l) (st ++ [o]) H := by
  have ag : ∀ l, l < st.length → (if l = st.length then p else μ l) = μ l := fun l h => by simp [Nat.ne_of_lt h]
  have ln : (st ++ [o]).length = st.length + 1 := by rw [List.length_append, List.length_singleton]
  refine ⟨fun l z e => ?_, fun l l' h1 h2 h => ?_⟩
  · rw [ln]
    have hl := (List.getElem?_eq_some_iff.mp e).1
    by_cases h : l < st.length
    · rw [List.getElem?_append_left h] at e
      rw [ag l h]
      exact (S.at_ l z e).lift ag (by omega)
    · have : l = st.length := by omega
      subst this
      rw [List.getElem?_append_right (Nat.le_refl _), Nat.sub_self] at e
      cases e
      rw [if_pos rfl]
      exact hr.lift ag (by omega)
  · rw [ln] at h1 h2
    by_cases h3 : l < st.length
    · by_cases h4 : l' < st.length
      · rw [ag l h3, ag l' h4] at h
        exact S.inj l l' h3 h4 h
      · have : l' = st.length := by omega
        subst this
        rw [ag l h3, if_pos rfl] at h
        exact absurd h (hp l h3)
    · have : l = st.length := by omega
      subst this
      by_cases h4 : l' < st.length
      · rw [ag l' h4, if_pos rfl] at h
        exact absurd h.symm (hp l' h4)
      · omega
/-- slots -/
structure RE (K : PySem.W.Frag) (μ : Nat → Addr) (n : Nat) (H : Hp) (σ : L2.St) (ρ : Rho) : Prop where
  len : σ.length = ρ.length
  at_ : ∀ (i : Nat) a, ρ[i]? = some (some a) → a.nt ∧ ∃ v, σ[i]? = some (some v) ∧ Rep K μ n H a v
theorem RE.ext {st : Sto} {σ : L2.St} {ρ : Rho} (h : RE K μ st.length H σ ρ) (S : RS K μ st H) (E : Ext μ st.length H μ' n' H') : RE K μ' n' H' σ ρ :=
  ⟨h.len, fun i a e => let ⟨h1, v, h2, h3⟩ := h.at_ i a e; ⟨h1, v, h2, h3.ext S E⟩⟩
theorem RE.set {σ : L2.St} {ρ : Rho} (h : RE K μ n H σ ρ) {i : Nat} {a : A} {v : V} (ha : a.nt) (r : Rep K μ n H a v) : RE K μ n H (σ.set i (some v)) (ρ.set i (some a)) := by
  refine ⟨by simp [h.len], fun j b e => ?_⟩
  by_cases hj : i = j
  · subst hj
    by_cases hi : i < ρ.length
    · rw [List.getElem?_set_self hi] at e
      cases e
      exact ⟨ha, v, List.getElem?_set_self (by rw [h.len]; exact hi), r⟩
    · rw [List.getElem?_eq_none (by simpa using hi)] at e
      cases e
  · rw [List.getElem?_set_ne hj] at e
    rw [List.getElem?_set_ne hj]
    exact h.at_ j b e
theorem RE.wipe1 {σ : L2.St} {ρ : Rho} (h : RE K μ n H σ ρ) {i : Nat} : RE K μ n H (σ.set i none) (ρ.set i none) := by
  refine ⟨by simp [h.len], fun j b e => ?_⟩
  by_cases hj : i = j
  · subst hj
    by_cases hi : i < ρ.length
    · rw [List.getElem?_set_self hi] at e
      cases e
    · rw [List.getElem?_eq_none (by simpa using hi)] at e
      cases e
  · rw [List.getElem?_set_ne hj] at e
    rw [List.getElem?_set_ne hj]
    exact h.at_ j b e
/-- a new object that is no object of the store -/
theorem RS.new {st : Sto} (S : RS K μ st H) {p : Addr} {o : HO} (h : H p = none) : RS K μ st (upd H p o) ∧ Ext μ st.length H μ st.length (upd H p o) := by
  have ext : Ext μ st.length H μ st.length (upd H p o) := ⟨Nat.le_refl _, fun _ _ => rfl, fun q u e _ => by rw [upd_ne (ne_of_none e h)]; exact e, fun q e => by
      by_cases hq : q = p
      · rw [hq]; exact h
      · rw [upd_ne hq] at e; exact e, fun l h1 h2 => absurd h1 (by omega)⟩
  refine ⟨⟨fun l u e => ?_, S.inj⟩, ext⟩
  have hl := (List.getElem?_eq_some_iff.mp e).1
  have h1 := S.at_ l u e
  cases u with
  | lst xs =>
    obtain ⟨vs, h2, h3⟩ := h1
    exact ⟨vs, by rw [upd_ne (S.ne_free h l hl)]; exact h2, h3.ext S ext⟩
  | dic xs =>
    obtain ⟨vs, h2, h3⟩ := h1
    exact ⟨vs, by rw [upd_ne (S.ne_free h l hl)]; exact h2, h3.ext S ext⟩
/-- an object of the store is written -/
theorem RS.put {st : Sto} (S : RS K μ st H) {l : Nat} (hl : l < st.length) {o : O} {u : HO} (hu : ∀ H', Ext μ st.length H μ st.length H' → H' (μ l) = some u → RepO K μ st.length H' (μ l) o) :
    RS K μ (st.set l o) (upd H (μ l) u) ∧ Ext μ st.length H μ (st.set l o).length (upd H (μ l) u) := by
  have ext : Ext μ st.length H μ st.length (upd H (μ l) u) := ⟨Nat.le_refl _, fun _ _ => rfl, fun q z e ne => by rw [upd_ne (fun h => ne l hl h.symm)]; exact e, fun q e => by
      by_cases hq : q = μ l
      · rw [hq, upd_same] at e; cases e
      · rw [upd_ne hq] at e; exact e, fun l h1 h2 => absurd h1 (by omega)⟩
  refine ⟨⟨fun k z e => ?_, fun a b h1 h2 => S.inj a b (by simpa using h1) (by simpa using h2)⟩, by rw [List.length_set]; exact ext⟩
  rw [List.length_set]
  by_cases hk : l = k
  · subst hk
    rw [List.getElem?_set_self hl] at e
    cases e
    exact hu _ ext upd_same
  · rw [List.getElem?_set_ne hk] at e
    have hkl := (List.getElem?_eq_some_iff.mp e).1
    have ne : μ k ≠ μ l := fun h => hk (S.inj k l hkl hl h).symm
    have h1 := S.at_ k z e
    cases z with
    | lst xs =>
      obtain ⟨vs, h2, h3⟩ := h1
      exact ⟨vs, by rw [upd_ne ne]; exact h2, h3.ext S ext⟩
    | dic xs =>
      obtain ⟨vs, h2, h3⟩ := h1
      exact ⟨vs, by rw [upd_ne ne]; exact h2, h3.ext S ext⟩
end
/-- a new value is new behind H -/
def Fresh (H : Hp) (a : A) (v : V) : Prop := a.nt ∨ ∃ p, v = .ref p ∧ H p = none
theorem Fresh.of {H : Hp} {a : A} {v : V} (h : a.nt) : Fresh H a v := .inl h
theorem Fresh.back {μ μ' : Nat → Addr} {n n' : Nat} {H H' : Hp} {a : A} {v : V} (E : Ext μ n H μ' n' H') (h : Fresh H' a v) : Fresh H a v := by
  rcases h with h | ⟨p, e, h⟩
  · exact .inl h
  · exact .inr ⟨p, e, E.so p h⟩
end Ev
namespace Ev
open PySem PySem.Spec PyProof.Rows L2 Gd
section
variable {X : Cx} {e : Expr}
theorem pe_weak {t t' : TE} (h : PE X e t) (w : ∀ σ H Q, t' σ H Q → t σ H Q) : PE X e t' := ⟨fun pins s σ H Q I q => h.run pins s σ H Q I (w σ H Q q)⟩
theorem pt_weak {t t' : TT} (h : PT X e t) (w : ∀ σ H Q, t' σ H Q → t σ H Q) : PT X e t' := ⟨fun pins s σ H Q I q => h.run pins s σ H Q I (w σ H Q q)⟩
theorem pw_weak {t t' : TT} (h : PW X e t) (w : ∀ σ H Q, t' σ H Q → t σ H Q) : PW X e t' := ⟨fun whole pins s σ H Q I q => h.run whole pins s σ H Q I (w σ H Q q)⟩
theorem pa_weak {es : List Expr} {t t' : TA} (h : PA X es t) (w : ∀ σ H Q, t' σ H Q → t σ H Q) : PA X es t' := ⟨fun pos pins s σ H Q I q => h.run pos pins s σ H Q I (w σ H Q q)⟩
theorem ps_weak {st : Stmt} {t t' : TS} (h : PS X st t) (w : ∀ D σ H, t' D σ H → t D σ H) : PS X st t' := ⟨fun pins s σ H D I q => h.run pins s σ H D I (w D σ H q)⟩
theorem pss_weak {st : List Stmt} {t t' : TS} (h : PSs X st t) (w : ∀ D σ H, t' D σ H → t D σ H) : PSs X st t' := ⟨fun pins s σ H D I q => h.run pins s σ H D I (w D σ H q)⟩
def rOr (r r' : R2) : R2 := fun x y H Q => r x y H Q ∨ r' x y H Q
theorem opr_or {f : Value → Value → Sem Value} {r r' : R2} (h : OpR X f r) (h' : OpR X f r') : OpR X f (rOr r r') := by
  rintro pins s σ H x y v u Q I rx ry (q | q)
  · exact h pins s σ H x y v u Q I rx ry q
  · exact h' pins s σ H x y v u Q I rx ry q
def rOrN (r r' : List V → Hp → VK → Prop) : List V → Hp → VK → Prop := fun x H Q => r x H Q ∨ r' x H Q
theorem cr_or {f : Value} {r r' : List V → Hp → VK → Prop} (h : CallR X f r) (h' : CallR X f r') : CallR X f (rOrN r r') := by
  rintro pins s σ H x v Q I rx (q | q)
  · exact h pins s σ H x v Q I rx q
  · exact h' pins s σ H x v Q I rx q
end
/-! ### expressions as functions -/
abbrev FE := Rho → Sto → R A
abbrev FA := Rho → Sto → R (List A)
abbrev FT := Rho → Sto → R Bool
abbrev F1 := A → Sto → R A
abbrev F2 := A → A → Sto → R A
abbrev FN := List A → Sto → R A
/-- what is reached behind: a value, the store -/
def Post (K : PySem.W.Frag) (μ : Nat → Addr) (n : Nat) (H : Hp) (a : A) (st' : Sto) (Q : VK) : Prop :=
  ∀ v μ' H', RS K μ' st' H' → Ext μ n H μ' st'.length H' → Rep K μ' st'.length H' a v → Fresh H a v → Q v H'
def tOf (K : PySem.W.Frag) (f : FE) : TE := fun σ H Q => ∃ μ st ρ a st', RS K μ st H ∧ RE K μ st.length H σ ρ ∧ f ρ st = .ok a st' ∧ Post K μ st.length H a st' Q
/-- some arguments, one after another -/
def aOf (K : PySem.W.Frag) (f : FA) : TA := fun σ H Q => ∃ μ st ρ as st', RS K μ st H ∧ RE K μ st.length H σ ρ ∧ f ρ st = .ok as st' ∧
  ∀ vs μ' H', RS K μ' st' H' → Ext μ st.length H μ' st'.length H' → Paired (Rep K μ' st'.length H') as vs → Q vs H'
/-- .. none of them a new list -/
def bOf (K : PySem.W.Frag) (f : FA) : TA := fun σ H Q => ∃ μ st ρ as st', RS K μ st H ∧ RE K μ st.length H σ ρ ∧ f ρ st = .ok as st' ∧
  ∀ vs μ' H', RS K μ' st' H' → Ext μ st.length H μ' st'.length H' → Paired (RN K μ' st'.length H') as vs → Q vs H'
def uOf (K : PySem.W.Frag) (f : FT) : TT := fun σ H Q => ∃ μ st ρ b st', RS K μ st H ∧ RE K μ st.length H σ ρ ∧ f ρ st = .ok b st' ∧
  ∀ μ' H', RS K μ' st' H' → Ext μ st.length H μ' st'.length H' → Q b H'
theorem Post.ok {K : PySem.W.Frag} {μ : Nat → Addr} {H : Hp} {a : A} {st : Sto} {Q : VK} {v : V} (h : Post K μ st.length H a st Q) (S : RS K μ st H) (r : Rep K μ st.length H a v) (hn : a.nt) : Q v H :=
  h v μ H S Ext.refl r (.of hn)
theorem Post.from {K : PySem.W.Frag} {μ μ' : Nat → Addr} {n n' : Nat} {H H' : Hp} {a : A} {st : Sto} {Q : VK} (h : Post K μ n H a st Q) (E : Ext μ n H μ' n' H') : Post K μ' n' H' a st Q :=
  fun v μ2 H2 S2 E2 r f => h v μ2 H2 S2 (E.trans E2) r (f.back E)
/-- a new list is laid -/
theorem Post.tmp {K : PySem.W.Frag} {μ : Nat → Addr} {H : Hp} {xs : List A} {st : Sto} {Q : VK} {p : Addr} {vs : List V} (h : Post K μ st.length H (.tmp xs) st Q) (S : RS K μ st H) (hp : H p = none) (r : RepL K μ st.length H xs vs) : Q (.ref p) (upd H p (.lst vs)) := by
  obtain ⟨S', E'⟩ := S.new (o := .lst vs) hp
  exact h _ μ _ S' E' ⟨p, vs, rfl, upd_same, S.ne_free hp, r.ext S E'⟩ (.inr ⟨p, rfl, hp⟩)
theorem Post.tup {K : PySem.W.Frag} {μ : Nat → Addr} {H : Hp} {xs : List A} {st : Sto} {Q : VK} {vs : List V} (h : Post K μ st.length H (.tup xs) st Q) (S : RS K μ st H) (r : RepL K μ st.length H xs vs) : NewT H vs Q := fun p ob hob hp => by
  obtain ⟨S', E'⟩ := S.new (o := .frz ob (.tup vs)) hp
  exact h _ μ _ S' E' ⟨p, vs, rfl, .inl ⟨ob, upd_same, hob⟩, r.ext S E'⟩ (.of trivial)
def fVar (i : Nat) : FE := fun ρ st => match ρ[i]? with
  | some (some a) => .ok a st
  | _ => .no
def fC (a : A) : FE := fun _ st => .ok a st
def locd : A → Sto → R A
  | .tmp xs, st => .ok (.loc st.length) (st ++ [.lst xs])
  | .dtm xs, st => .ok (.loc st.length) (st ++ [.dic xs])
  | a, st => .ok a st
def fB (f : FE) : FE := fun ρ st => match f ρ st with
  | .ok a st1 => locd a st1
  | .no => .no
def f1 (g : F1) (f : FE) : FE := fun ρ st => match f ρ st with
  | .ok a st1 => g a st1
  | .no => .no
def f2 (g : F2) (fa fb : FE) : FE := fun ρ st => match fa ρ st with
  | .ok a st1 => (match fb ρ st1 with
    | .ok b st2 => g a b st2
    | .no => .no)
  | .no => .no
def aN : FA := fun _ st => .ok [] st
def aC (f : FE) (g : FA) : FA := fun ρ st => match f ρ st with
  | .ok a st1 => (match g ρ st1 with
    | .ok as st2 => .ok (a :: as) st2
    | .no => .no)
  | .no => .no
def fN (g : FN) (f : FA) : FE := fun ρ st => match f ρ st with
  | .ok as st1 => g as st1
  | .no => .no
def tBn (K : PySem.W.Frag) (f : FE) : TE := fun σ H Q => ∃ μ st ρ a st', RS K μ st H ∧ RE K μ st.length H σ ρ ∧ fB f ρ st = .ok a st' ∧ 
    ∀ v μ' H', RS K μ' st' H' → Ext μ st.length H μ' st'.length H' → RN K μ' st'.length H' a v → Q v H'
section
variable {X : Cx} {K : PySem.W.Frag} {e a b : Expr} {es : List Expr} {fa fb f : FE} {g : FA} {pos : Pos}
theorem locd_nt {a b : A} {st st' : Sto} (h : locd a st = .ok b st') : b.nt := by
  cases a <;> (cases h; trivial)
theorem dx_var {i : Nat} {x : Str} (hN : X.N[i]? = some x) (hv : Vis X.env.scope x) (hd : (x == ("__debug__" : Str)) = false := by decide) (hcd : (x == ("__classdict__" : Str)) = false := by decide) : PE X (.Name x pos) (tOf K (fVar i)) := by
  refine pe_weak (pe_var hN hv hd hcd) ?_
  rintro σ H Q ⟨μ, st, ρ, a, st', S, E, h, q⟩
  unfold fVar at h
  split at h
  · rename_i a' h'
    cases h
    obtain ⟨hn, v, h1, h2⟩ := E.at_ i _ h'
    exact ⟨v, h1, q.ok S h2 hn⟩
  · cases h
theorem dx_c {t : TE} {c : A} {v : V} (h : PE X e (tC v)) (hr : ∀ μ n H, Rep K μ n H c v) (hn : c.nt := by trivial) : PE X e (tOf K (fC c)) := by
  refine pe_weak h ?_
  rintro σ H Q ⟨μ, st, ρ, a, st', S, E, h, q⟩
  cases h
  exact q.ok S (hr _ _ _) hn
theorem dx_int {i j pos} : PE X (.Constant (.int i) j pos) (tOf K (fC (.int i))) := dx_c (t := fun _ _ _ => True) pe_int fun _ _ _ => rfl
theorem dx_bl {i j pos} : PE X (.Constant (.bool i) j pos) (tOf K (fC (.bl i))) := dx_c (t := fun _ _ _ => True) pe_bl fun _ _ _ => rfl
theorem dx_non {j pos} : PE X (.Constant .none j pos) (tOf K (fC .non)) := dx_c (t := fun _ _ _ => True) pe_non fun _ _ _ => rfl
theorem dx_str {i j pos} : PE X (.Constant (.str i) j pos) (tOf K (fC (.str i))) := dx_c (t := fun _ _ _ => True) pe_str fun _ _ _ => rfl
/-- a new list becomes one of the store -/
theorem Post.locd {μ0 μ : Nat → Addr} {n0 : Nat} {H0 H : Hp} {a b : A} {st st' : Sto} {v : V} (S : RS K μ st H) (E : Ext μ0 n0 H0 μ st.length H) (r : Rep K μ st.length H a v) (f : Fresh H0 a v) (h : Ev.locd a st = .ok b st') :
    ∃ μ', RS K μ' st' H ∧ Ext μ0 n0 H0 μ' st'.length H ∧ Rep K μ' st'.length H b v ∧ b.nt := by
  have main : ∀ (o : O) (p : Addr), (∀ l, l < st.length → μ l ≠ p) → RepO K μ st.length H p o → H0 p = none → 
      ∃ μ', RS K μ' (st ++ [o]) H ∧ Ext μ0 n0 H0 μ' (st ++ [o]).length H ∧ Rep K μ' (st ++ [o]).length H (.loc st.length) (.ref p) ∧ (A.loc st.length).nt := by
    intro o p ne ro fr
    have ln : (st ++ [o]).length = st.length + 1 := by rw [List.length_append, List.length_singleton]
    refine ⟨_, S.snoc ne ro, ?_, ⟨by rw [ln]; omega, by simp⟩, trivial⟩
    rw [ln]
    refine ⟨Nat.le_trans E.le (by omega), fun l hl => ?_, E.fr, E.so, fun l h1 h2 => ?_⟩
    · have := E.le
      show (if l = st.length then p else μ l) = μ0 l
      rw [if_neg (by omega)]
      exact E.ag l hl
    · show H0 (if l = st.length then p else μ l) = none
      by_cases h3 : l = st.length
      · rw [if_pos h3]
        exact fr
      · rw [if_neg h3]
        exact E.nw l h1 (by omega)
  cases a with
  | tmp xs =>
    cases h
    obtain ⟨p, vs, rfl, h1, h2, h3⟩ := r
    rcases f with f | ⟨q, e, f⟩
    · exact f.elim
    cases e
    exact main _ p h2 ⟨vs, h1, h3⟩ f
  | dtm xs =>
    cases h
    obtain ⟨p, vs, rfl, h1, h2, h3⟩ := r
    rcases f with f | ⟨q, e, f⟩
    · exact f.elim
    cases e
    exact main _ p h2 ⟨vs, h1, h3⟩ f
  | _ => cases h; exact ⟨μ, S, E, r, trivial⟩
/-- a value that may be kept -/
theorem dx_b (h : PE X e (tOf K f)) : PE X e (tOf K (fB f)) := by
  refine pe_weak h ?_
  rintro σ H Q ⟨μ, st, ρ, a, st', S, E, h, q⟩
  unfold fB at h
  split at h
  · rename_i a1 st1 h1
    refine ⟨μ, st, ρ, a1, st1, S, E, h1, fun v μ1 H1 S1 E1 r1 f1 => ?_⟩
    obtain ⟨μ2, S2, E2, r2, n2⟩ := Post.locd S1 E1 r1 f1 h
    exact q v μ2 H1 S2 E2 r2 (.of n2)
  · cases h
/-- the nt part of it -/
theorem dx_bn (h : PE X e (tOf K f)) : PE X e (tBn K f) := by
  refine pe_weak h ?_
  rintro σ H Q ⟨μ, st, ρ, a, st', S, E, h, q⟩
  unfold fB at h
  split at h
  · rename_i a1 st1 h1
    refine ⟨μ, st, ρ, a1, st1, S, E, h1, fun v μ1 H1 S1 E1 r1 f1 => ?_⟩
    obtain ⟨μ2, S2, E2, r2, n2⟩ := Post.locd S1 E1 r1 f1 h
    exact q v μ2 H1 S2 E2 ⟨n2, r2⟩
  · cases h
theorem RN.ext {μ μ' : Nat → Addr} {st : Sto} {H H' : Hp} {n' : Nat} {a : A} {v : V} (h : RN K μ st.length H a v) (S : RS K μ st H) (E : Ext μ st.length H μ' n' H') : RN K μ' n' H' a v := ⟨h.1, h.2.ext S E⟩
theorem pdR.ext {μ μ' : Nat → Addr} {st : Sto} {H H' : Hp} {n' : Nat} {as : List A} {vs : List V} (h : Paired (Rep K μ st.length H) as vs) (S : RS K μ st H) (E : Ext μ st.length H μ' n' H') : Paired (Rep K μ' n' H') as vs := h.mono fun _ _ r => r.ext S E
theorem pdN.ext {μ μ' : Nat → Addr} {st : Sto} {H H' : Hp} {n' : Nat} {as : List A} {vs : List V} (h : Paired (RN K μ st.length H) as vs) (S : RS K μ st H) (E : Ext μ st.length H μ' n' H') : Paired (RN K μ' n' H') as vs := h.mono fun _ _ r => r.ext S E
/-! arguments -/
theorem da_nil : PA X [] (aOf K aN) := by
  refine pa_weak pa_nil ?_
  rintro σ H Q ⟨μ, st, ρ, a, st', S, E, h, q⟩
  cases h
  exact q [] μ H S Ext.refl .nil
theorem da_cons (he : PE X e (tOf K f)) (hr : PA X es (aOf K g)) (hs : starEach (e :: es) X.env = (false, eval e X.env) :: starEach es X.env := by rfl) : PA X (e :: es) (aOf K (aC f g)) := by
  refine pa_weak (pa_cons he hr hs) ?_
  rintro σ H Q ⟨μ, st, ρ, a, st', S, E, h, q⟩
  unfold aC at h
  split at h
  · rename_i a1 st1 h1
    split at h
    · rename_i as st2 h2
      cases h
      refine ⟨μ, st, ρ, a1, st1, S, E, h1, fun v μ1 H1 S1 E1 r1 f1 => ?_⟩
      refine ⟨μ1, st1, ρ, as, st', S1, E.ext S E1, h2, fun vs μ2 H2 S2 E2 r2 => ?_⟩
      exact q (v :: vs) μ2 H2 S2 (E1.trans E2) (.cons (r1.ext S1 E2) r2)
    · cases h
  · cases h
theorem db_nil : PA X [] (bOf K aN) := by
  refine pa_weak pa_nil ?_
  rintro σ H Q ⟨μ, st, ρ, a, st', S, E, h, q⟩
  cases h
  exact q [] μ H S Ext.refl .nil
theorem db_cons (he : PE X e (tOf K f)) (hr : PA X es (bOf K g)) (hs : starEach (e :: es) X.env = (false, eval e X.env) :: starEach es X.env := by rfl) : PA X (e :: es) (bOf K (aC (fB f) g)) := by
  refine pa_weak (pa_cons (dx_bn he) hr hs) ?_
  rintro σ H Q ⟨μ, st, ρ, a, st', S, E, h, q⟩
  unfold aC at h
  split at h
  · rename_i a1 st1 h1
    split at h
    · rename_i as st2 h2
      cases h
      refine ⟨μ, st, ρ, a1, st1, S, E, h1, fun v μ1 H1 S1 E1 r1 => ?_⟩
      refine ⟨μ1, st1, ρ, as, st', S1, E.ext S E1, h2, fun vs μ2 H2 S2 E2 r2 => ?_⟩
      exact q (v :: vs) μ2 H2 S2 (E1.trans E2) (.cons (r1.ext S1 E2) r2)
    · cases h
  · cases h
/-! operators and calls, by values -/
def Op2 (K : PySem.W.Frag) (r : R2) (g : F2) : Prop := ∀ {μ st H a b c st' v u Q}, RS K μ st H → Rep K μ st.length H a v → Rep K μ st.length H b u → g a b st = .ok c st' → Post K μ st.length H c st' Q → r v u H Q
def OpN (K : PySem.W.Frag) (r : List V → Hp → VK → Prop) (g : FN) : Prop := ∀ {μ st H as c st' vs Q}, RS K μ st H → Paired (Rep K μ st.length H) as vs → g as st = .ok c st' → Post K μ st.length H c st' Q → r vs H Q
theorem w_op {r : R2} {gg : F2} (hg : Op2 K r gg) {σ : L2.St} {H : Hp} {Q : VK} (h : tOf K (f2 gg fa fb) σ H Q) : tOp r (tOf K fa) (tOf K fb) σ H Q := by
  obtain ⟨μ, st, ρ, a, st', S, E, h, q⟩ := h
  unfold f2 at h
  split at h
  · rename_i a1 st1 h1
    split at h
    · rename_i b1 st2 h2
      refine ⟨μ, st, ρ, a1, st1, S, E, h1, fun v μ1 H1 S1 E1 r1 _ => ?_⟩
      refine ⟨μ1, st1, ρ, b1, st2, S1, E.ext S E1, h2, fun u μ2 H2 S2 E2 r2 _ => ?_⟩
      exact hg S2 (r1.ext S1 E2) r2 h (q.from (E1.trans E2))
    · cases h
  · cases h
theorem dx_op {op : Operator} {r : R2} {gg : F2} (ho : OpR X (binaryOp op) r) (hg : Op2 K r gg) (ha : PE X a (tOf K fa)) (hb : PE X b (tOf K fb)) : PE X (.BinOp a op b pos) (tOf K (f2 gg fa fb)) :=
  pe_weak (pe_op ho ha hb) fun _ _ _ h => w_op hg h
theorem dx_cmp {op : CmpOp} {r : R2} {gg : F2} (ho : OpR X (compareOp op) r) (hg : Op2 K r gg) (ha : PE X a (tOf K fa)) (hb : PE X b (tOf K fb)) (hm : behindInMarks op b = false) : PE X (.Compare a [op] [b] pos) (tOf K (f2 gg fa fb)) :=
  pe_weak (pe_cmpR ho ha hb hm) fun _ _ _ h => w_op hg h
theorem dx_ix {r : R2} {gg : F2} (hr : IxR X r) (hg : Op2 K r gg) (ha : PE X a (tOf K fa)) (hb : PE X b (tOf K fb)) (hs : PlainIx b) : PE X (.Subscript a b pos) (tOf K (f2 gg fa fb)) :=
  pe_weak (pe_ix hr ha hb hs) fun _ _ _ h => w_op hg h
theorem w_call {r : List V → Hp → VK → Prop} {gg : FN} (hg : OpN K r gg) {σ : L2.St} {H : Hp} {Q : VK} (h : tOf K (fN gg g) σ H Q) : tCB r (aOf K g) σ H Q := by
  obtain ⟨μ, st, ρ, a, st', S, E, h, q⟩ := h
  unfold fN at h
  split at h
  · rename_i as st1 h1
    exact ⟨μ, st, ρ, as, st1, S, E, h1, fun vs μ1 H1 S1 E1 r1 => hg S1 r1 h (q.from E1)⟩
  · cases h
theorem dx_callB {x : Str} {id : String} {p : Pos} {r : List V → Hp → VK → Prop} {gg : FN} (hc : CallR X (.builtin id) r) (hg : OpN K r gg) (ha : PA X (e :: es) (aOf K g)) (hm : X.mg x = none) (hv : bootBuiltins x = some (.builtin id)) (hgl : Gl X x := by rfl) (hn : x ≠ "__name__" := by decide) (hdb : (x == ("__debug__" : Str)) = false := by decide)
    (he : starEach (e :: es) X.env = (false, eval e X.env) :: starEach es X.env := by rfl) (hpl : (backTo pos (starEach es X.env)).any (·.1) = false := by rfl) : PE X (.Call (.Name x p) (e :: es) [] pos) (tOf K (fN gg g)) :=
  pe_weak (pe_callB hc hgl hm hv ha hn hdb he hpl) fun _ _ _ h => w_call hg h
theorem dx_callTy {x : Str} {T : String} {p : Pos} {r : List V → Hp → VK → Prop} {gg : FN} (hc : CallR X (.type T) r) (hg : OpN K r gg) (ha : PA X (e :: es) (aOf K g)) (hm : X.mg x = none) (hv : bootBuiltins x = some (.type T)) (hgl : Gl X x := by rfl) (hn : x ≠ "__name__" := by decide) (hdb : (x == ("__debug__" : Str)) = false := by decide)
    (he : starEach (e :: es) X.env = (false, eval e X.env) :: starEach es X.env := by rfl) (hpl : (backTo pos (starEach es X.env)).any (·.1) = false := by rfl) : PE X (.Call (.Name x p) (e :: es) [] pos) (tOf K (fN gg g)) :=
  pe_weak (pe_callTy hc hgl hm hv ha hn hdb he hpl) fun _ _ _ h => w_call hg h
/-- an own def's promise -/
def spOf (K : PySem.W.Frag) (c : FN) : Sp := fun vs H Q _ => ∃ μ st as a st', RS K μ st H ∧ Paired (RN K μ st.length H) as vs ∧ c as st = .ok a st' ∧ Post K μ st.length H a st' Q
theorem dx_call {x : Str} {p : Pos} {k : Nat} {ps : List Str} {c : FN} (C : Cal X.prog X.w X.K X.mg X.base k x ps (spOf K c)) (still : Still X.A) (hr : Room k X.A) (ha : PA X (e :: es) (bOf K g)) (hg : Gl X x := by rfl) (hdb : (x == ("__debug__" : Str)) = false := by decide)
    (he : starEach (e :: es) X.env = (false, eval e X.env) :: starEach es X.env := by rfl) (hpl : (backTo pos (starEach es X.env)).any (·.1) = false := by rfl) : PE X (.Call (.Name x p) (e :: es) [] pos) (tOf K (fN c g)) := by
  refine pe_weak (pe_cal C still hr ha hg hdb he hpl) ?_
  rintro σ H Q ⟨μ, st, ρ, a, st', S, E, h, q⟩
  unfold fN at h
  split at h
  · rename_i as st1 h1
    refine ⟨μ, st, ρ, as, st1, S, E, h1, fun vs μ1 H1 S1 E1 r1 => ?_⟩
    show spOf K c (vs ++ []) H1 Q E0
    rw [List.append_nil]
    exact ⟨μ1, st1, as, a, st', S1, r1, h, q.from E1⟩
  · cases h
end
end Ev
namespace Ev
open PySem PySem.Spec PyProof.Rows L2 Gd
/-! ### tests -/
def uNot (f : FT) : FT := fun ρ st => match f ρ st with
  | .ok b st1 => .ok (!b) st1
  | .no => .no
def uAnd (f g : FT) : FT := fun ρ st => match f ρ st with
  | .ok true st1 => g ρ st1
  | .ok false st1 => .ok false st1
  | .no => .no
def uOr (f g : FT) : FT := fun ρ st => match f ρ st with
  | .ok true st1 => .ok true st1
  | .ok false st1 => g ρ st1
  | .no => .no
def uB (f : FE) : FT := fun ρ st => match f ρ st with
  | .ok (.bl b) st1 => .ok b st1
  | _ => .no
/-- a value's truth -/
def tru (a : A) (st : Sto) : Option Bool := match a with
  | .non => some false
  | .bl b => some b
  | .int i => some (i != 0)
  | .str y => if y.length ≤ sizeLine then some ((y.length : Int) != 0) else none
  | .tup xs => some (!xs.isEmpty)
  | .pr _ _ => some true
  | .tmp xs => some (!xs.isEmpty)
  | .frz xs => some (!xs.isEmpty)
  | .dtm xs => some (!xs.isEmpty)
  | .loc l => match st[l]? with
    | some (.lst xs) => some (!xs.isEmpty)
    | some (.dic xs) => some (!xs.isEmpty)
    | none => none
def uT (f : FE) : FT := fun ρ st => match f ρ st with
  | .ok a st1 => (match tru a st1 with
    | some b => .ok b st1
    | none => .no)
  | .no => .no
def fIf (c : FT) (f g : FE) : FE := fun ρ st => match c ρ st with
  | .ok true st1 => f ρ st1
  | .ok false st1 => g ρ st1
  | .no => .no
/-- and, or of truth values, as a value -/
def fAnd (f g : FE) : FE := fun ρ st => match f ρ st with
  | .ok (.bl true) st1 => g ρ st1
  | .ok (.bl false) st1 => .ok (.bl false) st1
  | _ => .no
def fOr (f g : FE) : FE := fun ρ st => match f ρ st with
  | .ok (.bl true) st1 => .ok (.bl true) st1
  | .ok (.bl false) st1 => g ρ st1
  | _ => .no
def fNot (f : FE) : FE := fun ρ st => match f ρ st with
  | .ok (.bl b) st1 => .ok (.bl (!b)) st1
  | _ => .no
section
variable {X : Cx} {K : PySem.W.Frag} {e a b c : Expr} {es rest : List Expr} {fa fb f : FE} {u v : FT} {pos : Pos}
theorem tru_v {μ : Nat → Addr} {st : Sto} {H : Hp} {a : A} {x : V} {k : Bool} (S : RS K μ st H) (r : Rep K μ st.length H a x) (h : tru a st = some k) : TruV K x H k := by
  have em : ∀ {xs : List A} {vs : List V}, RepL K μ st.length H xs vs → (!xs.isEmpty) = !vs.isEmpty := fun h => by cases repL_iff.mp h <;> rfl
  have emD : ∀ {xs : List (Key × A)} {vs : List (Key × V)}, RepD K μ st.length H xs vs → (!xs.isEmpty) = !vs.isEmpty := fun h => by cases repD_iff.mp h <;> rfl
  cases a with
  | non => cases (show x = .non from r); cases h; rfl
  | bl b => cases (show x = .bl b from r); cases h; rfl
  | int b => cases (show x = .int b from r); cases h; rfl
  | str y =>
    cases (show x = .str y from r)
    unfold tru at h
    by_cases hy : y.length ≤ sizeLine
    · simp only [hy, if_true] at h
      cases h
      exact ⟨hy, rfl⟩
    · simp only [hy, if_false] at h
      cases h
  | tup xs =>
    obtain ⟨p, vs, rfl, h1, h2⟩ := r
    cases h
    exact .inr (.inl ⟨vs, h1.sq, em h2⟩)
  | pr a b =>
    obtain ⟨p, x, y, rfl, h1, _⟩ := r
    cases h
    exact .inr (.inl ⟨_, .inl (.inl h1), rfl⟩)
  | tmp xs =>
    obtain ⟨p, vs, rfl, h1, _, h2⟩ := r
    cases h
    exact .inl ⟨vs, .inl (.inl h1), em h2⟩
  | frz xs =>
    obtain ⟨p, vs, rfl, h1, h2⟩ := r
    cases h
    refine .inl ⟨vs, ?_, em h2⟩
    rcases h1 with ⟨o, h1⟩ | h1
    · exact .inl (.inr ⟨o, h1⟩)
    · exact .inr h1
  | dtm xs =>
    obtain ⟨p, vs, rfl, h1, _, h2⟩ := r
    cases h
    exact .inr (.inr ⟨vs, h1, emD h2⟩)
  | loc l =>
    obtain ⟨h1, rfl⟩ := r
    unfold tru at h
    simp only at h
    have z := S.at_ l st[l] (List.getElem?_eq_getElem h1)
    rw [List.getElem?_eq_getElem h1] at h
    generalize st[l] = o at h z
    cases o with
    | lst xs =>
      cases h
      obtain ⟨vs, h2, h3⟩ := z
      exact .inl ⟨vs, .inl (.inl h2), em h3⟩
    | dic xs =>
      cases h
      obtain ⟨vs, h2, h3⟩ := z
      exact .inr (.inr ⟨vs, h2, emD h3⟩)
theorem dt_truth (hK : X.K = K) (h : PE X e (tOf K f)) (he : ∀ whole, isTrue e X.env whole = (do let v ← whole; standAt e.pos; holding [v] (truthy v)) := by intro _; rfl) : PT X e (uOf K (uT f)) := by
  refine pt_weak (pt_truth h he) ?_
  rintro σ H Q ⟨μ, st, ρ, b, st', S, E, h, q⟩
  unfold uT at h
  split at h
  · rename_i a1 st1 h1
    split at h
    · rename_i k h2
      cases h
      refine ⟨μ, st, ρ, a1, st', S, E, h1, fun v μ1 H1 S1 E1 r1 f1 => ⟨b, ?_, q μ1 H1 S1 E1⟩⟩
      rw [hK]
      exact tru_v S1 r1 h2
    · cases h
  · cases h
theorem w_bool {σ : L2.St} {H : Hp} {Q : Bool → Hp → Prop} (h : uOf K (uB f) σ H Q) : tOf K f σ H fun x H' => ∃ k, x = .bl k ∧ Q k H' := by
  obtain ⟨μ, st, ρ, b, st', S, E, h, q⟩ := h
  unfold uB at h
  split at h
  · rename_i b1 st1 h1
    cases h
    exact ⟨μ, st, ρ, _, _, S, E, h1, fun v μ1 H1 S1 E1 r1 f1 => ⟨_, r1, q μ1 H1 S1 E1⟩⟩
  · cases h
theorem dt_cmp {op : CmpOp} {r : R2} {gg : F2} (ho : OpR X (compareOp op) r) (hg : Op2 K r gg) (ha : PE X a (tOf K fa)) (hb : PE X b (tOf K fb)) (hm : behindInMarks op b = false) : PT X (.Compare a [op] [b] pos) (uOf K (uB (f2 gg fa fb))) := by
  refine pt_weak (pt_cmpR ho ha hb hm) fun σ H Q h => ?_
  exact w_op hg (w_bool h)
theorem dt_not (h : PT X a (uOf K u)) : PT X (.UnaryOp .Not a pos) (uOf K (uNot u)) := by
  refine pt_weak (pt_not h) ?_
  rintro σ H Q ⟨μ, st, ρ, b, st', S, E, h, q⟩
  unfold uNot at h
  split at h
  · rename_i b1 st1 h1
    cases h
    exact ⟨μ, st, ρ, _, _, S, E, h1, fun μ1 H1 S1 E1 => q μ1 H1 S1 E1⟩
  · cases h
theorem w_and {σ : L2.St} {H : Hp} {Q : Bool → Hp → Prop} (h : uOf K (uAnd u v) σ H Q) : tAnd (uOf K u) (uOf K v) σ H Q := by
  obtain ⟨μ, st, ρ, b, st', S, E, h, q⟩ := h
  unfold uAnd at h
  split at h
  · rename_i st1 h1
    exact ⟨μ, st, ρ, _, _, S, E, h1, fun μ1 H1 S1 E1 => iteT ⟨μ1, _, ρ, b, st', S1, E.ext S E1, h, fun μ2 H2 S2 E2 => q μ2 H2 S2 (E1.trans E2)⟩⟩
  · rename_i st1 h1
    cases h
    exact ⟨μ, st, ρ, _, _, S, E, h1, fun μ1 H1 S1 E1 => iteF (q μ1 H1 S1 E1)⟩
  · cases h
theorem w_or {σ : L2.St} {H : Hp} {Q : Bool → Hp → Prop} (h : uOf K (uOr u v) σ H Q) : tOr (uOf K u) (uOf K v) σ H Q := by
  obtain ⟨μ, st, ρ, b, st', S, E, h, q⟩ := h
  unfold uOr at h
  split at h
  · rename_i st1 h1
    cases h
    exact ⟨μ, st, ρ, _, _, S, E, h1, fun μ1 H1 S1 E1 => iteT (q μ1 H1 S1 E1)⟩
  · rename_i st1 h1
    exact ⟨μ, st, ρ, _, _, S, E, h1, fun μ1 H1 S1 E1 => iteF ⟨μ1, _, ρ, b, st', S1, E.ext S E1, h, fun μ2 H2 S2 E2 => q μ2 H2 S2 (E1.trans E2)⟩⟩
  · cases h
theorem dw_and1 (h : PT X a (uOf K u)) : PW X (.BoolOp .And [a] pos) (uOf K u) := pw_and1 h
theorem dw_or1 (h : PT X a (uOf K u)) : PW X (.BoolOp .Or [a] pos) (uOf K u) := pw_or1 h
theorem dw_and (h : PT X a (uOf K u)) (h2 : PW X (.BoolOp .And (b :: rest) pos) (uOf K v)) : PW X (.BoolOp .And (a :: b :: rest) pos) (uOf K (uAnd u v)) := pw_weak (pw_and h h2) fun _ _ _ h => w_and h
theorem dw_or (h : PT X a (uOf K u)) (h2 : PW X (.BoolOp .Or (b :: rest) pos) (uOf K v)) : PW X (.BoolOp .Or (a :: b :: rest) pos) (uOf K (uOr u v)) := pw_weak (pw_or h h2) fun _ _ _ h => w_or h
theorem dx_ifExp (h : PT X c (uOf K u)) (ha : PE X a (tOf K fa)) (hb : PE X b (tOf K fb)) : PE X (.IfExp c a b pos) (tOf K (fIf u fa fb)) := by
  refine pe_weak (pe_ifExp h ha hb) ?_
  rintro σ H Q ⟨μ, st, ρ, b, st', S, E, h, q⟩
  unfold fIf at h
  split at h
  · rename_i st1 h1
    exact ⟨μ, st, ρ, _, _, S, E, h1, fun μ1 H1 S1 E1 => iteT ⟨μ1, _, ρ, b, st', S1, E.ext S E1, h, q.from E1⟩⟩
  · rename_i st1 h1
    exact ⟨μ, st, ρ, _, _, S, E, h1, fun μ1 H1 S1 E1 => iteF ⟨μ1, _, ρ, b, st', S1, E.ext S E1, h, q.from E1⟩⟩
  · cases h
theorem dx_and (ha : PE X a (tOf K fa)) (hb : PE X (.BoolOp .And (b :: rest) pos) (tOf K fb)) : PE X (.BoolOp .And (a :: b :: rest) pos) (tOf K (fAnd fa fb)) := by
  refine pe_weak (pe_and ha hb) ?_
  rintro σ H Q ⟨μ, st, ρ, z, st', S, E, h, q⟩
  unfold fAnd at h
  split at h
  · rename_i st1 h1
    exact ⟨μ, st, ρ, _, _, S, E, h1, fun x μ1 H1 S1 E1 r1 f1 => ⟨_, r1, iteT ⟨μ1, _, ρ, z, st', S1, E.ext S E1, h, q.from E1⟩⟩⟩
  · rename_i st1 h1
    cases h
    exact ⟨μ, st, ρ, _, _, S, E, h1, fun x μ1 H1 S1 E1 r1 f1 => ⟨_, r1, iteF (q _ μ1 H1 S1 E1 rfl (.of trivial))⟩⟩
  · cases h
theorem dx_or (ha : PE X a (tOf K fa)) (hb : PE X (.BoolOp .Or (b :: rest) pos) (tOf K fb)) : PE X (.BoolOp .Or (a :: b :: rest) pos) (tOf K (fOr fa fb)) := by
  refine pe_weak (pe_or ha hb) ?_
  rintro σ H Q ⟨μ, st, ρ, z, st', S, E, h, q⟩
  unfold fOr at h
  split at h
  · rename_i st1 h1
    cases h
    exact ⟨μ, st, ρ, _, _, S, E, h1, fun x μ1 H1 S1 E1 r1 f1 => ⟨_, r1, iteT (q _ μ1 H1 S1 E1 rfl (.of trivial))⟩⟩
  · rename_i st1 h1
    exact ⟨μ, st, ρ, _, _, S, E, h1, fun x μ1 H1 S1 E1 r1 f1 => ⟨_, r1, iteF ⟨μ1, _, ρ, z, st', S1, E.ext S E1, h, q.from E1⟩⟩⟩
  · cases h
theorem dx_not (ha : PE X a (tOf K fa)) : PE X (.UnaryOp .Not a pos) (tOf K (fNot fa)) := by
  refine pe_weak (pe_not ha) ?_
  rintro σ H Q ⟨μ, st, ρ, z, st', S, E, h, q⟩
  unfold fNot at h
  split at h
  · rename_i b1 st1 h1
    cases h
    exact ⟨μ, st, ρ, _, _, S, E, h1, fun x μ1 H1 S1 E1 r1 f1 => ⟨_, r1, q _ μ1 H1 S1 E1 rfl (.of trivial)⟩⟩
  · cases h
/-! displays -/
def mkTup (as : List A) (st : Sto) : R A := if as.length ≤ sizeLine then .ok (.tup as) st else .no
def mkLst (as : List A) (st : Sto) : R A := if as.length ≤ sizeLine then .ok (.tmp as) st else .no
theorem dx_tup {x1} {g : FA} (h : PA X es (bOf K g)) : PE X (.Tuple es x1 pos) (tOf K (fN mkTup g)) := by
  refine pe_weak (pe_tupX h) ?_
  rintro σ H Q ⟨μ, st, ρ, z, st', S, E, h, q⟩
  unfold fN at h
  split at h
  · rename_i as st1 h1
    unfold mkTup at h
    split at h
    · rename_i hl
      cases h
      exact ⟨μ, st, ρ, as, st', S, E, h1, fun vs μ1 H1 S1 E1 r1 => ⟨by rw [← r1.length]; exact hl, (q.from E1).tup S1 (repL_iff.mpr r1)⟩⟩
    · cases h
  · cases h
theorem dx_lst {g : FA} (h : PA X es (bOf K g)) : PE X (.List es pos) (tOf K (fN mkLst g)) := by
  refine pe_weak (pe_lst h) ?_
  rintro σ H Q ⟨μ, st, ρ, z, st', S, E, h, q⟩
  unfold fN at h
  split at h
  · rename_i as st1 h1
    unfold mkLst at h
    split at h
    · rename_i hl
      cases h
      exact ⟨μ, st, ρ, as, st', S, E, h1, fun vs μ1 H1 S1 E1 r1 => ⟨by rw [← r1.length]; exact hl, fun p hp => (q.from E1).tmp S1 hp (repL_iff.mpr r1)⟩⟩
    · cases h
  · cases h
end
end Ev
namespace Ev
open PySem PySem.Spec PyProof.Rows L2 Gd
/-! ### statements -/
inductive SR where
  | nx (ρ : Rho) (st : Sto) | rt (a : A) (st : Sto) | bk (ρ : Rho) (st : Sto) | ct (ρ : Rho) (st : Sto) | no
abbrev FS := Rho → Sto → SR
abbrev FG := A → Rho → Sto → R Rho
abbrev FGs := List A → Rho → Sto → R Rho
def Reach (K : PySem.W.Frag) (μ : Nat → Addr) (n : Nat) (H : Hp) (ρ' : Rho) (st' : Sto) (Q : L2.St → Hp → Prop) : Prop :=
  ∀ σ' μ' H', RS K μ' st' H' → RE K μ' st'.length H' σ' ρ' → Ext μ n H μ' st'.length H' → Q σ' H'
def SPost (K : PySem.W.Frag) (μ : Nat → Addr) (n : Nat) (H : Hp) (D : Ends) : SR → Prop
  | .nx ρ' st' => Reach K μ n H ρ' st' D.nx
  | .rt a st' => Post K μ n H a st' D.rt
  | .bk ρ' st' => Reach K μ n H ρ' st' D.bk
  | .ct ρ' st' => Reach K μ n H ρ' st' D.ct
  | .no => False
def sOf (K : PySem.W.Frag) (g : FS) : TS := fun D σ H => ∃ μ st ρ, RS K μ st H ∧ RE K μ st.length H σ ρ ∧ SPost K μ st.length H D (g ρ st)
def gOf (K : PySem.W.Frag) (g : FG) : TG := fun v σ H Q => ∃ μ st ρ a ρ' st', RS K μ st H ∧ RE K μ st.length H σ ρ ∧ RN K μ st.length H a v ∧ g a ρ st = .ok ρ' st' ∧ Reach K μ st.length H ρ' st' Q
def gsOf (K : PySem.W.Frag) (g : FGs) : TGs := fun vs σ H Q => ∃ μ st ρ as ρ' st', RS K μ st H ∧ RE K μ st.length H σ ρ ∧ Paired (RN K μ st.length H) as vs ∧ g as ρ st = .ok ρ' st' ∧ Reach K μ st.length H ρ' st' Q
section
variable {K : PySem.W.Frag} {μ μ' : Nat → Addr} {n n' : Nat} {H H' : Hp} {D : Ends} {r : SR} {ρ : Rho} {st : Sto} {Q : L2.St → Hp → Prop}
theorem Reach.from (h : Reach K μ n H ρ st Q) (E : Ext μ n H μ' n' H') : Reach K μ' n' H' ρ st Q := fun σ μ2 H2 S2 R2 E2 => h σ μ2 H2 S2 R2 (E.trans E2)
theorem Reach.ok {σ : L2.St} (h : Reach K μ st.length H ρ st Q) (S : RS K μ st H) (R : RE K μ st.length H σ ρ) : Q σ H := h σ μ H S R Ext.refl
theorem SPost.from (h : SPost K μ n H D r) (E : Ext μ n H μ' n' H') : SPost K μ' n' H' D r := by
  cases r with
  | nx ρ st => exact Reach.from h E
  | rt a st => exact Post.from h E
  | bk ρ st => exact Reach.from h E
  | ct ρ st => exact Reach.from h E
  | no => exact h
end
def sSeq (g h : FS) : FS := fun ρ st => match g ρ st with
  | .nx ρ' st' => h ρ' st'
  | .rt a st' => .rt a st'
  | .bk ρ' st' => .bk ρ' st'
  | .ct ρ' st' => .ct ρ' st'
  | .no => .no
def sNil : FS := fun ρ st => .nx ρ st
def sBrk : FS := fun ρ st => .bk ρ st
def sCnt : FS := fun ρ st => .ct ρ st
def sExp (f : FE) : FS := fun ρ st => match f ρ st with
  | .ok _ st1 => .nx ρ st1
  | .no => .no
def sRet (f : FE) : FS := fun ρ st => match f ρ st with
  | .ok a st1 => .rt a st1
  | .no => .no
def sIf (u : FT) (g h : FS) : FS := fun ρ st => match u ρ st with
  | .ok true st1 => g ρ st1
  | .ok false st1 => h ρ st1
  | .no => .no
def gSet (i : Nat) : FG := fun a ρ st => .ok (ρ.set i (some a)) st
def gN : FGs := fun as ρ st => match as with
  | [] => .ok ρ st
  | _ :: _ => .no
def gC (g : FG) (gs : FGs) : FGs := fun as ρ st => match as with
  | [] => .no
  | a :: r => (match g a ρ st with
    | .ok ρ1 st1 => gs r ρ1 st1
    | .no => .no)
def gTupF (n : Nat) (gs : FGs) : FG := fun a ρ st => match a with
  | .tup xs => if xs.length = n then gs xs ρ st else .no
  | .pr a b => if 2 = n then gs [a, b] ρ st else .no
  | _ => .no
def sAsg (f : FE) (g : FG) : FS := fun ρ st => match fB f ρ st with
  | .ok a st1 => (match g a ρ st1 with
    | .ok ρ2 st2 => .nx ρ2 st2
    | .no => .no)
  | .no => .no
def sPar (i j : Nat) (g : FA) : FS := fun ρ st => match g ρ st with
  | .ok [a, b] st1 => .nx ((ρ.set i (some a)).set j (some b)) st1
  | _ => .no
section
variable {X : Cx} {K : PySem.W.Frag} {e a b c : Expr} {es : List Expr} {s : Stmt} {ss : List Stmt} {f : FE} {u : FT} {g h : FS} {pos : Pos} {gg : FG} {gs : FGs}
theorem dss_nil : PSs X [] (sOf K sNil) := pss_weak pss_nil fun D σ H ⟨μ, st, ρ, S, E, q⟩ => Reach.ok q S E
theorem dss_cons (h1 : PS X s (sOf K g)) (h2 : PSs X ss (sOf K h)) : PSs X (s :: ss) (sOf K (sSeq g h)) := by
  refine pss_weak (pss_cons h1 h2) ?_
  rintro D σ H ⟨μ, st, ρ, S, E, q⟩
  refine ⟨μ, st, ρ, S, E, ?_⟩
  unfold sSeq at q
  generalize g ρ st = r at q
  cases r with
  | nx ρ1 st1 => exact fun σ1 μ1 H1 S1 R1 E1 => ⟨μ1, st1, ρ1, S1, R1, SPost.from q E1⟩
  | rt a st => exact q
  | bk ρ st => exact q
  | ct ρ st => exact q
  | no => exact q
theorem dss_one (h1 : PS X s (sOf K g)) : PSs X [s] (sOf K g) := pss_one h1
theorem ds_pass : PS X (.Pass pos) (sOf K sNil) := ps_weak ps_pass fun D σ H ⟨μ, st, ρ, S, E, q⟩ => Reach.ok q S E
theorem ds_brk : PS X (.Break pos) (sOf K sBrk) := ps_weak ps_break fun D σ H ⟨μ, st, ρ, S, E, q⟩ => Reach.ok q S E
theorem ds_cnt : PS X (.Continue pos) (sOf K sCnt) := ps_weak ps_continue fun D σ H ⟨μ, st, ρ, S, E, q⟩ => Reach.ok q S E
theorem ds_exp (he : PE X e (tOf K f)) (hs : swapsWith e none pos.line X.env = pure false := by rfl) : PS X (.Expr e pos) (sOf K (sExp f)) := by
  refine ps_weak (ps_expr he hs) ?_
  rintro D σ H ⟨μ, st, ρ, S, E, q⟩
  unfold sExp at q
  split at q
  · rename_i a1 st1 h1
    exact ⟨μ, st, ρ, a1, st1, S, E, h1, fun v μ1 H1 S1 E1 r1 f1 => q σ μ1 H1 S1 (E.ext S E1) E1⟩
  · exact q.elim
theorem ds_ret (he : PE X e (tOf K f)) : PS X (.Return (some e) pos) (sOf K (sRet f)) := by
  refine ps_weak (ps_ret he) ?_
  rintro D σ H ⟨μ, st, ρ, S, E, q⟩
  unfold sRet at q
  split at q
  · rename_i a1 st1 h1
    exact ⟨μ, st, ρ, a1, st1, S, E, h1, q⟩
  · exact q.elim
def sRetN : FS := fun _ st => .rt .non st
theorem ds_retN : PS X (.Return none pos) (sOf K sRetN) := ps_weak ps_retN fun D σ H ⟨μ, st, ρ, S, E, q⟩ => Post.ok q S rfl trivial
theorem ds_if {as bs : List Stmt} (hc : PT X c (uOf K u)) (ha : PSs X as (sOf K g)) (hb : PSs X bs (sOf K h)) : PS X (.If c as bs pos) (sOf K (sIf u g h)) := by
  refine ps_weak (ps_if hc ha hb) ?_
  rintro D σ H ⟨μ, st, ρ, S, E, q⟩
  unfold sIf at q
  split at q
  · rename_i st1 h1
    exact ⟨μ, st, ρ, _, _, S, E, h1, fun μ1 H1 S1 E1 => iteT ⟨μ1, st1, ρ, S1, E.ext S E1, q.from E1⟩⟩
  · rename_i st1 h1
    exact ⟨μ, st, ρ, _, _, S, E, h1, fun μ1 H1 S1 E1 => iteF ⟨μ1, st1, ρ, S1, E.ext S E1, q.from E1⟩⟩
  · exact q.elim
theorem pg_weak {t t' : TG} (h : PG X e t) (w : ∀ v σ H Q, t' v σ H Q → t v σ H Q) : PG X e t' := ⟨fun pins s σ H v u Q I r q => h.run pins s σ H v u Q I r (w v σ H Q q)⟩
theorem pgs_weak {t t' : TGs} (h : PGs X es t) (w : ∀ v σ H Q, t' v σ H Q → t v σ H Q) : PGs X es t' := ⟨fun pins s σ H v u Q I r q => h.run pins s σ H v u Q I r (w v σ H Q q)⟩
theorem dg_name {i : Nat} {x : Str} (hN : X.N.Nodup) (hi : X.N[i]? = some x) (hx : Loc X.env.scope x) (hf : X.fn x = true ∨ X.env.scope.names.lookup x = some .local := by first | exact .inl rfl | exact .inr rfl | assumption) : PG X (.Name x pos) (gOf K (gSet i)) := by
  refine pg_weak (pg_name hN hi hx hf) ?_
  rintro v σ H Q ⟨μ, st, ρ, a, ρ', st', S, E, r, h, q⟩
  cases h
  exact q.ok S (E.set r.1 r.2)
theorem dgs_nil : PGs X [] (gsOf K gN) := by
  refine pgs_weak pgs_nil ?_
  rintro v σ H Q ⟨μ, st, ρ, as, ρ', st', S, E, r, h, q⟩
  cases r with
  | nil => cases h; exact ⟨rfl, q.ok S E⟩
  | cons _ _ => cases h
theorem dgs_cons (h1 : PG X e (gOf K gg)) (h2 : PGs X es (gsOf K gs)) (hs : (assignEach (e :: es) X.env).map (·.2) = assign e X.env :: (assignEach es X.env).map (·.2) := by rfl) : PGs X (e :: es) (gsOf K (gC gg gs)) := by
  refine pgs_weak (pgs_cons h1 h2 hs) ?_
  rintro vs σ H Q ⟨μ, st, ρ, as, ρ', st', S, E, r, h, q⟩
  cases r with
  | nil => cases h
  | cons r1 r2 =>
    rename_i a1 as1 v1 vs1
    unfold gC at h
    simp only at h
    split at h
    · rename_i ρ1 st1 h1
      refine ⟨_, _, rfl, μ, st, ρ, _, ρ1, st1, S, E, r1, h1, fun σ1 μ1 H1 S1 R1 E1 => ?_⟩
      exact ⟨μ1, st1, ρ1, _, ρ', st', S1, R1, r2.mono (fun _ _ z => RN.ext z S E1), h, q.from E1⟩
    · cases h
theorem dg_tup {k m : Nat} (hK : X.K = K) (hc : X.calm = true) (h : PGs X es (gsOf K gs)) (hn : (assignEach es X.env).length = m := by rfl) (hst : (assignEach es X.env).findIdx? (·.1) = none := by rfl) : PG X (.Tuple es k pos) (gOf K (gTupF m gs)) := by
  refine pg_weak (pg_tup hc h hn hst) ?_
  rintro v σ H Q ⟨μ, st, ρ, a, ρ', st', S, E, r, h, q⟩
  unfold gTupF at h
  split at h
  · rename_i xs
    split at h
    · rename_i hl
      obtain ⟨_, p, vs, rfl, h1, h2⟩ := r
      have h2 := repL_iff.mp h2
      exact ⟨p, vs, rfl, hK ▸ h1.sq, by rw [← h2.length]; exact hl, μ, st, ρ, xs, ρ', st', S, E, h2, h, q⟩
    · cases h
  · rename_i a b
    split at h
    · rename_i hl
      obtain ⟨_, p, x, y, rfl, h1, h2, h3⟩ := r
      exact ⟨p, _, rfl, .inl (.inl h1), hl, μ, st, ρ, [a, b], ρ', st', S, E, .cons h2 (.cons h3 .nil), h, q⟩
    · cases h
  · cases h
theorem ds_asg {tg : Expr} (he : PE X e (tOf K f)) (hg : PG X tg (gOf K gg)) (hs : swapsWithSole [tg] e pos.line X.env = pure false := by rfl) (hw : swappedStores [tg] e X.env = pure none := by rfl)
    (h1 : (assignEach [tg] X.env).map (·.2) = [assign tg X.env] := by rfl) : PS X (.Assign [tg] e pos) (sOf K (sAsg f gg)) := by
  refine ps_weak (ps_asg (dx_bn he) hg hs hw h1) ?_
  rintro D σ H ⟨μ, st, ρ, S, E, q⟩
  unfold sAsg at q
  split at q
  · rename_i a1 st1 h1
    split at q
    · rename_i ρ2 st2 h2
      exact ⟨μ, st, ρ, a1, st1, S, E, h1, fun v μ1 H1 S1 E1 r1 => ⟨μ1, st1, ρ, a1, ρ2, st2, S1, E.ext S E1, r1, h2, Reach.from q E1⟩⟩
    · exact q.elim
  · exact q.elim
theorem ds_set {i : Nat} {x : Str} {pos' : Pos} (hN : X.N.Nodup) (hi : X.N[i]? = some x) (hx : Loc X.env.scope x) (he : PE X e (tOf K f)) (hs : swapsWith e (some (.Name x pos')) pos.line X.env = pure false := by rfl) (hf : X.fn x = true ∨ X.env.scope.names.lookup x = some .local := by first | exact .inl rfl | exact .inr rfl | assumption) :
    PS X (.Assign [.Name x pos'] e pos) (sOf K (sAsg f (gSet i))) := by
  refine ps_weak (ps_set hN hi hx (dx_bn he) hs hf) ?_
  rintro D σ H ⟨μ, st, ρ, S, E, q⟩
  unfold sAsg at q
  split at q
  · rename_i a1 st1 h1
    exact ⟨μ, st, ρ, a1, st1, S, E, h1, fun v μ1 H1 S1 E1 r1 => q _ μ1 H1 S1 ((E.ext S E1).set r1.1 r1.2) E1⟩
  · exact q.elim
theorem ds_par {i j : Nat} {x y : Str} {ga : FA} {px py pt : Pos} {kt k2 pt2} (hc : X.calm = true) (hN : X.N.Nodup) (hi : X.N[i]? = some x) (hj : X.N[j]? = some y) (hij : i ≠ j)
    (hx : X.env.scope.names.lookup x = some .local) (hy : X.env.scope.names.lookup y = some .local) (ha : PA X [a, b] (bOf K ga))
    (hw : swappedStores [.Tuple [.Name x px, .Name y py] kt pt] (.Tuple [a, b] k2 pt2) X.env = pure (some [x, y]))
    (hs : swapsWithSole [.Tuple [.Name x px, .Name y py] kt pt] (.Tuple [a, b] k2 pt2) pos.line X.env = pure false := by rfl) :
    PS X (.Assign [.Tuple [.Name x px, .Name y py] kt pt] (.Tuple [a, b] k2 pt2) pos) (sOf K (sPar i j ga)) := by
  refine ps_weak (ps_par hc hN hi hj hij hx hy ha hw hs) ?_
  rintro D σ H ⟨μ, st, ρ, S, E, q⟩
  unfold sPar at q
  split at q
  · rename_i a1 b1 st1 h1
    refine ⟨μ, st, ρ, [a1, b1], st1, S, E, h1, fun vs μ1 H1 S1 E1 r1 => ?_⟩
    cases r1 with
    | cons r1 r2 =>
      cases r2 with
      | cons r2 r3 =>
        cases r3
        exact ⟨_, _, rfl, q _ μ1 H1 S1 (((E.ext S E1).set r1.1 r1.2).set r2.1 r2.2) E1⟩
  · exact q.elim
end
/-! ### loops -/
open Classical in
noncomputable def loopF (body : FS) (g : FG) (G : Sto → Prop) : List A → FS
  | [], ρ, st => if G st then .nx ρ st else .no
  | x :: xs, ρ, st => if G st then (match g x ρ st with
    | .ok ρ1 st1 => (match body ρ1 st1 with
      | .nx ρ2 st2 => loopF body g G xs ρ2 st2
      | .ct ρ2 st2 => loopF body g G xs ρ2 st2
      | .bk ρ2 st2 => .nx ρ2 st2
      | .rt a st2 => .rt a st2
      | .no => .no)
    | .no => .no) else .no
abbrev FI := Rho → Sto → R (List A × (Sto → Prop))
def iOf (K : PySem.W.Frag) (f : FI) : TI := fun σ H Z => ∃ μ st ρ xs G st', RS K μ st H ∧ RE K μ st.length H σ ρ ∧ f ρ st = .ok (xs, G) st' ∧
  ∀ J μ' H' (GH : Hp → Prop) Y, RS K μ' st' H' → Ext μ st.length H μ' st'.length H' → Walk J xs.length GH Y →
    (∀ μ2 st2 H2, RS K μ2 st2 H2 → Ext μ' st'.length H' μ2 st2.length H2 → G st2 → GH H2) →
    (∀ i x H2 H3 μ2 st2 a, xs[i]? = some a → RS K μ2 st2 H2 → Ext μ' st'.length H' μ2 st2.length H2 → G st2 → Y i H2 x H3 → RS K μ2 st2 H3 ∧ Ext μ2 st2.length H2 μ2 st2.length H3 ∧ RN K μ2 st2.length H3 a x) →
    Z J H'
noncomputable def sFor (f : FI) (g : FG) (body : FS) : FS := fun ρ st => match f ρ st with
  | .ok (xs, G) st1 => loopF body g G xs ρ st1
  | .no => .no
def whileF (u : FT) (body : FS) : Nat → FS
  | 0, _, _ => .no
  | n + 1, ρ, st => (match u ρ st with
    | .ok true st1 => (match body ρ st1 with
      | .nx ρ2 st2 => whileF u body n ρ2 st2
      | .ct ρ2 st2 => whileF u body n ρ2 st2
      | .bk ρ2 st2 => .nx ρ2 st2
      | .rt a st2 => .rt a st2
      | .no => .no)
    | .ok false st1 => .nx ρ st1
    | .no => .no)
theorem whileF_mono (u : FT) (body : FS) : ∀ {n : Nat} {ρ : Rho} {st : Sto}, whileF u body n ρ st ≠ .no → ∀ m, n ≤ m → whileF u body m ρ st = whileF u body n ρ st
  | 0, _, _, h, _, _ => absurd rfl h
  | n + 1, ρ, st, h, 0, l => absurd l (by omega)
  | n + 1, ρ, st, h, m + 1, l => by
    unfold whileF at h ⊢
    split
    · rename_i st1 h1
      rw [h1] at h
      simp only at h
      split
      · rename_i ρ2 st2 h2
        rw [h2] at h
        exact whileF_mono u body h m (by omega)
      · rename_i ρ2 st2 h2
        rw [h2] at h
        exact whileF_mono u body h m (by omega)
      · rfl
      · rfl
      · rfl
    · rfl
    · rfl
open Classical in
noncomputable def sWhile (u : FT) (body : FS) : FS := fun ρ st => if h : ∃ n, whileF u body n ρ st ≠ .no then whileF u body (choose h) ρ st else .no
theorem sWhile_of {u : FT} {body : FS} {n : Nat} {ρ : Rho} {st : Sto} {r : SR} (h : whileF u body n ρ st = r) (hr : r ≠ .no) : sWhile u body ρ st = r := by
  have ex : ∃ n, whileF u body n ρ st ≠ .no := ⟨n, by rw [h]; exact hr⟩
  unfold sWhile
  rw [dif_pos ex]
  have h2 := Classical.choose_spec ex
  rcases Nat.le_total n (Classical.choose ex) with l | l
  · rw [whileF_mono u body (by rw [h]; exact hr) _ l, h]
  · rw [← whileF_mono u body h2 _ l, h]
/-- one turn -/
theorem sWhile_eq (u : FT) (body : FS) (ρ : Rho) (st : Sto) : sWhile u body ρ st = (match u ρ st with
    | .ok true st1 => (match body ρ st1 with
      | .nx ρ2 st2 => sWhile u body ρ2 st2
      | .ct ρ2 st2 => sWhile u body ρ2 st2
      | .bk ρ2 st2 => .nx ρ2 st2
      | .rt a st2 => .rt a st2
      | .no => .no)
    | .ok false st1 => .nx ρ st1
    | .no => .no) := by
  have one : ∀ n, whileF u body (n + 1) ρ st = (match u ρ st with
    | .ok true st1 => (match body ρ st1 with
      | .nx ρ2 st2 => whileF u body n ρ2 st2
      | .ct ρ2 st2 => whileF u body n ρ2 st2
      | .bk ρ2 st2 => .nx ρ2 st2
      | .rt a st2 => .rt a st2
      | .no => .no)
    | .ok false st1 => .nx ρ st1
    | .no => .no) := fun n => rfl
  have tail : ∀ (ρ2 : Rho) (st2 : Sto), (∀ n, whileF u body (n + 1) ρ st = whileF u body n ρ2 st2) → sWhile u body ρ st = sWhile u body ρ2 st2 := by
    intro ρ2 st2 h
    by_cases ex : ∃ n, whileF u body n ρ2 st2 ≠ .no
    · obtain ⟨n, hn⟩ := ex
      rw [sWhile_of rfl hn, ← h n]
      exact sWhile_of rfl (by rw [h n]; exact hn)
    · have ex' : ¬ ∃ n, whileF u body n ρ st ≠ .no := fun ⟨n, hn⟩ => by
        cases n with
        | zero => exact hn rfl
        | succ n => exact ex ⟨n, by rw [← h n]; exact hn⟩
      unfold sWhile
      rw [dif_neg ex, dif_neg ex']
  have stop : ∀ r : SR, (∀ n, whileF u body (n + 1) ρ st = r) → sWhile u body ρ st = r := by
    intro r h
    by_cases hr : r = .no
    · have ex' : ¬ ∃ n, whileF u body n ρ st ≠ .no := fun ⟨n, hn⟩ => by
        cases n with
        | zero => exact hn rfl
        | succ n => exact hn (by rw [h n, hr])
      unfold sWhile
      rw [dif_neg ex', hr]
    · exact sWhile_of (h 0) hr
  split
  · rename_i st1 h1
    simp only [h1] at one
    split
    · rename_i ρ2 st2 h2
      simp only [h2] at one
      exact tail _ _ one
    · rename_i ρ2 st2 h2
      simp only [h2] at one
      exact tail _ _ one
    · rename_i ρ2 st2 h2
      simp only [h2] at one
      exact stop _ one
    · rename_i ρ2 st2 h2
      simp only [h2] at one
      exact stop _ one
    · rename_i h2
      simp only [h2] at one
      exact stop _ one
  · rename_i st1 h1
    simp only [h1] at one
    exact stop _ one
  · rename_i h1
    simp only [h1] at one
    exact stop _ one
section
variable {X : Cx} {K : PySem.W.Frag} {e a b c tg iter : Expr} {es : List Expr} {body : List Stmt} {f : FE} {u : FT} {g h : FS} {pos : Pos} {gg : FG} {fi : FI}
theorem ds_for (hp : PassesOwn (model X.prog X.w) X.A X.env X.xe) (hc : X.calm = true) (hi : PI X tg iter (iOf K fi)) (hg : PG X tg (gOf K gg)) (hb : PSs X body (sOf K g))
    (hs : ∀ x, foldedSetIterable iter X.env x = pure x := by intro _; rfl) : PS X (.For tg iter body [] pos) (sOf K (sFor fi gg g)) := by
  refine ps_weak (ps_for hp hc hi hg hb hs) ?_
  rintro D σ H ⟨μ, st, ρ, S, E, q⟩
  unfold sFor at q
  split at q
  · rename_i xs G st1 h1
    refine ⟨μ, st, ρ, xs, G, st1, S, E, h1, fun J μ1 H1 GH Y S1 E1 w hG hY => ?_⟩
    refine for_it w (fun i σ2 H2 => ∃ μ2 st2 ρ2, RS K μ2 st2 H2 ∧ RE K μ2 st2.length H2 σ2 ρ2 ∧ Ext μ1 st1.length H1 μ2 st2.length H2 ∧ SPost K μ2 st2.length H2 D (loopF g gg G (xs.drop i) ρ2 st2))
      ⟨μ1, st1, ρ, S1, E.ext S E1, Ext.refl, SPost.from q E1⟩ ?_ ?_ ?_
    · rintro i σ2 H2 hi ⟨μ2, st2, ρ2, S2, R2, E2, q2⟩
      refine hG μ2 st2 H2 S2 E2 ?_
      cases hd : xs.drop i with
      | nil =>
        rw [hd] at q2
        unfold loopF at q2
        split at q2
        · assumption
        · exact q2.elim
      | cons x r =>
        rw [hd] at q2
        unfold loopF at q2
        split at q2
        · assumption
        · exact q2.elim
    · rintro i x σ2 H2 H3 hi ⟨μ2, st2, ρ2, S2, R2, E2, q2⟩ y
      rw [List.drop_eq_getElem_cons hi] at q2
      unfold loopF at q2
      split at q2
      · rename_i hGs
        obtain ⟨S3, E3, r3⟩ := hY i x H2 H3 μ2 st2 xs[i] (List.getElem?_eq_getElem hi) S2 E2 hGs y
        split at q2
        · rename_i ρ4 st4 h4
          refine ⟨μ2, st2, ρ2, xs[i], ρ4, st4, S3, R2.ext S2 E3, r3, h4, fun σ5 μ5 H5 S5 R5 E5 => ?_⟩
          refine ⟨μ5, st4, ρ4, S5, R5, ?_⟩
          have q5 := SPost.from q2 (E3.trans E5)
          split at q5
          · rename_i ρ6 st6 h6
            rw [h6]
            exact fun σ6 μ6 H6 S6 R6 E6 => ⟨μ6, st6, ρ6, S6, R6, ((E2.trans E3).trans E5).trans E6, SPost.from q5 E6⟩
          · rename_i ρ6 st6 h6
            rw [h6]
            exact fun σ6 μ6 H6 S6 R6 E6 => ⟨μ6, st6, ρ6, S6, R6, ((E2.trans E3).trans E5).trans E6, SPost.from q5 E6⟩
          · rename_i ρ6 st6 h6
            rw [h6]
            exact q5
          · rename_i a6 st6 h6
            rw [h6]
            exact q5
          · exact q5.elim
        · exact q2.elim
      · exact q2.elim
    · rintro σ2 H2 ⟨μ2, st2, ρ2, S2, R2, E2, q2⟩
      rw [List.drop_length] at q2
      unfold loopF at q2
      split at q2
      · exact Reach.ok q2 S2 R2
      · exact q2.elim
  · exact q.elim
theorem ds_while (hp : PassesOwn (model X.prog X.w) X.A X.env X.xe) (hc : PT X c (uOf K u)) (hb : PSs X body (sOf K g)) : PS X (.While c body [] pos) (sOf K (sWhile u g)) := by
  refine ps_weak (ps_while hp hc hb) ?_
  rintro D σ H ⟨μ, st, ρ, S, E, q⟩
  unfold sWhile at q
  split at q
  · rename_i ex
    generalize Classical.choose ex = n at q
    refine ⟨fun m σ2 H2 => ∃ μ2 st2 ρ2, RS K μ2 st2 H2 ∧ RE K μ2 st2.length H2 σ2 ρ2 ∧ SPost K μ2 st2.length H2 D (whileF u g m ρ2 st2), ⟨n, μ, st, ρ, S, E, q⟩, ?_⟩
    rintro m σ2 H2 ⟨μ2, st2, ρ2, S2, R2, q2⟩
    cases m with
    | zero => exact q2.elim
    | succ m =>
      unfold whileF at q2
      split at q2
      · rename_i st3 h3
        refine ⟨μ2, st2, ρ2, true, st3, S2, R2, h3, fun μ3 H3 S3 E3 => iteT ?_⟩
        refine ⟨fun σ4 H4 => ∃ μ4 st4 ρ4, RS K μ4 st4 H4 ∧ RE K μ4 st4.length H4 σ4 ρ4 ∧ SPost K μ4 st4.length H4 D (whileF u g m ρ4 st4), fun σ' H' w => ⟨m, Nat.lt_succ_self m, w⟩, ?_⟩
        refine ⟨μ3, st3, ρ2, S3, R2.ext S2 E3, ?_⟩
        have q5 := SPost.from q2 E3
        split at q5
        · rename_i ρ6 st6 h6
          rw [h6]
          exact fun σ6 μ6 H6 S6 R6 E6 => ⟨μ6, st6, ρ6, S6, R6, SPost.from q5 E6⟩
        · rename_i ρ6 st6 h6
          rw [h6]
          exact fun σ6 μ6 H6 S6 R6 E6 => ⟨μ6, st6, ρ6, S6, R6, SPost.from q5 E6⟩
        · rename_i ρ6 st6 h6
          rw [h6]
          exact q5
        · rename_i a6 st6 h6
          rw [h6]
          exact q5
        · exact q5.elim
      · rename_i st3 h3
        exact ⟨μ2, st2, ρ2, false, st3, S2, R2, h3, fun μ3 H3 S3 E3 => iteF (q2 σ2 μ3 H3 S3 (R2.ext S2 E3) E3)⟩
      · exact q2.elim
  · exact q.elim
end
end Ev
namespace Ev
open PySem PySem.Spec PyProof.Rows L2 Gd
/-! ### what is walked -/
def lstOf (a : A) (st : Sto) : Option (List A) := match a with
  | .tmp xs => some xs
  | .frz xs => some xs
  | .loc l => match st[l]? with
    | some (.lst xs) => some xs
    | _ => none
  | _ => none
/-- the place where a list is to stay -/
def stillOf (a : A) (xs : List A) : Sto → Prop := match a with
  | .loc l => fun st => st[l]? = some (.lst xs)
  | _ => fun _ => True
def seqOf (a : A) (st : Sto) : Option (List A) := match a with
  | .tup xs => some xs
  | .pr a b => some [a, b]
  | a => lstOf a st
section
variable {X : Cx} {K : PySem.W.Frag} {μ μ' : Nat → Addr} {n n' : Nat} {H H' : Hp} {st st' : Sto}
theorem lstOf_sq {a : A} {v : V} {xs : List A} (S : RS K μ st H) (r : Rep K μ st.length H a v) (h : lstOf a st = some xs) :
    ∃ p vs, v = .ref p ∧ SqL K H p vs ∧ RepL K μ st.length H xs vs ∧ (stillOf a xs st) ∧
      ∀ μ2 st2 H2, RS K μ2 st2 H2 → Ext μ st.length H μ2 st2.length H2 → stillOf a xs st2 → ∃ vs2, SqL K H2 p vs2 ∧ RepL K μ2 st2.length H2 xs vs2 := by
  cases a with
  | tmp ys =>
    obtain ⟨p, vs, rfl, h1, h2, h3⟩ := r
    cases h
    exact ⟨p, vs, rfl, .inl (.inl h1), h3, trivial, fun μ2 st2 H2 S2 E2 _ => ⟨vs, .inl (.inl (E2.fr _ _ h1 h2)), h3.ext S E2⟩⟩
  | frz ys =>
    obtain ⟨p, vs, rfl, h1, h3⟩ := r
    cases h
    refine ⟨p, vs, rfl, ?_, h3, trivial, fun μ2 st2 H2 S2 E2 _ => ⟨vs, ?_, h3.ext S E2⟩⟩
    · rcases h1 with ⟨o, h1⟩ | h1
      · exact .inl (.inr ⟨o, h1⟩)
      · exact .inr h1
    · rcases h1 with ⟨o, h1⟩ | h1
      · refine .inl (.inr ⟨o, E2.fr _ _ h1 fun l hl q => ?_⟩)
        obtain ⟨u, h4, _, h5, _⟩ := S.mt hl
        rw [q, h1] at h4
        exact h5 _ _ (Option.some.inj h4).symm
      · exact .inr h1
  | loc l =>
    obtain ⟨h1, rfl⟩ := r
    unfold lstOf at h
    simp only at h
    split at h
    · rename_i ys h2
      cases h
      obtain ⟨vs, h3, h4⟩ := S.at_ l _ h2
      refine ⟨μ l, vs, rfl, .inl (.inl h3), h4, h2, fun μ2 st2 H2 S2 E2 hs => ?_⟩
      obtain ⟨vs2, h5, h6⟩ := S2.at_ l _ hs
      rw [E2.ag l h1] at h5
      exact ⟨vs2, .inl (.inl h5), h6⟩
    · cases h
  | _ => cases h
theorem sqL_one {p : Addr} {xs ys : List V} {X : Cx} {pins σ s} (I : Inv X pins σ H s) (h : SqL X.K H p xs) (h' : SqL X.K H p ys) : xs = ys := I.list_inj h h'
def fIter (f : FE) : FI := fun ρ st => match f ρ st with
  | .ok a st1 => (match a with
    | .tup xs => .ok (xs, fun _ => True) st1
    | a => match lstOf a st1 with
      | some xs => .ok (xs, stillOf a xs) st1
      | none => .no)
  | .no => .no
def enumA (xs : List A) : List A := xs.zipIdx.map fun p => .pr (.int (p.2 : Int)) p.1
def fEnum (f : FE) : FI := fun ρ st => match fIter f ρ st with
  | .ok (xs, G) st1 => .ok (enumA xs, G) st1
  | .no => .no
def rgA (a b : Int) : List A := (List.range (b - a).toNat).map fun i => .int (a + (i : Nat))
def ends (i : Int) : Prop := -(2 ^ 62) ≤ i ∧ i < 2 ^ 62
instance (i : Int) : Decidable (ends i) := inferInstanceAs (Decidable (_ ∧ _))
def fRg1 (f : FE) : FI := fun ρ st => match f ρ st with
  | .ok (.int j) st1 => if ends j then .ok (rgA 0 j, fun _ => True) st1 else .no
  | _ => .no
def fRg2 (f g : FE) : FI := fun ρ st => match f ρ st with
  | .ok (.int i) st1 => (match g ρ st1 with
    | .ok (.int j) st2 => if ends i ∧ ends j then .ok (rgA i j, fun _ => True) st2 else .no
    | _ => .no)
  | _ => .no
theorem pi_weak {tg e : Expr} {t t' : TI} (h : PI X tg e t) (w : ∀ σ H Z, t' σ H Z → t σ H Z) : PI X tg e t' := ⟨fun pins s σ H Z I q => h.run pins s σ H Z I (w σ H Z q)⟩
theorem pi_or {tg e : Expr} {t t' : TI} (h : PI X tg e t) (h' : PI X tg e t') : PI X tg e (fun σ H Z => t σ H Z ∨ t' σ H Z) := ⟨fun pins s σ H Z I q => by
  rcases q with q | q
  · exact h.run pins s σ H Z I q
  · exact h'.run pins s σ H Z I q⟩
/-- the list at a as it stands at each turn, of n items -/
theorem walk_any {a : Addr} {n : Nat} : Walk (Itl K a) n (fun H => ∃ vs, SqL K H a vs ∧ vs.length = n) (fun i H x H' => H' = H ∧ ∀ vs, SqL K H a vs → vs[i]? = some x) :=
  ⟨fun i H hi ⟨vs, q, l⟩ => ⟨vs, vs[i], q, by simp [l, hi]⟩, fun H ⟨vs, q, l⟩ => ⟨vs, q, by omega⟩, fun _ _ _ _ _ _ y => y⟩
theorem walk_anyT {a : Addr} {n : Nat} : Walk (Itt K a) n (fun H => ∃ vs, SqT K H a vs ∧ vs.length = n) (fun i H x H' => H' = H ∧ ∀ vs, SqT K H a vs → vs[i]? = some x) :=
  ⟨fun i H hi ⟨vs, q, l⟩ => ⟨vs, vs[i], q, by simp [l, hi]⟩, fun H ⟨vs, q, l⟩ => ⟨vs, q, by omega⟩, fun _ _ _ _ _ _ y => y⟩
theorem walk_eany {a : Addr} {n : Nat} : Walk (Ite K a) n (fun H => ∃ vs, SqL K H a vs ∧ vs.length = n) (fun i H v H' => ∃ T x, v = .ref T ∧ H T = none ∧ H' = upd H T (.tup [.int (i : Nat), x]) ∧ ∀ vs, SqL K H a vs → vs[i]? = some x) :=
  ⟨fun i H hi ⟨vs, q, l⟩ => ⟨vs, vs[i], q, by simp [l, hi]⟩, fun H ⟨vs, q, l⟩ => ⟨vs, q, by omega⟩, fun _ _ _ _ _ _ y => y⟩
theorem walk_eanyT {a : Addr} {n : Nat} : Walk (IteT K a) n (fun H => ∃ vs, SqT K H a vs ∧ vs.length = n) (fun i H v H' => ∃ T x, v = .ref T ∧ H T = none ∧ H' = upd H T (.tup [.int (i : Nat), x]) ∧ ∀ vs, SqT K H a vs → vs[i]? = some x) :=
  ⟨fun i H hi ⟨vs, q, l⟩ => ⟨vs, vs[i], q, by simp [l, hi]⟩, fun H ⟨vs, q, l⟩ => ⟨vs, q, by omega⟩, fun _ _ _ _ _ _ y => y⟩
theorem tup_ext {p : Addr} {vs : List V} {μ2 : Nat → Addr} {n2 : Nat} {H2 : Hp} (S : RS K μ st H) (E : Ext μ st.length H μ2 n2 H2) (h : SqT K H p vs) : SqT K H2 p vs := by
  rcases h with h1 | h1
  · have ne := S.ne_tup h1
    rcases h1 with h1 | ⟨o, h1⟩
    · exact .inl (.inl (E.fr _ _ h1 ne))
    · exact .inl (.inr ⟨o, E.fr _ _ h1 ne⟩)
  · exact .inr h1
/-- at such a turn -/
theorem turn_at {xs : List A} {vs : List V} {i : Nat} {a : A} {x : V} {st2 : Sto} {μ2 : Nat → Addr} {H2 : Hp} (r : RepL K μ2 st2.length H2 xs vs) (h : xs[i]? = some a) (hx : vs[i]? = some x) : RN K μ2 st2.length H2 a x := by
  obtain ⟨y, h1, h2⟩ := pd_get (repL_iff.mp r) h
  rw [hx] at h1
  cases h1
  exact h2
theorem enum_at {xs : List A} {i : Nat} {b : A} (h : (enumA xs)[i]? = some b) : ∃ a, xs[i]? = some a ∧ b = .pr (.int (i : Int)) a := by
  unfold enumA at h
  rw [List.getElem?_map, List.getElem?_zipIdx] at h
  cases e : xs[i]? with
  | none => rw [e] at h; cases h
  | some z =>
    rw [e] at h
    simp at h
    exact ⟨z, rfl, h.symm⟩
theorem enum_len (xs : List A) : (enumA xs).length = xs.length := by unfold enumA; rw [List.length_map, List.length_zipIdx]
theorem pair_new {a b : A} {x y : V} {T : Addr} (S : RS K μ st H) (hT : H T = none) (ra : RN K μ st.length H a x) (rb : RN K μ st.length H b y) :
    RS K μ st (upd H T (.tup [x, y])) ∧ Ext μ st.length H μ st.length (upd H T (.tup [x, y])) ∧ RN K μ st.length (upd H T (.tup [x, y])) (.pr a b) (.ref T) := by
  obtain ⟨S', E'⟩ := S.new (o := .tup [x, y]) hT
  exact ⟨S', E', trivial, T, x, y, rfl, upd_same, ra.ext S E', rb.ext S E'⟩
section
variable {tg e : Expr} {f g : FE} {p pos : Pos}
theorem di_seq (hK : X.K = K) (h : PE X e (tOf K f)) : PI X tg e (iOf K (fIter f)) := by
  subst hK
  refine pi_weak (pi_or (pi_list h) (pi_tup h)) ?_
  rintro σ H Z ⟨μ, st, ρ, xs, G, st', S, E, h, q⟩
  unfold fIter at h
  split at h
  · rename_i a st1 h1
    split at h
    · rename_i ys
      cases h
      refine .inr ⟨μ, st, ρ, _, _, S, E, h1, ?_⟩
      rintro v μ1 H1 S1 E1 ⟨p, vs, rfl, h2, h3⟩ f1
      have h2 := h2.sq
      have hl := (repL_iff.mp h3).length
      refine ⟨p, rfl, ⟨vs, h2⟩, q _ μ1 H1 _ _ S1 E1 (walk_anyT (n := xs.length)) ?_ ?_⟩
      · exact fun μ2 st2 H2 S2 E2 _ => ⟨vs, tup_ext S1 E2 h2, hl.symm⟩
      · rintro i x H2 H3 μ2 st2 a hi S2 E2 _ ⟨rfl, hy⟩
        exact ⟨S2, Ext.refl, turn_at (h3.ext S1 E2) hi (hy vs (tup_ext S1 E2 h2))⟩
    · split at h
      · rename_i ys h2
        cases h
        refine .inl ⟨μ, st, ρ, _, _, S, E, h1, ?_⟩
        intro v μ1 H1 S1 E1 r1 f1
        obtain ⟨p, vs, rfl, h3, h4, h5, h6⟩ := lstOf_sq S1 r1 h2
        refine ⟨p, rfl, ⟨vs, h3⟩, q _ μ1 H1 _ _ S1 E1 (walk_any (n := xs.length)) ?_ ?_⟩
        · intro μ2 st2 H2 S2 E2 hG
          obtain ⟨vs2, h7, h8⟩ := h6 μ2 st2 H2 S2 E2 hG
          exact ⟨vs2, h7, (repL_iff.mp h8).length.symm⟩
        · rintro i x H2 H3 μ2 st2 a hi S2 E2 hG ⟨rfl, hy⟩
          obtain ⟨vs2, h7, h8⟩ := h6 μ2 st2 _ S2 E2 hG
          exact ⟨S2, Ext.refl, turn_at h8 hi (hy vs2 h7)⟩
      · cases h
  · cases h
theorem da_one (he : PE X e (tOf K f)) (hs : starEach [e] X.env = (false, eval e X.env) :: starEach [] X.env := by rfl) : PA X [e] (tCons (tOf K f) tNil) := pa_cons he pa_nil hs
theorem di_enum {elts : List Expr} {kk : Nat} {tpos : Pos} (hK : X.K = K) (hm : X.mg "enumerate" = none) (h : PE X e (tOf K f)) (hg : Gl X "enumerate" := by rfl) (hs : starEach [e] X.env = [(false, eval e X.env)] := by rfl) :
    PI X (.Tuple elts kk tpos) (.Call (.Name "enumerate" p) [e] [] pos) (iOf K (fEnum f)) := by
  subst hK
  refine pi_weak (pi_or (pi_enum hg hm (pa_cons h pa_nil hs) hs) (pi_enumT rfl hg hm (pa_cons h pa_nil hs) hs)) ?_
  rintro σ H Z ⟨μ, st, ρ, xs, G, st', S, E, h, q⟩
  unfold fEnum fIter at h
  split at h
  · rename_i ys G1 st1 h0
    cases h
    split at h0
    · rename_i a st1 h1
      split at h0
      · rename_i zs
        cases h0
        refine .inr ⟨μ, st, ρ, _, _, S, E, h1, ?_⟩
        rintro v μ1 H1 S1 E1 ⟨p, vs, rfl, h2, h3⟩ f1
        have h2 := h2.sq
        have hl := (repL_iff.mp h3).length
        refine ⟨p, vs, rfl, h2, q _ μ1 H1 _ _ S1 E1 (walk_eanyT (n := (enumA ys).length)) ?_ ?_⟩
        · exact fun μ2 st2 H2 S2 E2 _ => ⟨vs, tup_ext S1 E2 h2, by rw [enum_len]; exact hl.symm⟩
        · rintro i x H2 H3 μ2 st2 b hi S2 E2 _ ⟨T, y, rfl, hT, rfl, hy⟩
          obtain ⟨a, ha, rfl⟩ := enum_at hi
          exact pair_new S2 hT ⟨trivial, rfl⟩ (turn_at (h3.ext S1 E2) ha (hy vs (tup_ext S1 E2 h2)))
      · split at h0
        · rename_i zs h2
          cases h0
          refine .inl ⟨μ, st, ρ, _, _, S, E, h1, ?_⟩
          intro v μ1 H1 S1 E1 r1 f1
          obtain ⟨p, vs, rfl, h3, h4, h5, h6⟩ := lstOf_sq S1 r1 h2
          refine ⟨p, vs, rfl, h3, q _ μ1 H1 _ _ S1 E1 (walk_eany (n := (enumA ys).length)) ?_ ?_⟩
          · intro μ2 st2 H2 S2 E2 hG
            obtain ⟨vs2, h7, h8⟩ := h6 μ2 st2 H2 S2 E2 hG
            exact ⟨vs2, h7, by rw [enum_len]; exact (repL_iff.mp h8).length.symm⟩
          · rintro i x H2 H3 μ2 st2 b hi S2 E2 hG ⟨T, y, rfl, hT, rfl, hy⟩
            obtain ⟨vs2, h7, h8⟩ := h6 μ2 st2 _ S2 E2 hG
            obtain ⟨a, ha, rfl⟩ := enum_at hi
            exact pair_new S2 hT ⟨trivial, rfl⟩ (turn_at h8 ha (hy vs2 h7))
        · cases h0
    · cases h0
  · cases h
theorem rgA_at {a b : Int} {i : Nat} {x : A} (h : (rgA a b)[i]? = some x) : x = .int (a + (i : Nat)) := by
  unfold rgA at h
  rw [List.getElem?_map] at h
  obtain ⟨j, h1, h2⟩ := Option.map_eq_some_iff.mp h
  have := (List.getElem?_eq_some_iff.mp h1)
  obtain ⟨h3, h4⟩ := this
  rw [List.getElem_range] at h4
  rw [← h2, ← h4]
theorem rgA_len (a b : Int) : (rgA a b).length = (b - a).toNat := by unfold rgA; rw [List.length_map, List.length_range]
theorem di_rg1 (hm : X.mg "range" = none) (h : PE X e (tOf K f)) (hg : Gl X "range" := by rfl) (hs : starEach [e] X.env = [(false, eval e X.env)] := by rfl) : PI X tg (.Call (.Name "range" p) [e] [] pos) (iOf K (fRg1 f)) := by
  refine pi_weak (pi_range1 hg hm (pa_cons h pa_nil hs) hs) ?_
  rintro σ H Z ⟨μ, st, ρ, xs, G, st', S, E, h, q⟩
  unfold fRg1 at h
  split at h
  · rename_i j st1 h1
    split at h
    · rename_i hj
      cases h
      refine ⟨μ, st, ρ, _, _, S, E, h1, ?_⟩
      rintro v μ1 H1 S1 E1 r1 f1
      cases (show v = .int j from r1)
      refine ⟨j, rfl, hj.1, hj.2, q _ μ1 H1 _ _ S1 E1 (by rw [rgA_len, Int.sub_zero]; exact walk_range) (fun _ _ _ _ _ _ => trivial) ?_⟩
      rintro i x H2 H3 μ2 st2 b hi S2 E2 hG ⟨rfl, rfl⟩
      rw [rgA_at hi]
      exact ⟨S2, Ext.refl, trivial, rfl⟩
    · cases h
  · cases h
theorem di_rg2 {e2 : Expr} (hm : X.mg "range" = none) (h : PE X e (tOf K f)) (h2 : PE X e2 (tOf K g)) (hg : Gl X "range" := by rfl) (hs : starEach [e, e2] X.env = [(false, eval e X.env), (false, eval e2 X.env)] := by rfl) (hs2 : starEach [e2] X.env = [(false, eval e2 X.env)] := by rfl) : PI X tg (.Call (.Name "range" p) [e, e2] [] pos) (iOf K (fRg2 f g)) := by
  refine pi_weak (pi_range2 hg hm (pa_cons h (pa_cons h2 pa_nil hs2) (by rw [hs, hs2])) hs hs2) ?_
  rintro σ H Z ⟨μ, st, ρ, xs, G, st', S, E, h, q⟩
  unfold fRg2 at h
  split at h
  · rename_i i0 st1 h1
    split at h
    · rename_i j st2 h2
      split at h
      · rename_i hj
        cases h
        refine ⟨μ, st, ρ, _, _, S, E, h1, ?_⟩
        rintro v μ1 H1 S1 E1 r1 f1
        cases (show v = .int i0 from r1)
        refine ⟨μ1, st1, ρ, _, _, S1, E.ext S E1, h2, ?_⟩
        rintro v μ2 H2 S2 E2 r2 f2
        cases (show v = .int j from r2)
        refine ⟨i0, j, rfl, ⟨hj.1.1, hj.1.2, hj.2.1, hj.2.2⟩, q _ μ2 H2 _ _ S2 (E1.trans E2) (by rw [rgA_len]; exact walk_range) (fun _ _ _ _ _ _ => trivial) ?_⟩
        rintro i x H2 H3 μ2 st2 b hi S2 E2 hG ⟨rfl, rfl⟩
        rw [rgA_at hi]
        exact ⟨S2, Ext.refl, trivial, rfl⟩
      · cases h
    · cases h
  · cases h
end
end
end Ev
namespace Ev
open PySem PySem.Spec PyProof.Rows L2 Gd
/-! ### comprehensions -/
open Classical in
noncomputable def lcF (ρ : Rho) (g : A → Rho → Option Rho) (u : FT) (f : FE) (G : Sto → Prop) : List A → List A → Sto → R (List A)
  | [], acc, st => if G st then .ok acc st else .no
  | x :: xs, acc, st => if G st then (match g x ρ with
    | some ρ1 => (match u ρ1 st with
      | .ok true st2 => (match fB f ρ1 st2 with
        | .ok a st3 => if acc.length < sizeLine then lcF ρ g u f G xs (acc ++ [a]) st3 else .no
        | .no => .no)
      | .ok false st2 => lcF ρ g u f G xs acc st2
      | .no => .no)
    | none => .no) else .no
def wipeR (ρ : Rho) : List Nat → Rho
  | [] => ρ
  | v :: vs => (wipeR ρ vs).set v none
noncomputable def fLc (fi : FI) (js : List Nat) (g : A → Rho → Option Rho) (u : FT) (f : FE) : FE := fun ρ st => match fi ρ st with
  | .ok (xs, G) st1 => (match lcF (wipeR ρ js) g u f G xs [] st1 with
    | .ok acc st2 => .ok (.tmp acc) st2
    | .no => .no)
  | .no => .no
def uYes : FT := fun _ st => .ok true st
def lN (j : Nat) : A → Rho → Option Rho := fun a ρ => some (ρ.set j (some a))
def lP (i j : Nat) : A → Rho → Option Rho := fun a ρ => match a with
  | .tup [a, b] => some ((ρ.set i (some a)).set j (some b))
  | .pr a b => some ((ρ.set i (some a)).set j (some b))
  | _ => none
/-- a target that stores to the slots js alone -/
structure LTg (K : PySem.W.Frag) (js : List Nat) (g : A → Rho → Option Rho) (t : TG) : Prop where
  run : ∀ {μ st H σ ρ ρ1 a v} {Q : L2.St → Hp → Prop}, RS K μ st H → RE K μ st.length H (wipe σ js) ρ → RN K μ st.length H a v → g a ρ = some ρ1 → (∀ σ2, RE K μ st.length H σ2 ρ1 → wipe σ2 js = wipe σ js → Q σ2 H) → t v (wipe σ js) H Q
section
variable {X : Cx} {K : PySem.W.Frag} {μ μ' : Nat → Addr} {n n' : Nat} {H H' : Hp} {st st' : Sto} {js : List Nat} {g : A → Rho → Option Rho} {u : FT} {f : FE} {fi : FI}
theorem wipe_one (σ : L2.St) (j : Nat) (x : Option V) : wipe ((wipe σ [j]).set j x) [j] = wipe σ [j] := by
  show ((σ.set j none).set j x).set j none = σ.set j none
  rw [List.set_set, List.set_set]
theorem lt_name {j : Nat} : LTg K [j] (lN j) (gName j) := by
  constructor
  intro μ st H σ ρ ρ1 a v Q S E r h q
  cases h
  exact q _ (E.set r.1 r.2) (wipe_one σ j (some v))
theorem wipe_two (σ : L2.St) (i j : Nat) (x y : Option V) : wipe (((wipe σ [i, j]).set i x).set j y) [i, j] = wipe σ [i, j] := by
  show ((((((σ.set j none).set i none).set i _).set j _).set j none).set i none) = (σ.set j none).set i none
  refine List.ext_getElem? fun k => ?_
  simp only [List.getElem?_set, List.length_set]
  by_cases h1 : i = k <;> by_cases h2 : j = k <;> simp [h1, h2]
theorem lt_pair {i j : Nat} : LTg K [i, j] (lP i j) (gTup K 2 (gCons (gName i) (gCons (gName j) gNil))) := by
  constructor
  intro μ st H σ ρ ρ1 a v Q S E r h q
  unfold lP at h
  split at h
  · rename_i a1 b1
    cases h
    obtain ⟨_, p, vs, rfl, h1, h2⟩ := r
    have h2 := repL_iff.mp h2
    cases h2 with
    | cons r1 r2 =>
      cases r2 with
      | cons r2 r3 =>
        cases r3
        exact ⟨p, _, rfl, h1.sq, rfl, _, _, rfl, _, _, rfl, rfl, q _ ((E.set r1.1 r1.2).set r2.1 r2.2) (wipe_two σ i j _ _)⟩
  · rename_i a1 b1
    cases h
    obtain ⟨_, p, x, y, rfl, h1, r1, r2⟩ := r
    exact ⟨p, _, rfl, .inl (.inl h1), rfl, _, _, rfl, _, _, rfl, rfl, q _ ((E.set r1.1 r1.2).set r2.1 r2.2) (wipe_two σ i j _ _)⟩
  · cases h
theorem RE.wipe {σ : L2.St} {ρ : Rho} (h : RE K μ n H σ ρ) : ∀ js : List Nat, RE K μ n H (wipe σ js) (wipeR ρ js)
  | [] => h
  | j :: js => (RE.wipe h js).wipe1
/-- an object that is no object of the store, no tuple, no locked list, is changed -/
theorem Rep.other {p : Addr} {o o' : HO} (hp : H p = some o) (h1 : ∀ xs, o ≠ .tup xs) (h2 : ∀ x z, o ≠ .frz x z) : ∀ {a : A} {v : V}, a.nt → Rep K μ n H a v → Rep K μ n (upd H p o') a v := by
  have ne : ∀ {q u}, H q = some u → u ≠ o → q ≠ p := fun h1 h2 e => by rw [e, hp] at h1; exact h2 (Option.some.inj h1).symm
  suffices main : ∀ k, (∀ {a : A} {v : V}, sizeOf a < k → a.nt → Rep K μ n H a v → Rep K μ n (upd H p o') a v) ∧ (∀ {xs : List A} {vs : List V}, sizeOf xs < k → RepL K μ n H xs vs → RepL K μ n (upd H p o') xs vs) from
    fun {a v} hn r => (main (sizeOf a + 1)).1 (Nat.lt_succ_self _) hn r
  intro k
  induction k with
  | zero => exact ⟨fun h => absurd h (by omega), fun h => absurd h (by omega)⟩
  | succ k ih =>
    refine ⟨?_, ?_⟩
    · intro a v hk hn r
      cases a with
      | tup xs =>
        obtain ⟨q, vs, rfl, h3, h4⟩ := r
        refine ⟨q, vs, rfl, ?_, ih.2 (by simp at hk; omega) h4⟩
        rcases h3 with ⟨x, h3, h5⟩ | h3
        · exact .inl ⟨x, by rw [upd_ne (ne h3 fun e => h2 _ _ e.symm)]; exact h3, h5⟩
        · exact .inr h3
      | pr b c =>
        obtain ⟨q, x, y, rfl, h3, h4, h5⟩ := r
        exact ⟨q, x, y, rfl, by rw [upd_ne (ne h3 fun e => h1 _ e.symm)]; exact h3, ⟨h4.1, ih.1 (by simp at hk; omega) h4.1 h4.2⟩, h5.1, ih.1 (by simp at hk; omega) h5.1 h5.2⟩
      | frz xs =>
        obtain ⟨q, vs, rfl, h3, h4⟩ := r
        refine ⟨q, vs, rfl, ?_, ih.2 (by simp at hk; omega) h4⟩
        rcases h3 with ⟨x, h3⟩ | h3
        · exact .inl ⟨x, by rw [upd_ne (ne h3 fun e => h2 _ _ e.symm)]; exact h3⟩
        · exact .inr h3
      | tmp xs => exact hn.elim
      | dtm xs => exact hn.elim
      | _ => exact r
    · intro xs vs hk r
      cases xs with
      | nil => exact r
      | cons x xs =>
        obtain ⟨v, vr, rfl, h3, h4, h5⟩ := r
        refine ⟨v, vr, rfl, h3, ih.1 (by simp at hk; omega) h3 h4, ih.2 (by simp at hk; omega) h5⟩
theorem RN.other {p : Addr} {o o' : HO} (hp : H p = some o) (h1 : ∀ xs, o ≠ .tup xs) (h2 : ∀ x z, o ≠ .frz x z) {a : A} {v : V} (r : RN K μ n H a v) : RN K μ n (upd H p o') a v := ⟨r.1, r.2.other hp h1 h2 r.1⟩
theorem RS.other {p : Addr} {o o' : HO} (S : RS K μ st H) (hp : H p = some o) (h1 : ∀ xs, o ≠ .tup xs) (h2 : ∀ x z, o ≠ .frz x z) (ne : ∀ l, l < st.length → μ l ≠ p) : RS K μ st (upd H p o') := by
  refine ⟨fun l u e => ?_, S.inj⟩
  have hl := (List.getElem?_eq_some_iff.mp e).1
  have h3 := S.at_ l u e
  cases u with
  | lst xs =>
    obtain ⟨vs, h4, h5⟩ := h3
    exact ⟨vs, by rw [upd_ne (ne l hl)]; exact h4, repL_iff.mpr ((repL_iff.mp h5).mono fun _ _ r => r.other hp h1 h2)⟩
  | dic xs =>
    obtain ⟨vs, h4, h5⟩ := h3
    exact ⟨vs, by rw [upd_ne (ne l hl)]; exact h4, repD_iff.mpr ((repD_iff.mp h5).mono fun _ _ r => ⟨r.1, RN.other hp h1 h2 r.2⟩)⟩
structure LcI (K : PySem.W.Frag) (μ1 : Nat → Addr) (n1 : Nat) (H1 : Hp) (D : Addr) (μ : Nat → Addr) (st : Sto) (H : Hp) (acc : List A) (vs : List V) : Prop where
  S : RS K μ st H
  E : Ext μ1 n1 H1 μ st.length H
  ne : ∀ l, l < st.length → μ l ≠ D
  at_ : H D = some (.lst vs)
  r : Paired (RN K μ st.length H) acc vs
theorem LcI.step {μ1 : Nat → Addr} {n1 : Nat} {H1 : Hp} {D : Addr} {acc : List A} {vs : List V} (I : LcI K μ1 n1 H1 D μ st H acc vs) (S' : RS K μ' st' H') (E' : Ext μ st.length H μ' st'.length H') : LcI K μ1 n1 H1 D μ' st' H' acc vs := by
  refine ⟨S', I.E.trans E', fun l hl e => ?_, E'.fr _ _ I.at_ I.ne, I.r.mono fun _ _ r => RN.ext r I.S E'⟩
  by_cases h : l < st.length
  · rw [E'.ag l h] at e
    exact I.ne l h e
  · have := E'.nw l (by omega) hl
    rw [e, I.at_] at this
    cases this
theorem LcI.app {μ1 : Nat → Addr} {n1 : Nat} {H1 : Hp} {D : Addr} {acc : List A} {vs : List V} {a : A} {v : V} (hD : H1 D = none) (I : LcI K μ1 n1 H1 D μ st H acc vs) (r : RN K μ st.length H a v) :
    LcI K μ1 n1 H1 D μ st (upd H D (.lst (vs ++ [v]))) (acc ++ [a]) (vs ++ [v]) := by
  have g1 : ∀ xs, HO.lst vs ≠ .tup xs := fun _ e => nomatch e
  have g2 : ∀ x z, HO.lst vs ≠ .frz x z := fun _ _ e => nomatch e
  refine ⟨I.S.other I.at_ g1 g2 I.ne, ⟨I.E.le, I.E.ag, fun p o h1 h2 => ?_, fun p h => ?_, I.E.nw⟩, I.ne, upd_same, pd_append (I.r.mono fun _ _ z => RN.other I.at_ g1 g2 z) (.cons (RN.other I.at_ g1 g2 r) .nil)⟩
  · rw [upd_ne (ne_of_none h1 hD)]
    exact I.E.fr p o h1 h2
  · by_cases e : p = D
    · rw [e]; exact hD
    · rw [upd_ne e] at h
      exact I.E.so p h
theorem w_lc {wi : TI} {t : TG} {σ : L2.St} {H : Hp} {Q : VK} {tt : TT} (lt : LTg K js g t) (hw : ∀ σ H Z, iOf K fi σ H Z → wi σ H Z) (ht : ∀ σ H Z, uOf K u σ H Z → tt σ H Z) (h : tOf K (fLc fi js g u f) σ H Q) :
    tLc wi t tt (tBn K f) js σ H Q := by
  obtain ⟨μ, st, ρ, z, st', S, E, h, q⟩ := h
  unfold fLc at h
  split at h
  · rename_i xs G st1 h1
    split at h
    · rename_i accF st2 h2
      cases h
      refine hw _ _ _ ⟨μ, st, ρ, xs, G, st1, S, E, h1, fun J μ1 H1 GH Y S1 E1 w hG hY D hD => ?_⟩
      have R1 : RE K μ1 st1.length H1 (L2.wipe σ js) (wipeR ρ js) := (E.ext S E1).wipe js
      refine lc_it w (Qd := fun H => Q (.ref D) H) (fun i H2 => ∃ μ2 st2' acc vs, LcI K μ1 st1.length H1 D μ2 st2' H2 acc vs ∧ lcF (wipeR ρ js) g u f G (xs.drop i) acc st2' = .ok accF st') ⟨μ1, st1, [], [], ?_, h2⟩ ?_ ?_ ?_
      · obtain ⟨S', E'⟩ := S1.new (o := .lst []) hD
        exact ⟨S', E', S1.ne_free hD, upd_same, .nil⟩
      · rintro i H2 hi ⟨μ2, st2', acc, vs, I, h3⟩
        refine hG μ2 st2' H2 I.S I.E ?_
        cases hd : xs.drop i with
        | nil =>
          rw [hd] at h3
          unfold lcF at h3
          split at h3
          · assumption
          · cases h3
        | cons x r =>
          rw [hd] at h3
          unfold lcF at h3
          split at h3
          · assumption
          · cases h3
      · rintro i x H2 H3 hi ⟨μ2, st2', acc, vs, I, h3⟩ y
        rw [List.drop_eq_getElem_cons hi] at h3
        unfold lcF at h3
        split at h3
        · rename_i hGs
          obtain ⟨S3, E3, r3⟩ := hY i x H2 H3 μ2 st2' xs[i] (List.getElem?_eq_getElem hi) I.S I.E hGs y
          have I3 := I.step S3 E3
          split at h3
          · rename_i ρ1 h4
            refine lt.run S3 (R1.ext S1 I3.E) r3 h4 fun σ2 R2 eW => ⟨eW, ?_⟩
            split at h3
            · rename_i st4 h5
              refine ht _ _ _ ⟨μ2, st2', ρ1, true, st4, S3, R2, h5, fun μ4 H4 S4 E4 => iteT ?_⟩
              have I4 := I3.step S4 E4
              split at h3
              · rename_i a5 st5 h6
                split at h3
                · rename_i hz
                  refine ⟨μ4, st4, ρ1, a5, st5, S4, R2.ext S3 E4, h6, fun v5 μ5 H5 S5 E5 r5 => ?_⟩
                  have I5 := I4.step S5 E5
                  exact ⟨vs, I5.at_, by rw [← I5.r.length]; exact hz, μ5, st5, acc ++ [a5], vs ++ [v5], I5.app hD r5, h3⟩
                · cases h3
              · cases h3
            · rename_i st4 h5
              refine ht _ _ _ ⟨μ2, st2', ρ1, false, st4, S3, R2, h5, fun μ4 H4 S4 E4 => iteF ?_⟩
              exact ⟨μ4, st4, acc, vs, I3.step S4 E4, h3⟩
            · cases h3
          · cases h3
        · cases h3
      · rintro H2 ⟨μ2, st2', acc, vs, I, h3⟩
        rw [List.drop_length] at h3
        unfold lcF at h3
        split at h3
        · cases h3
          refine q (.ref D) μ2 H2 I.S (E1.trans I.E) ⟨D, vs, rfl, I.at_, I.ne, repL_iff.mpr I.r⟩ (.inr ⟨D, rfl, E1.so D hD⟩)
        · cases h3
    · cases h
  · cases h
theorem du_nil : PTs X [] (uOf K uYes) := by
  refine ⟨fun pins s σ H Q I h => ?_⟩
  obtain ⟨μ, st, ρ, b, st', S, E, h, q⟩ := h
  cases h
  exact pts_nil.run pins s σ H Q I (q μ H S Ext.refl)
theorem du_one {c : Expr} (h : PT X c (uOf K u)) : PTs X [c] (uOf K u) := pts_one h
theorem dx_lc {elt tg iter : Expr} {ifs : List Expr} {scope : Scope} {own : List (Str × Nat)} {pos : Pos} {t : TG} (hc : X.calm = true) (hN : X.N.Nodup) (hi : PI X tg iter (iOf K fi)) (ok : BlkOk X.N X.env.scope scope own) (lt : LTg K (own.map (·.2)) g t)
    (hg : ∀ (s : Shared) (H : Hp) (C : Addr) (cl : List (Str × Addr)) (fp : List Addr), PG (X.blk s H scope (compEnvC scope cl C X.env) fp) tg t) (ht : ∀ (s : Shared) (H : Hp) (C : Addr) (cl : List (Str × Addr)) (fp : List Addr), PTs (X.blk s H scope (compEnvC scope cl C X.env) fp) ifs (uOf K u))
    (he : ∀ (s : Shared) (H : Hp) (C : Addr) (cl : List (Str × Addr)) (fp : List Addr), PE (X.blk s H scope (compEnvC scope cl C X.env) fp) elt (tOf K f)) (hs : ∀ x, foldedSetIterable iter X.env x = pure x := by intro _; rfl) :
    PE X (.ListComp elt [⟨tg, iter, ifs, 0⟩] scope pos) (tOf K (fLc fi (own.map (·.2)) g u f)) :=
  pe_weak (pe_lc hc hN hi ok hg ht (fun s H C cl fp => dx_bn (he s H C cl fp)) hs) fun _ _ _ h => w_lc lt (fun _ _ _ z => z) (fun _ _ _ z => z) h
theorem ds_setLc {i : Nat} {y : Str} {py : Pos} {elt tg iter : Expr} {ifs : List Expr} {scope : Scope} {own : List (Str × Nat)} {pos spos : Pos} {t : TG} (hc : X.calm = true) (hN : X.N.Nodup) (hy : X.N[i]? = some y) (hyl : X.env.scope.names.lookup y = some .local)
    (hsw : swapsWith (.ListComp elt [⟨tg, iter, ifs, 0⟩] scope pos) (some (.Name y py)) spos.line X.env = pure true) (hi : PI X tg iter (iOf K fi)) (ok : BlkOk X.N X.env.scope scope own) (lt : LTg K (own.map (·.2)) g t)
    (hg : ∀ (s : Shared) (H : Hp) (C : Addr) (cl : List (Str × Addr)) (fp : List Addr), PG (X.blk s H scope (compEnvC scope cl C X.env) fp) tg t) (ht : ∀ (s : Shared) (H : Hp) (C : Addr) (cl : List (Str × Addr)) (fp : List Addr), PTs (X.blk s H scope (compEnvC scope cl C X.env) fp) ifs (uOf K u))
    (he : ∀ (s : Shared) (H : Hp) (C : Addr) (cl : List (Str × Addr)) (fp : List Addr), PE (X.blk s H scope (compEnvC scope cl C X.env) fp) elt (tOf K f)) (hs : ∀ x, foldedSetIterable iter X.env x = pure x := by intro _; rfl) :
    PS X (.Assign [.Name y py] (.ListComp elt [⟨tg, iter, ifs, 0⟩] scope pos) spos) (sOf K (sAsg (fLc fi (own.map (·.2)) g u f) (gSet i))) := by
  refine ps_weak (ps_setLc hc hN hy hyl hsw hi ok hg ht (fun s H C cl fp => dx_bn (he s H C cl fp)) hs) ?_
  rintro D σ H ⟨μ, st, ρ, S, E, q⟩
  unfold sAsg fB at q
  split at q
  · rename_i a1 st1 h1
    split at h1
    · rename_i a2 st2 h2
      refine w_lc lt (fun _ _ _ z => z) (fun _ _ _ z => z) ⟨μ, st, ρ, a2, st2, S, E, h2, fun v μ1 H1 S1 E1 r1 f1 => ?_⟩
      obtain ⟨μ2, S2, E2, r2, n2⟩ := Post.locd S1 E1 r1 f1 h1
      exact q _ μ2 H1 S2 ((E.ext S E2).set n2 r2) E2
    · cases h1
  · exact q.elim
end
/-! ### defs -/
mutual
def A.bel (n : Nat) : A → Bool
  | .loc l => decide (l < n)
  | .tup xs => belL n xs
  | .pr a b => a.bel n && b.bel n
  | .tmp xs => belL n xs
  | .frz xs => belL n xs
  | .dtm kvs => belD n kvs
  | _ => true
def belL (n : Nat) : List A → Bool
  | [] => true
  | a :: r => a.bel n && belL n r
def belD (n : Nat) : List (Key × A) → Bool
  | [] => true
  | (_, a) :: r => a.bel n && belD n r
end
def O.bel (n : Nat) : O → Bool
  | .lst xs => belL n xs
  | .dic kvs => belD n kvs
section
variable {K : PySem.W.Frag} {μ μ' : Nat → Addr} {n n' m : Nat} {H H' : Hp} {st st' : Sto}
mutual
theorem Rep.cut (ag : ∀ l, l < m → μ' l = μ l) (le : m ≤ n) : ∀ {a : A} {v : V}, a.bel m = true → Rep K μ n H a v → Rep K μ' m H a v
  | .non, _, _, h => h
  | .bl _, _, _, h => h
  | .int _, _, _, h => h
  | .str _, _, _, h => h
  | .tup xs, v, b, ⟨p, vs, e, h1, h2⟩ => ⟨p, vs, e, h1, RepL.cut ag le b h2⟩
  | .pr c d, v, b, ⟨p, x, y, e, h1, h2, h3⟩ => by
    have b' : (c.bel m && d.bel m) = true := b
    rw [Bool.and_eq_true] at b'
    exact ⟨p, x, y, e, h1, ⟨h2.1, Rep.cut ag le b'.1 h2.2⟩, h3.1, Rep.cut ag le b'.2 h3.2⟩
  | .tmp xs, v, b, ⟨p, vs, e, h1, h2, h3⟩ => ⟨p, vs, e, h1, fun l hl => by rw [ag l hl]; exact h2 l (by omega), RepL.cut ag le b h3⟩
  | .frz xs, v, b, ⟨p, vs, e, h1, h3⟩ => ⟨p, vs, e, h1, RepL.cut ag le b h3⟩
  | .loc l, v, b, ⟨h1, h2⟩ => ⟨of_decide_eq_true b, by rw [ag l (of_decide_eq_true b)]; exact h2⟩
  | .dtm xs, v, b, ⟨p, vs, e, h1, h2, h3⟩ => ⟨p, vs, e, h1, fun l hl => by rw [ag l hl]; exact h2 l (by omega), RepD.cut ag le b h3⟩
theorem RepL.cut (ag : ∀ l, l < m → μ' l = μ l) (le : m ≤ n) : ∀ {xs : List A} {vs : List V}, belL m xs = true → RepL K μ n H xs vs → RepL K μ' m H xs vs
  | [], _, _, h => h
  | a :: r, _, b, ⟨v, vr, e, h1, h2, h3⟩ => by
    have b' : (a.bel m && belL m r) = true := b
    rw [Bool.and_eq_true] at b'
    exact ⟨v, vr, e, h1, Rep.cut ag le b'.1 h2, RepL.cut ag le b'.2 h3⟩
theorem RepD.cut (ag : ∀ l, l < m → μ' l = μ l) (le : m ≤ n) : ∀ {xs : List (Key × A)} {vs : List (Key × V)}, belD m xs = true → RepD K μ n H xs vs → RepD K μ' m H xs vs
  | [], _, _, h => h
  | (k, a) :: r, _, b, ⟨v, vr, e, h1, h2, h3⟩ => by
    have b' : (a.bel m && belD m r) = true := b
    rw [Bool.and_eq_true] at b'
    exact ⟨v, vr, e, h1, Rep.cut ag le b'.1 h2, RepD.cut ag le b'.2 h3⟩
end
mutual
theorem Rep.isBel : ∀ {a : A} {v : V}, Rep K μ n H a v → a.bel n = true
  | .non, _, _ => rfl
  | .bl _, _, _ => rfl
  | .int _, _, _ => rfl
  | .str _, _, _ => rfl
  | .tup xs, v, ⟨p, vs, e, h1, h2⟩ => RepL.isBel h2
  | .pr c d, v, ⟨p, x, y, e, h1, h2, h3⟩ => by
    show (c.bel n && d.bel n) = true
    rw [Rep.isBel h2.2, Rep.isBel h3.2]
    rfl
  | .tmp xs, v, ⟨p, vs, e, h1, h2, h3⟩ => RepL.isBel h3
  | .frz xs, v, ⟨p, vs, e, h1, h3⟩ => RepL.isBel h3
  | .loc l, v, ⟨h1, h2⟩ => decide_eq_true h1
  | .dtm xs, v, ⟨p, vs, e, h1, h2, h3⟩ => RepD.isBel h3
theorem RepL.isBel : ∀ {xs : List A} {vs : List V}, RepL K μ n H xs vs → belL n xs = true
  | [], _, h => rfl
  | a :: r, _, ⟨v, vr, e, h1, h2, h3⟩ => by
    show (a.bel n && belL n r) = true
    rw [Rep.isBel h2, RepL.isBel h3]
    rfl
theorem RepD.isBel : ∀ {xs : List (Key × A)} {vs : List (Key × V)}, RepD K μ n H xs vs → belD n xs = true
  | [], _, h => rfl
  | (k, a) :: r, _, ⟨v, vr, e, h1, h2, h3⟩ => by
    show (a.bel n && belD n r) = true
    rw [Rep.isBel h2, RepD.isBel h3]
    rfl
end
end
/-- what was there knows nothing new -/
def Kept (st0 st' : Sto) : Prop := st0.length ≤ st'.length ∧ ∀ l, l < st0.length → st'[l]? = st0[l]? ∨ ∃ o, st'[l]? = some o ∧ o.bel st0.length = true
open Classical in
/-- what a def gives back: its own new list as a new list; its own lists forgotten -/
noncomputable def finish (st0 : Sto) (a : A) (st' : Sto) : R A :=
  if Kept st0 st' then
    (match a with
    | .loc l => if l < st0.length then .ok (.loc l) (st'.take st0.length) else (match st'[l]? with
      | some (.lst xs) => if belL st0.length xs = true then .ok (.tmp xs) (st'.take st0.length) else .ok a st'
      | some (.dic xs) => if belD st0.length xs = true then .ok (.dtm xs) (st'.take st0.length) else .ok a st'
      | none => .ok a st')
    | a => if a.bel st0.length = true then .ok a (st'.take st0.length) else .ok a st')
  else .ok a st'
noncomputable def defn (p n : Nat) (g : FS) : FN := fun as st => if as.length = p then (match g (as.map some ++ List.replicate n none) st with
  | .nx _ st' => finish st .non st'
  | .rt a st' => finish st a st'
  | _ => .no) else .no
section
variable {K : PySem.W.Frag} {μ μ' : Nat → Addr} {H H' : Hp} {st st' : Sto}
theorem RS.take (S : RS K μ st H) (S' : RS K μ' st' H') (E : Ext μ st.length H μ' st'.length H') (k : Kept st st') : RS K μ' (st'.take st.length) H' := by
  have ln : (st'.take st.length).length = st.length := by rw [List.length_take]; have := k.1; omega
  refine ⟨fun l o e => ?_, fun l l' h1 h2 => S'.inj l l' (by have := k.1; omega) (by have := k.1; omega)⟩
  rw [ln]
  have hl : l < st.length := by have := (List.getElem?_eq_some_iff.mp e).1; omega
  rw [List.getElem?_take_of_lt hl] at e
  have b : o.bel st.length = true := by
    rcases k.2 l hl with h | ⟨o', h1, h2⟩
    · rw [e] at h
      have z := S.at_ l o h.symm
      cases o with
      | lst xs =>
        obtain ⟨vs, _, h3⟩ := z
        exact h3.isBel
      | dic xs =>
        obtain ⟨vs, _, h3⟩ := z
        exact h3.isBel
    · rw [e] at h1
      cases h1
      exact h2
  have z := S'.at_ l o e
  cases o with
  | lst xs =>
    obtain ⟨vs, h2, h3⟩ := z
    exact ⟨vs, h2, h3.cut (fun _ _ => rfl) k.1 b⟩
  | dic xs =>
    obtain ⟨vs, h2, h3⟩ := z
    exact ⟨vs, h2, h3.cut (fun _ _ => rfl) k.1 b⟩
theorem Ext.take (E : Ext μ st.length H μ' st'.length H') (k : st.length ≤ st'.length) : Ext μ st.length H μ' (st'.take st.length).length H' := by
  have ln : (st'.take st.length).length = st.length := by rw [List.length_take]; omega
  rw [ln]
  exact ⟨Nat.le_refl _, E.ag, E.fr, E.so, fun l h1 h2 => absurd h1 (by omega)⟩
theorem Post.finish {a b : A} {st2 : Sto} {Q : VK} (S : RS K μ st H) (h : Ev.finish st a st' = .ok b st2) (q : Post K μ st.length H b st2 Q) : Post K μ st.length H a st' Q := by
  intro v μ1 H1 S1 E1 r1 f1
  unfold Ev.finish at h
  split at h
  · rename_i k
    have S2 := S.take S1 E1 k
    have E2 := E1.take k.1
    have ln : (st'.take st.length).length = st.length := by rw [List.length_take]; have := k.1; omega
    split at h
    · rename_i l
      split at h
      · rename_i hl
        cases h
        exact q v μ1 H1 S2 E2 ⟨by rw [ln]; exact hl, r1.2⟩ (.of trivial)
      · rename_i hl
        obtain ⟨hl1, rfl⟩ := r1
        have fr : H (μ1 l) = none := E1.nw l (by omega) hl1
        have ne : ∀ l', l' < st.length → μ1 l' ≠ μ1 l := fun l' h1 e => by
          have := S1.inj l' l (by have := k.1; omega) hl1 e
          omega
        split at h
        · rename_i xs h2
          split at h
          · rename_i hb
            cases h
            obtain ⟨vs, h3, h4⟩ := S1.at_ l _ h2
            exact q _ μ1 H1 S2 E2 ⟨μ1 l, vs, rfl, h3, by rw [ln]; exact ne, h4.cut (fun _ _ => rfl) (by rw [ln]; exact k.1) (by rw [ln]; exact hb)⟩ (.inr ⟨_, rfl, fr⟩)
          · cases h
            exact q _ μ1 H1 S1 E1 ⟨hl1, rfl⟩ (.of trivial)
        · rename_i xs h2
          split at h
          · rename_i hb
            cases h
            obtain ⟨vs, h3, h4⟩ := S1.at_ l _ h2
            exact q _ μ1 H1 S2 E2 ⟨μ1 l, vs, rfl, h3, by rw [ln]; exact ne, h4.cut (fun _ _ => rfl) (by rw [ln]; exact k.1) (by rw [ln]; exact hb)⟩ (.inr ⟨_, rfl, fr⟩)
          · cases h
            exact q _ μ1 H1 S1 E1 ⟨hl1, rfl⟩ (.of trivial)
        · cases h
          exact q _ μ1 H1 S1 E1 ⟨hl1, rfl⟩ (.of trivial)
    · split at h
      · rename_i hb
        cases h
        exact q v μ1 H1 S2 E2 (r1.cut (fun _ _ => rfl) (by rw [ln]; exact k.1) (by rw [ln]; exact hb)) f1
      · cases h
        exact q v μ1 H1 S1 E1 r1 f1
  · cases h
    exact q v μ1 H1 S1 E1 r1 f1
end
section
variable {P : Program} {w : World} {K : PySem.W.Frag} {mg : Str → Option Value} {base : Heap} {k : Nat} {f : Addr} {fd : FuncData} {ps : List Str}
theorem start_re {μ : Nat → Addr} {n m : Nat} {H : Hp} {N : List Str} {as : List A} {vs : List V} (r : Paired (RN K μ n H) as vs) (hN : N.length - vs.length = m) : RE K μ n H (L2.start N vs) (as.map some ++ List.replicate m none) := by
  have hl := r.length
  unfold L2.start
  rw [hN]
  refine ⟨by simp [hl], fun i a e => ?_⟩
  by_cases h : i < as.length
  · rw [List.getElem?_append_left (by simpa using h), List.getElem?_map] at e
    obtain ⟨b, h1, h2⟩ := Option.map_eq_some_iff.mp e
    cases h2
    obtain ⟨v, h3, h4⟩ := pd_get r h1
    exact ⟨h4.1, v, by rw [List.getElem?_append_left (by simpa [← hl] using h), List.getElem?_map, h3]; rfl, h4.2⟩
  · rw [List.getElem?_append_right (by simpa using h), List.getElem?_replicate] at e
    split at e <;> cases e
/-- a def by its body -/
theorem ok_def {x qual : Str} {st : Stmt} {N : List Str} {g : FS} {m : Nat} (F : Fun K x qual st f fd) (S : FnScope N ps (defScope st)) (hm : N.length - ps.length = m)
    (body : ∀ (cdv : Value) (A : Around) (outer : List Env) (s : Shared) (H : Hp) (E : XK), Still A → Room k (A.deeper (envOfC qual (defScope st) s.heap.objs.size f cdv)) →
      PSs (cxOf CX0 P w K mg base N qual (defScope st) f cdv A outer s H E).nox (defBody st) (sOf K g)) : FnG P w K mg base (k + 1) f fd ps (spOf K (defn ps.length m g)) := by
  refine okG F S (fun {vs H Q E} h => ?_) (fun cdv A outer s H vs Q E still hr h => ⟨_, body cdv A outer s H E still hr, ?_⟩)
  · obtain ⟨μ, st, as, a, st', S, r, h, q⟩ := h
    unfold defn at h
    split at h
    · rename_i hl
      rw [← r.length, hl]
    · cases h
  · obtain ⟨μ, st, as, a, st', S, r, h, q⟩ := h
    unfold defn at h
    split at h
    · rename_i hl
      have hv : vs.length = ps.length := by rw [← r.length, hl]
      refine ⟨μ, st, as.map some ++ List.replicate m none, S, start_re r (by rw [hv]; exact hm), ?_⟩
      generalize g (as.map some ++ List.replicate m none) st = z at h
      cases z with
      | nx ρ st1 =>
        intro σ1 μ1 H1 S1 R1 E1
        exact Post.finish S h q .non μ1 H1 S1 E1 rfl (.of trivial)
      | rt b st1 => exact Post.finish S h q
      | bk ρ st => cases h
      | ct ρ st => cases h
      | no => cases h
    · cases h
end
end Ev
namespace Ev
open PySem PySem.Spec PyProof.Rows L2 Gd
/-! ### operators by values -/
instance (i j : Int) : Decidable (CMulW i j) := inferInstanceAs (Decidable (_ < _))
instance (i j : Int) : Decidable (CDivW i j) := inferInstanceAs (Decidable (_ ∧ _))
def lstM (a : A) (st : Sto) : Option (List A) := match a with
  | .tmp xs => some xs
  | .loc l => match st[l]? with
    | some (.lst xs) => some xs
    | _ => none
  | _ => none
section
variable {X : Cx} {K : PySem.W.Frag} {μ μ' : Nat → Addr} {n n' : Nat} {H H' : Hp} {st st' : Sto}
theorem lstM_at {a : A} {v : V} {xs : List A} (S : RS K μ st H) (r : Rep K μ st.length H a v) (h : lstM a st = some xs) : ∃ p vs, v = .ref p ∧ H p = some (.lst vs) ∧ RepL K μ st.length H xs vs := by
  cases a with
  | tmp ys =>
    obtain ⟨p, vs, rfl, h1, h2, h3⟩ := r
    cases h
    exact ⟨p, vs, rfl, h1, h3⟩
  | loc l =>
    obtain ⟨h1, rfl⟩ := r
    unfold lstM at h
    simp only at h
    split at h
    · rename_i ys h2
      cases h
      obtain ⟨vs, h3, h4⟩ := S.at_ l _ h2
      exact ⟨μ l, vs, rfl, h3, h4⟩
    · cases h
  | _ => cases h
theorem seqOf_sq {a : A} {v : V} {xs : List A} (S : RS K μ st H) (r : Rep K μ st.length H a v) (h : seqOf a st = some xs) : ∃ p vs, v = .ref p ∧ (SqL K H p vs ∨ SqT K H p vs) ∧ RepL K μ st.length H xs vs := by
  unfold seqOf at h
  split at h
  · rename_i ys
    cases h
    obtain ⟨p, vs, rfl, h1, h2⟩ := r
    exact ⟨p, vs, rfl, .inr h1.sq, h2⟩
  · cases h
    obtain ⟨p, x, y, rfl, h1, h2, h3⟩ := r
    exact ⟨p, _, rfl, .inr (.inl (.inl h1)), repL_iff.mpr (.cons h2 (.cons h3 .nil))⟩
  · obtain ⟨p, vs, e, h1, h2, _⟩ := lstOf_sq S r h
    exact ⟨p, vs, e, .inl h1, h2⟩
def opAdd : F2 := fun a b st => match a, b with
  | .int i, .int j => .ok (.int (i + j)) st
  | .str x, .str y => if x.length + y.length ≤ sizeLine then .ok (.str (x ++ y)) st else .no
  | .tup xs, .tup ys => if xs.length + ys.length ≤ sizeLine then .ok (.tup (xs ++ ys)) st else .no
  | a, b => match lstM a st, lstM b st with
    | some xs, some ys => if xs.length + ys.length ≤ sizeLine then .ok (.tmp (xs ++ ys)) st else .no
    | _, _ => .no
def rAdd4 (K : PySem.W.Frag) : R2 := rOr (rI0 fun i j => .int (i + j)) (rOr (fun x y H Q => ∃ i j, x = .str i ∧ y = .str j ∧ i.length + j.length ≤ sizeLine ∧ Q (.str (i ++ j)) H) (rOr (rCatX K) rCat))
theorem or_add (hK : X.K = K) : OpR X (binaryOp .Add) (rAdd4 K) := opr_or op_add (opr_or op_add_str (opr_or (op_catX hK) op_cat))
theorem og_add : Op2 K (rAdd4 K) opAdd := by
  intro μ st H a b c st' v u Q S ra rb h q
  unfold opAdd at h
  split at h
  · cases h
    exact .inl ⟨_, _, ra, rb, q.ok S rfl trivial⟩
  · split at h
    · rename_i hl
      cases h
      exact .inr (.inl ⟨_, _, ra, rb, hl, q.ok S rfl trivial⟩)
    · cases h
  · rename_i xs ys
    split at h
    · rename_i hl
      cases h
      obtain ⟨p, vs, rfl, h1, h2⟩ := ra
      obtain ⟨p2, vs2, rfl, h3, h4⟩ := rb
      have e1 := (repL_iff.mp h2).length
      have e2 := (repL_iff.mp h4).length
      refine .inr (.inr (.inl ⟨p, p2, vs, vs2, rfl, rfl, h1.sq, h3.sq, by omega, fun e => ?_, fun n e => ?_, fun n1 n2 => ?_⟩))
      · have : xs = [] := List.eq_nil_of_length_eq_zero (by rw [e1, e]; rfl)
        subst this
        exact q.ok S ⟨p2, vs2, rfl, h3, h4⟩ trivial
      · have : ys = [] := List.eq_nil_of_length_eq_zero (by rw [e2, e]; rfl)
        subst this
        rw [List.append_nil] at q
        exact q.ok S ⟨p, vs, rfl, h1, h2⟩ trivial
      · exact q.tup S (repL_iff.mpr (pd_append (repL_iff.mp h2) (repL_iff.mp h4)))
    · cases h
  · split at h
    · rename_i xs ys h1 h2
      split at h
      · rename_i hl
        cases h
        obtain ⟨p, vs, rfl, h3, h4⟩ := lstM_at S ra h1
        obtain ⟨p2, vs2, rfl, h5, h6⟩ := lstM_at S rb h2
        have e1 := (repL_iff.mp h4).length
        have e2 := (repL_iff.mp h6).length
        exact .inr (.inr (.inr ⟨p, p2, vs, vs2, rfl, rfl, h3, h5, by omega, fun t ht => q.tmp S ht (repL_iff.mpr (pd_append (repL_iff.mp h4) (repL_iff.mp h6)))⟩))
      · cases h
    · cases h
/-- ints -/
def opInt (C : Int → Int → Prop) [∀ i j, Decidable (C i j)] (f : Int → Int → Int) : F2 := fun a b st => match a, b with
  | .int i, .int j => if C i j then .ok (.int (f i j)) st else .no
  | _, _ => .no
theorem og_I {C : Int → Int → Prop} [∀ i j, Decidable (C i j)] {f : Int → Int → Int} : Op2 K (rI C fun i j => .int (f i j)) (opInt C f) := by
  intro μ st H a b c st' v u Q S ra rb h q
  unfold opInt at h
  split at h
  · split at h
    · rename_i hc
      cases h
      exact ⟨_, _, ra, rb, hc, q.ok S rfl trivial⟩
    · cases h
  · cases h
def opSub : F2 := fun a b st => match a, b with
  | .int i, .int j => .ok (.int (i - j)) st
  | _, _ => .no
theorem og_sub : Op2 K (rI0 fun i j => .int (i - j)) opSub := by
  intro μ st H a b c st' v u Q S ra rb h q
  unfold opSub at h
  split at h
  · cases h
    exact ⟨_, _, ra, rb, q.ok S rfl trivial⟩
  · cases h
abbrev opDiv : F2 := opInt CDivW (· / ·)
abbrev opMod : F2 := opInt (fun _ j => 0 < j) (· % ·)
instance (i j : Int) : Decidable (CPow i j) := inferInstanceAs (Decidable (_ ∧ _ ∧ _))
abbrev opPow : F2 := opInt CPow (fun i j => i ^ j.toNat)
def opMul : F2 := fun a b st => match a, b with
  | .int i, .int j => if CMulW i j then .ok (.int (i * j)) st else .no
  | .tup xs, .int k => if xs.length ≠ 0 ∧ 1 ≤ k ∧ k ≤ 1000 ∧ xs.length ≤ 1000 then .ok (.tup (List.replicate k.toNat xs).flatten) st else .no
  | a, .int k => match lstM a st with
    | some xs => if -(2 ^ 63) ≤ k ∧ k < 2 ^ 63 ∧ xs.length * k.toNat ≤ sizeLine then .ok (.tmp (List.replicate k.toNat xs).flatten) st else .no
    | none => .no
  | _, _ => .no
def opLt : F2 := fun a b st => match a, b with
  | .int i, .int j => .ok (.bl (decide (i < j))) st
  | _, _ => .no
def opLe : F2 := fun a b st => match a, b with
  | .int i, .int j => .ok (.bl (decide (i ≤ j))) st
  | _, _ => .no
def opGt : F2 := fun a b st => match a, b with
  | .int i, .int j => .ok (.bl (decide (j < i))) st
  | _, _ => .no
def opGe : F2 := fun a b st => match a, b with
  | .int i, .int j => .ok (.bl (decide (j ≤ i))) st
  | _, _ => .no
theorem og_lt : Op2 K (rI0 fun i j => .bl (decide (i < j))) opLt := by
  intro μ st H a b c st' v u Q S ra rb h q
  unfold opLt at h
  split at h
  · cases h; exact ⟨_, _, ra, rb, q.ok S rfl trivial⟩
  · cases h
theorem og_le : Op2 K (rI0 fun i j => .bl (decide (i ≤ j))) opLe := by
  intro μ st H a b c st' v u Q S ra rb h q
  unfold opLe at h
  split at h
  · cases h; exact ⟨_, _, ra, rb, q.ok S rfl trivial⟩
  · cases h
theorem og_gt : Op2 K (rI0 fun i j => .bl (decide (j < i))) opGt := by
  intro μ st H a b c st' v u Q S ra rb h q
  unfold opGt at h
  split at h
  · cases h; exact ⟨_, _, ra, rb, q.ok S rfl trivial⟩
  · cases h
theorem og_ge : Op2 K (rI0 fun i j => .bl (decide (j ≤ i))) opGe := by
  intro μ st H a b c st' v u Q S ra rb h q
  unfold opGe at h
  split at h
  · cases h; exact ⟨_, _, ra, rb, q.ok S rfl trivial⟩
  · cases h
/-! == -/
mutual
def dW (g : Nat → Option PyData) : A → Option PyData
  | .non => some .none
  | .bl b => some (.bool b)
  | .int i => some (.int i)
  | .str x => some (.str x)
  | .tup xs => (dWs g xs).map .tuple
  | .pr a b => (match dW g a, dW g b with
    | some d, some e => some (.tuple [d, e])
    | _, _ => none)
  | .tmp xs => (dWs g xs).map .list
  | .frz xs => (dWs g xs).map .list
  | .loc l => g l
  | .dtm _ => none
def dWs (g : Nat → Option PyData) : List A → Option (List PyData)
  | [] => some []
  | a :: r => (match dW g a, dWs g r with
    | some d, some ds => some (d :: ds)
    | _, _ => none)
end
def dS : Nat → Sto → A → Option PyData
  | 0, _ => dW fun _ => none
  | k + 1, st => dW fun l => match st[l]? with
    | some (.lst xs) => (dWs (fun l => match st[l]? with
      | some (.lst ys) => (dWs (fun _ => none) ys).map .list
      | _ => none) xs).map .list
    | _ => none
/-- the data that it is -/
def toD (st : Sto) : A → Option PyData := dS 1 st
mutual
theorem dW_ok {g : Nat → Option PyData} (hg : ∀ l d, l < n → g l = some d → Dp K H (.ref (μ l)) d) : ∀ {a : A} {v : V} {d : PyData}, Rep K μ n H a v → dW g a = some d → Dp K H v d
  | .non, v, d, r, h => by cases (show v = .non from r); cases h; exact .non
  | .bl b, v, d, r, h => by cases (show v = .bl b from r); cases h; exact .bl b
  | .int b, v, d, r, h => by cases (show v = .int b from r); cases h; exact .int b
  | .str b, v, d, r, h => by cases (show v = .str b from r); cases h; exact .str b
  | .tup xs, v, d, ⟨p, vs, e, h1, h2⟩, h => by
    subst e
    have h' : (dWs g xs).map PyData.tuple = some d := h
    obtain ⟨ds, h3, rfl⟩ := Option.map_eq_some_iff.mp h'
    exact .tup h1.sq (dWs_ok hg h2 h3)
  | .pr a b, v, d, ⟨p, x, y, e, h1, h2, h3⟩, h => by
    subst e
    unfold dW at h
    split at h
    · rename_i d1 d2 h4 h5
      cases h
      exact .tup (.inl (.inl h1)) (.cons (dW_ok hg h2.2 h4) (.cons (dW_ok hg h3.2 h5) .nil))
    · cases h
  | .tmp xs, v, d, ⟨p, vs, e, h1, _, h2⟩, h => by
    subst e
    have h' : (dWs g xs).map PyData.list = some d := h
    obtain ⟨ds, h3, rfl⟩ := Option.map_eq_some_iff.mp h'
    exact .lst (.inl (.inl h1)) (dWs_ok hg h2 h3)
  | .frz xs, v, d, ⟨p, vs, e, h1, h2⟩, h => by
    subst e
    have h' : (dWs g xs).map PyData.list = some d := h
    obtain ⟨ds, h3, rfl⟩ := Option.map_eq_some_iff.mp h'
    refine .lst ?_ (dWs_ok hg h2 h3)
    rcases h1 with ⟨o, h1⟩ | h1
    · exact .inl (.inr ⟨o, h1⟩)
    · exact .inr h1
  | .loc l, v, d, ⟨h1, e⟩, h => by
    subst e
    exact hg l d h1 h
  | .dtm _, v, d, r, h => by cases h
theorem dWs_ok {g : Nat → Option PyData} (hg : ∀ l d, l < n → g l = some d → Dp K H (.ref (μ l)) d) : ∀ {xs : List A} {vs : List V} {ds : List PyData}, RepL K μ n H xs vs → dWs g xs = some ds → DpAll K H vs ds
  | [], vs, ds, r, h => by cases (show vs = [] from r); cases h; exact .nil
  | a :: xs, vs, ds, ⟨v, vr, e, _, h1, h2⟩, h => by
    subst e
    unfold dWs at h
    split at h
    · rename_i d ds' h3 h4
      cases h
      exact .cons (dW_ok hg h1 h3) (dWs_ok hg h2 h4)
    · cases h
end
theorem toD_ok {a : A} {v : V} {d : PyData} (S : RS K μ st H) (r : Rep K μ st.length H a v) (h : toD st a = some d) : Dp K H v d := by
  refine dW_ok (fun l d hl h => ?_) r h
  split at h
  · rename_i xs h1
    obtain ⟨ds, h2, rfl⟩ := Option.map_eq_some_iff.mp h
    obtain ⟨vs, h3, h4⟩ := S.at_ l _ h1
    refine .lst (.inl (.inl h3)) (dWs_ok (fun l d hl h => ?_) h4 h2)
    split at h
    · rename_i ys h5
      obtain ⟨es, h6, rfl⟩ := Option.map_eq_some_iff.mp h
      obtain ⟨ws, h7, h8⟩ := S.at_ l _ h5
      exact .lst (.inl (.inl h7)) (dWs_ok (fun l d hl h => by cases h) h8 h6)
    · cases h
  · cases h
def opEq : F2 := fun a b st => match a, b with
  | .str x, .str y => .ok (.bl (decide (x = y))) st
  | a, b => (match toD st a, toD st b with
    | some d, some e => if (SeqAt.shaped d && SeqAt.shaped e) = true then .ok (.bl (PyData.eqv d e)) st else .no
    | _, _ => .no)
def opNe : F2 := fun a b st => match a, b with
  | .str x, .str y => .ok (.bl (!decide (x = y))) st
  | a, b => (match toD st a, toD st b with
    | some d, some e => if (SeqAt.shaped d && SeqAt.shaped e) = true then .ok (.bl (!PyData.eqv d e)) st else .no
    | _, _ => .no)
theorem dec_str (x y : Str) : decide (V.str x = V.str y) = decide (x = y) := by
  by_cases e : x = y
  · subst e
    rw [decide_eq_true rfl, decide_eq_true rfl]
  · rw [decide_eq_false e, decide_eq_false fun z => e (V.str.inj z)]
theorem or_eq (hK : X.K = K) (hu : X.A.units + 64 < cLine) : OpR X (compareOp .Eq) (rOr rEq (rEqD K)) := opr_or op_eq (eqK hK hu)
theorem or_ne (hK : X.K = K) (hu : X.A.units + 64 < cLine) : OpR X (compareOp .NotEq) (rOr rNe (rNeD K)) := opr_or op_ne (neK hK hu)
theorem og_eq : Op2 K (rOr rEq (rEqD K)) opEq := by
  intro μ st H a b c st' v u Q S ra rb h q
  unfold opEq at h
  split at h
  · rename_i x y
    cases h
    cases (show v = .str x from ra)
    cases (show u = .str y from rb)
    exact .inl ⟨rfl, by rw [dec_str]; exact q.ok S rfl trivial⟩
  · split at h
    · rename_i d e h1 h2
      split at h
      · rename_i hs
        cases h
        rw [Bool.and_eq_true] at hs
        exact .inr ⟨d, e, toD_ok S ra h1, toD_ok S rb h2, hs.1, hs.2, q.ok S rfl trivial⟩
      · cases h
    · cases h
theorem og_ne : Op2 K (rOr rNe (rNeD K)) opNe := by
  intro μ st H a b c st' v u Q S ra rb h q
  unfold opNe at h
  split at h
  · rename_i x y
    cases h
    cases (show v = .str x from ra)
    cases (show u = .str y from rb)
    exact .inl ⟨rfl, by rw [dec_str]; exact q.ok S rfl trivial⟩
  · split at h
    · rename_i d e h1 h2
      split at h
      · rename_i hs
        cases h
        rw [Bool.and_eq_true] at hs
        exact .inr ⟨d, e, toD_ok S ra h1, toD_ok S rb h2, hs.1, hs.2, q.ok S rfl trivial⟩
      · cases h
    · cases h
/-! is None, is True -/
def isNon : A → Bool
  | .non => true
  | _ => false
def opIs : F2 := fun a b st => match b with
  | .non => .ok (.bl (isNon a)) st
  | .bl y => (match a with | .bl x => .ok (.bl (decide (x = y))) st | _ => .no)
  | _ => .no
def opIsN : F2 := fun a b st => match b with
  | .non => .ok (.bl (!isNon a)) st
  | .bl y => (match a with | .bl x => .ok (.bl (!decide (x = y))) st | _ => .no)
  | _ => .no
def rIs2 : R2 := rOr (fun x y H Q => y = .non ∧ Q (.bl (decide (x = .non))) H) (fun x y H Q => ∃ a b, x = .bl a ∧ y = .bl b ∧ Q (.bl (decide (a = b))) H)
def rIsN2 : R2 := rOr (fun x y H Q => y = .non ∧ Q (.bl (!decide (x = .non))) H) (fun x y H Q => ∃ a b, x = .bl a ∧ y = .bl b ∧ Q (.bl (!decide (a = b))) H)
theorem or_is : OpR X (compareOp .Is) rIs2 := opr_or op_isN op_is_bl
theorem or_isn : OpR X (compareOp .IsNot) rIsN2 := opr_or op_notN op_isnot_bl
theorem non_iff {a : A} {v : V} (r : Rep K μ n H a v) : decide (v = .non) = isNon a := by
  cases a with
  | non => cases (show v = .non from r); rfl
  | bl b => cases (show v = .bl b from r); rfl
  | int b => cases (show v = .int b from r); rfl
  | str b => cases (show v = .str b from r); rfl
  | tup b => obtain ⟨p, vs, rfl, _⟩ := r; rfl
  | pr b c => obtain ⟨p, x, y, rfl, _⟩ := r; rfl
  | tmp b => obtain ⟨p, vs, rfl, _⟩ := r; rfl
  | frz b => obtain ⟨p, vs, rfl, _⟩ := r; rfl
  | loc b => obtain ⟨_, rfl⟩ := r; rfl
  | dtm b => obtain ⟨p, vs, rfl, _⟩ := r; rfl
theorem og_is : Op2 K rIs2 opIs := by
  intro μ st H a b c st' v u Q S ra rb h q
  unfold opIs at h
  split at h
  · cases h
    refine .inl ⟨rb, ?_⟩
    rw [non_iff ra]
    exact q.ok S rfl trivial
  · split at h
    · cases h
      exact .inr ⟨_, _, ra, rb, q.ok S rfl trivial⟩
    · cases h
  · cases h
theorem og_isn : Op2 K rIsN2 opIsN := by
  intro μ st H a b c st' v u Q S ra rb h q
  unfold opIsN at h
  split at h
  · cases h
    refine .inl ⟨rb, ?_⟩
    rw [non_iff ra]
    exact q.ok S rfl trivial
  · split at h
    · cases h
      exact .inr ⟨_, _, ra, rb, q.ok S rfl trivial⟩
    · cases h
  · cases h
/-! subscripts, slices -/
def opIx : F2 := fun a b st => match a, b with
  | .str z, .int i => if z.length ≤ sizeLine then (match atI z.cps.toList i with
    | some c => .ok (.str ⟨#[c]⟩) st
    | none => .no) else .no
  | a, .int i => (match seqOf a st with
    | some xs => (match atI xs i with
      | some x => .ok x st
      | none => .no)
    | none => .no)
  | _, _ => .no
theorem or_ix (hK : X.K = K) : IxR X (rIx K) := hK ▸ ix_seq
theorem og_ix : Op2 K (rIx K) opIx := by
  intro μ st H a b c st' v u Q S ra rb h q
  unfold opIx at h
  split at h
  · rename_i z i
    split at h
    · rename_i hz
      split at h
      · rename_i c h1
        cases h
        exact .inr (.inr ⟨z, i, c, ra, rb, hz, h1, q.ok S rfl trivial⟩)
      · cases h
    · cases h
  · rename_i i _
    split at h
    · rename_i xs h1
      split at h
      · rename_i x h2
        cases h
        obtain ⟨p, vs, rfl, h3, h4⟩ := seqOf_sq S ra h1
        have h4 := repL_iff.mp h4
        unfold atI at h2
        obtain ⟨j, h5, h6⟩ := Option.bind_eq_some_iff.mp h2
        obtain ⟨y, h7, h8⟩ := pd_get h4 h6
        have h9 : atI vs i = some y := by
          unfold atI
          rw [← h4.length, h5]
          exact h7
        have fin := q.ok S h8.2 h8.1
        rcases h3 with h3 | h3
        · exact .inl ⟨p, vs, i, y, rfl, rb, h3, h9, fin⟩
        · exact .inr (.inl ⟨p, vs, i, y, rfl, rb, h3, h9, fin⟩)
      · cases h
    · cases h
  · cases h
def cutA {α : Type} (xs : List α) (lo hi : Option Int) : List α := (xs.drop (HT.sIx xs.length 0 lo)).take (HT.sIx xs.length xs.length hi - HT.sIx xs.length 0 lo)
abbrev FO := Rho → Sto → R (Option Int)
def oN : FO := fun _ st => .ok none st
def oS (f : FE) : FO := fun ρ st => match f ρ st with
  | .ok (.int i) st1 => .ok (some i) st1
  | _ => .no
def cut (a : A) (lo hi : Option Int) (st : Sto) : R A := match a with
  | .str z => if z.length ≤ sizeLine then .ok (.str (cutS z lo hi)) st else .no
  | .tup xs => .ok (.tup (cutA xs lo hi)) st
  | a => (match lstOf a st with
    | some xs => .ok (.tmp (cutA xs lo hi)) st
    | none => .no)
def fSl (f : FE) (lo hi : FO) : FE := fun ρ st => match f ρ st with
  | .ok a st1 => (match lo ρ st1 with
    | .ok l st2 => (match hi ρ st2 with
      | .ok u st3 => cut a l u st3
      | .no => .no)
    | .no => .no)
  | .no => .no
def poOf (K : PySem.W.Frag) (f : FO) : TO := fun σ H Q => ∃ μ st ρ o st', RS K μ st H ∧ RE K μ st.length H σ ρ ∧ f ρ st = .ok o st' ∧ ∀ μ' H', RS K μ' st' H' → Ext μ st.length H μ' st'.length H' → Q o H'
theorem dpo_n : PO X none (poOf K oN) := ⟨fun pins s σ H Q I ⟨μ, st, ρ, o, st', S, E, h, q⟩ => by
  cases h
  exact po_none.run pins s σ H Q I (q μ H S Ext.refl)⟩
theorem dpo_s {e : Expr} {f : FE} (he : PE X e (tOf K f)) : PO X (some e) (poOf K (oS f)) := ⟨fun pins s σ H Q I ⟨μ, st, ρ, o, st', S, E, h, q⟩ => by
  unfold oS at h
  split at h
  · rename_i i st1 h1
    cases h
    exact (po_some he).run pins s σ H Q I ⟨μ, st, ρ, _, _, S, E, h1, fun v μ1 H1 S1 E1 r1 f1 => ⟨i, r1, q μ1 H1 S1 E1⟩⟩
  · cases h⟩
theorem cut_pd {F : A → V → Prop} {xs : List A} {vs : List V} (h : Paired F xs vs) (lo hi : Option Int) : Paired F (cutA xs lo hi) (cutV vs lo hi) := by
  unfold cutA cutV
  rw [h.length]
  exact pd_take _ (pd_drop _ h)
theorem cutA_all {α : Type} {xs : List α} {lo hi : Option Int} (h : HT.sIx xs.length 0 lo = 0 ∧ HT.sIx xs.length xs.length hi = xs.length) : cutA xs lo hi = xs := by
  unfold cutA
  rw [h.1, h.2, List.drop_zero, Nat.sub_zero, List.take_length]
theorem dx_slice {e : Expr} {lo hi : Option Expr} {f : FE} {fl fh : FO} {p2 pos : Pos} (hK : X.K = K) (he : PE X e (tOf K f)) (hl : PO X lo (poOf K fl)) (hu : PO X hi (poOf K fh)) : PE X (.Subscript e (.Slice lo hi none p2) pos) (tOf K (fSl f fl fh)) := by
  subst hK
  refine pe_weak (pe_slice (SlR.or (sl_tupX rfl) (SlR.or sl_list sl_str)) he hl hu) ?_
  rintro σ H Q ⟨μ, st, ρ, a, st', S, E, h, q⟩
  unfold fSl at h
  split at h
  · rename_i a1 st1 h1
    split at h
    · rename_i l st2 h2
      split at h
      · rename_i u st3 h3
        refine ⟨μ, st, ρ, a1, st1, S, E, h1, fun v μ1 H1 S1 E1 r1 f1 => ?_⟩
        refine ⟨μ1, st1, ρ, l, st2, S1, E.ext S E1, h2, fun μ2 H2 S2 E2 => ?_⟩
        refine ⟨μ2, st2, ρ, u, st3, S2, (E.ext S E1).ext S1 E2, h3, fun μ3 H3 S3 E3 => ?_⟩
        have r3 := (r1.ext S1 E2).ext S2 E3
        have q3 := q.from ((E1.trans E2).trans E3)
        unfold cut at h
        split at h
        · split at h
          · rename_i z hz
            cases h
            exact .inr (.inr ⟨_, r3, hz, q3.ok S3 rfl trivial⟩)
          · cases h
        · rename_i xs
          cases h
          obtain ⟨p, vs, rfl, h4, h5⟩ := r3
          have h5' := repL_iff.mp h5
          refine .inl ⟨p, vs, rfl, h4.sq, fun w => ?_, fun w => q3.tup S3 (repL_iff.mpr (cut_pd h5' l u))⟩
          have w' : HT.sIx xs.length 0 l = 0 ∧ HT.sIx xs.length xs.length u = xs.length := by rw [h5'.length]; exact w
          rw [cutA_all w'] at q3
          exact q3.ok S3 ⟨p, vs, rfl, h4, h5⟩ trivial
        · split at h
          · rename_i xs h4
            cases h
            obtain ⟨p, vs, rfl, h5, h6, _⟩ := lstOf_sq S3 r3 h4
            exact .inr (.inl ⟨p, vs, rfl, h5, fun t ht => q3.tmp S3 ht (repL_iff.mpr (cut_pd (repL_iff.mp h6) l u))⟩)
          · cases h
      · cases h
    · cases h
  · cases h
def fRev (f : FE) : FE := fun ρ st => match f ρ st with
  | .ok a st1 => (match lstOf a st1 with
    | some xs => .ok (.tmp xs.reverse) st1
    | none => .no)
  | .no => .no
theorem dx_rev {e : Expr} {f : FE} {k : Nat} {p1 p2 p3 pos : Pos} (hK : X.K = K) (he : PE X e (tOf K f)) : PE X (.Subscript e (.Slice none none (some (.UnaryOp .USub (.Constant (.int 1) k p1) p2)) p3) pos) (tOf K (fRev f)) := by
  subst hK
  refine pe_weak (pe_revL he) ?_
  rintro σ H Q ⟨μ, st, ρ, a, st', S, E, h, q⟩
  unfold fRev at h
  split at h
  · rename_i a1 st1 h1
    split at h
    · rename_i xs h2
      cases h
      refine ⟨μ, st, ρ, a1, _, S, E, h1, fun v μ1 H1 S1 E1 r1 f1 => ?_⟩
      obtain ⟨p, vs, rfl, h5, h6, _⟩ := lstOf_sq S1 r1 h2
      exact ⟨p, vs, rfl, h5, fun t ht => (q.from E1).tmp S1 ht (repL_iff.mpr (pd_rev (repL_iff.mp h6)))⟩
    · cases h
  · cases h
/-! unary -/
def fNeg (f : FE) : FE := fun ρ st => match f ρ st with
  | .ok (.int i) st1 => .ok (.int (-i)) st1
  | _ => .no
theorem dx_neg {e : Expr} {f : FE} {pos : Pos} (he : PE X e (tOf K f)) : PE X (.UnaryOp .USub e pos) (tOf K (fNeg f)) := by
  refine pe_weak (pe_un un_neg he) ?_
  rintro σ H Q ⟨μ, st, ρ, a, st', S, E, h, q⟩
  unfold fNeg at h
  split at h
  · rename_i i st1 h1
    cases h
    exact ⟨μ, st, ρ, _, _, S, E, h1, fun v μ1 H1 S1 E1 r1 f1 => ⟨i, r1, (q.from E1).ok S1 rfl trivial⟩⟩
  · cases h
end
end Ev
namespace Ev
open PySem PySem.Spec PyProof.Rows L2 Gd
/-! ### builtins -/
def intsOf : List A → Option (List Int)
  | [] => some []
  | .int i :: r => (intsOf r).map (i :: ·)
  | _ => none
section
variable {X : Cx} {K : PySem.W.Frag} {μ μ' : Nat → Addr} {n n' : Nat} {H H' : Hp} {st st' : Sto}
theorem intsOf_at : ∀ {xs : List A} {vs : List V} {ns : List Int}, RepL K μ n H xs vs → intsOf xs = some ns → vs = ns.map V.int ∧ xs = ns.map A.int
  | [], vs, ns, r, h => by cases (show vs = [] from r); cases h; exact ⟨rfl, rfl⟩
  | a :: xs, vs, ns, ⟨v, vr, e, _, h1, h2⟩, h => by
    subst e
    cases a with
    | int i =>
      have h' : (intsOf xs).map (i :: ·) = some ns := h
      obtain ⟨ms, h3, rfl⟩ := Option.map_eq_some_iff.mp h'
      obtain ⟨e1, e2⟩ := intsOf_at h2 h3
      cases (show v = .int i from h1)
      rw [e1, e2]
      exact ⟨rfl, rfl⟩
    | _ => cases h
theorem intsOf_map (ns : List Int) : intsOf (ns.map A.int) = some ns := by
  induction ns with
  | nil => rfl
  | cons n ns ih => show (intsOf (ns.map A.int)).map (n :: ·) = _; rw [ih]; rfl
theorem repL_ints : ∀ (ns : List Int), RepL K μ n H (ns.map A.int) (ns.map V.int)
  | [] => rfl
  | i :: ns => ⟨.int i, _, rfl, trivial, rfl, repL_ints ns⟩
def bLen : FN := fun as st => match as with
  | [.str z] => if z.length ≤ sizeLine then .ok (.int z.length) st else .no
  | [a] => (match seqOf a st with
    | some xs => .ok (.int xs.length) st
    | none => .no)
  | _ => .no
def rLen2 (K : PySem.W.Frag) := rOrN (rLenK K) (fun xs H Q => ∃ z, xs = [.str z] ∧ z.length ≤ sizeLine ∧ Q (.int z.length) H)
theorem cr_len (hK : X.K = K) : CallR X (.builtin "len") (rLen2 K) := cr_or (lenK hK) call_len_str
theorem on_len : OpN K (rLen2 K) bLen := by
  intro μ st H as c st' vs Q S r h q
  unfold bLen at h
  split at h
  · rename_i z
    split at h
    · rename_i hz
      cases h
      cases r with
      | cons r1 r2 =>
        cases r2
        cases (show _ = V.str z from r1)
        exact .inr ⟨z, rfl, hz, q.ok S rfl trivial⟩
    · cases h
  · split at h
    · rename_i xs h1
      cases h
      cases r with
      | cons r1 r2 =>
        cases r2
        obtain ⟨p, ws, rfl, h3, h4⟩ := seqOf_sq S r1 h1
        rw [(repL_iff.mp h4).length] at q
        exact .inl ⟨p, ws, rfl, h3, q.ok S rfl trivial⟩
    · cases h
  · cases h
def bAbs : FN := fun as st => match as with
  | [.int i] => .ok (.int (if i < 0 then -i else i)) st
  | _ => .no
theorem on_abs : OpN K (fun xs H Q => ∃ i, xs = [.int i] ∧ Q (.int (if i < 0 then -i else i)) H) bAbs := by
  intro μ st H as c st' vs Q S r h q
  unfold bAbs at h
  split at h
  · cases h
    cases r with
    | cons r1 r2 =>
      cases r2
      cases (show _ = V.int _ from r1)
      exact ⟨_, rfl, q.ok S rfl trivial⟩
  · cases h
def bInt : FN := fun as st => match as with
  | [.int i] => .ok (.int i) st
  | [.bl k] => .ok (.int (if k then 1 else 0)) st
  | _ => .no
theorem on_int : OpN K (fun xs H Q => (∃ i, xs = [.int i] ∧ Q (.int i) H) ∨ ∃ k, xs = [.bl k] ∧ Q (.int (if k then 1 else 0)) H) bInt := by
  intro μ st H as c st' vs Q S r h q
  unfold bInt at h
  split at h
  · cases h
    cases r with
    | cons r1 r2 =>
      cases r2
      cases (show _ = V.int _ from r1)
      exact .inl ⟨_, rfl, q.ok S rfl trivial⟩
  · cases h
    cases r with
    | cons r1 r2 =>
      cases r2
      cases (show _ = V.bl _ from r1)
      exact .inr ⟨_, rfl, q.ok S rfl trivial⟩
  · cases h
def bTup : FN := fun as st => match as with
  | [.tup xs] => .ok (.tup xs) st
  | [a] => (match lstOf a st with
    | some xs => .ok (.tup xs) st
    | none => .no)
  | _ => .no
theorem on_tup : OpN K (rTupX K) bTup := by
  intro μ st H as c st' vs Q S r h q
  unfold bTup at h
  split at h
  · rename_i xs
    cases h
    cases r with
    | cons r1 r2 =>
      cases r2
      obtain ⟨p, ws, rfl, h1, h2⟩ := r1
      exact ⟨p, ws, rfl, .inr ⟨h1.sq, q.ok S ⟨p, ws, rfl, h1, h2⟩ trivial⟩⟩
  · split at h
    · rename_i xs h1
      cases h
      cases r with
      | cons r1 r2 =>
        cases r2
        obtain ⟨p, ws, rfl, h3, h4, _⟩ := lstOf_sq S r1 h1
        exact ⟨p, ws, rfl, .inl ⟨h3, q.tup S h4⟩⟩
    · cases h
  · cases h
def bLst : FN := fun as st => match as with
  | [a] => (match seqOf a st with
    | some xs => .ok (.tmp xs) st
    | none => .no)
  | _ => .no
theorem on_lst : OpN K (rLstK K) bLst := by
  intro μ st H as c st' vs Q S r h q
  unfold bLst at h
  split at h
  · split at h
    · rename_i xs h1
      cases h
      cases r with
      | cons r1 r2 =>
        cases r2
        obtain ⟨p, ws, rfl, h3, h4⟩ := seqOf_sq S r1 h1
        exact ⟨p, ws, rfl, h3, fun t ht => q.tmp S ht h4⟩
    · cases h
  · cases h
def bSum : FN := fun as st => match as with
  | [a] => (match seqOf a st with
    | some xs => (match intsOf xs with
      | some ns => .ok (.int ns.sum) st
      | none => .no)
    | none => .no)
  | _ => .no
theorem seq_ints {a : A} {v : V} {xs : List A} {ns : List Int} (S : RS K μ st H) (r : Rep K μ st.length H a v) (h : seqOf a st = some xs) (h2 : intsOf xs = some ns) : ∃ p, v = .ref p ∧ (SqL K H p (ns.map V.int) ∨ SqT K H p (ns.map V.int)) := by
  obtain ⟨p, ws, rfl, h3, h4⟩ := seqOf_sq S r h
  rw [(intsOf_at h4 h2).1] at h3
  exact ⟨p, rfl, h3⟩
theorem on_sum : OpN K (rSum2 K) bSum := by
  intro μ st H as c st' vs Q S r h q
  unfold bSum at h
  split at h
  · split at h
    · rename_i xs h1
      split at h
      · rename_i ns h2
        cases h
        cases r with
        | cons r1 r2 =>
          cases r2
          obtain ⟨p, rfl, h3⟩ := seq_ints S r1 h1 h2
          exact ⟨p, ns, rfl, h3, q.ok S rfl trivial⟩
      · cases h
    · cases h
  · cases h
def srtI (ns : List Int) : List Int := ns.mergeSort (fun a b => decide (a ≤ b))
theorem srtI_perm (ns : List Int) : (srtI ns).Perm ns := List.mergeSort_perm _ _
theorem srtI_pair (ns : List Int) : (srtI ns).Pairwise (· ≤ ·) := by
  have h := List.pairwise_mergeSort (le := fun a b : Int => decide (a ≤ b)) (by intro a b c; simp; omega) (by intro a b; simp; omega) ns
  exact h.imp (by intro a b h; simpa using h)
theorem srtI_of {ns ms : List Int} (p : ms.Perm ns) (s : ms.Pairwise (· ≤ ·)) : ms = srtI ns :=
  List.Perm.eq_of_pairwise (fun _ _ _ _ a b => Int.le_antisymm a b) s (srtI_pair ns) (p.trans (srtI_perm ns).symm)
def bSrt : FN := fun as st => match as with
  | [a] => (match seqOf a st with
    | some xs => (match intsOf xs with
      | some ns => .ok (.tmp ((srtI ns).map A.int)) st
      | none => .no)
    | none => .no)
  | _ => .no
theorem on_srt : OpN K (rSrt K) bSrt := by
  intro μ st H as c st' vs Q S r h q
  unfold bSrt at h
  split at h
  · split at h
    · rename_i xs h1
      split at h
      · rename_i ns h2
        cases h
        cases r with
        | cons r1 r2 =>
          cases r2
          obtain ⟨p, rfl, h3⟩ := seq_ints S r1 h1 h2
          refine ⟨p, ns, rfl, h3, fun ns' t hp hs ht => ?_⟩
          rw [srtI_of hp hs]
          exact q.tmp S ht (repL_ints _)
      · cases h
    · cases h
  · cases h
/-- the least, the greatest -/
def bMin : FN := fun as st => match as with
  | [.int i, .int j] => .ok (.int (if j < i then j else i)) st
  | [a] => (match lstOf a st with
    | some xs => (match intsOf xs with
      | some ns => (match ns.min? with
        | some m => .ok (.int m) st
        | none => .no)
      | none => .no)
    | none => .no)
  | _ => .no
def bMax : FN := fun as st => match as with
  | [.int i, .int j] => .ok (.int (if j > i then j else i)) st
  | [a] => (match lstOf a st with
    | some xs => (match intsOf xs with
      | some ns => (match ns.max? with
        | some m => .ok (.int m) st
        | none => .no)
      | none => .no)
    | none => .no)
  | _ => .no
def rMin3 (K : PySem.W.Frag) := rOrN (fun xs H Q => ∃ i j, xs = [.int i, .int j] ∧ Q (.int (if j < i then j else i)) H) (rMin K)
def rMax3 (K : PySem.W.Frag) := rOrN (fun xs H Q => ∃ i j, xs = [.int i, .int j] ∧ Q (.int (if j > i then j else i)) H) (rMax K)
theorem cr_min3 (hK : X.K = K) (hc : X.calm = true) : CallR X (.builtin "min") (rMin3 K) := cr_or (call_min2 hc) (minK hK hc)
theorem cr_max3 (hK : X.K = K) (hc : X.calm = true) : CallR X (.builtin "max") (rMax3 K) := cr_or (call_max2 hc) (maxK hK hc)
theorem on_min : OpN K (rMin3 K) bMin := by
  intro μ st H as c st' vs Q S r h q
  unfold bMin at h
  split at h
  · cases h
    cases r with
    | cons r1 r2 =>
      cases r2 with
      | cons r2 r3 =>
        cases r3
        cases (show _ = V.int _ from r1)
        cases (show _ = V.int _ from r2)
        exact .inl ⟨_, _, rfl, q.ok S rfl trivial⟩
  · split at h
    · rename_i xs h1
      split at h
      · rename_i ns h2
        split at h
        · rename_i m h3
          cases h
          cases r with
          | cons r1 r2 =>
            cases r2
            obtain ⟨p, ws, rfl, h4, h5, _⟩ := lstOf_sq S r1 h1
            rw [(intsOf_at h5 h2).1] at h4
            refine .inr ⟨p, ns, rfl, h4, ?_, fun k hk hl => ?_⟩
            · cases ns with
              | nil => cases h3
              | cons _ _ => simp
            · have h6 : ns.min? = some k := List.min?_eq_some_iff.mpr ⟨hk, hl⟩
              rw [h3] at h6
              cases h6
              exact q.ok S rfl trivial
        · cases h
      · cases h
    · cases h
  · cases h
theorem on_max : OpN K (rMax3 K) bMax := by
  intro μ st H as c st' vs Q S r h q
  unfold bMax at h
  split at h
  · cases h
    cases r with
    | cons r1 r2 =>
      cases r2 with
      | cons r2 r3 =>
        cases r3
        cases (show _ = V.int _ from r1)
        cases (show _ = V.int _ from r2)
        exact .inl ⟨_, _, rfl, q.ok S rfl trivial⟩
  · split at h
    · rename_i xs h1
      split at h
      · rename_i ns h2
        split at h
        · rename_i m h3
          cases h
          cases r with
          | cons r1 r2 =>
            cases r2
            obtain ⟨p, ws, rfl, h4, h5, _⟩ := lstOf_sq S r1 h1
            rw [(intsOf_at h5 h2).1] at h4
            refine .inr ⟨p, ns, rfl, h4, ?_, fun k hk hl => ?_⟩
            · cases ns with
              | nil => cases h3
              | cons _ _ => simp
            · have h6 : ns.max? = some k := List.max?_eq_some_iff.mpr ⟨hk, hl⟩
              rw [h3] at h6
              cases h6
              exact q.ok S rfl trivial
        · cases h
      · cases h
    · cases h
  · cases h
/-- what repr can show -/
def ReprOk (d : PyData) : Prop := ∃ dp n, Sm dp n d ∧ dp ≤ 20 ∧ n ≤ 2 ^ 20
open Classical in
noncomputable def bRepr : FN := fun as st => match as with
  | [a] => (match toD st a with
    | some d => if ReprOk d then .ok (.str d.shown) st else .no
    | none => .no)
  | _ => .no
theorem on_repr : OpN K (rReprS K) bRepr := by
  intro μ st H as c st' vs Q S r h q
  unfold bRepr at h
  split at h
  · split at h
    · rename_i d h1
      split at h
      · rename_i ok
        cases h
        cases r with
        | cons r1 r2 =>
          cases r2
          obtain ⟨dp, n, h2, h3, h4⟩ := ok
          exact ⟨_, d, dp, n, rfl, toD_ok S r1 h1, h2, h3, h4, q.ok S rfl trivial⟩
      · cases h
    · cases h
  · cases h
end
end Ev
namespace Ev
open PySem PySem.Spec PyProof.Rows L2 Gd
inductive Ty where
  | nn | bl | int | str | tup | lst | dct
  deriving DecidableEq
def Ty.nm : Ty → String
  | .nn => "NoneType"
  | .bl => "bool"
  | .int => "int"
  | .str => "str"
  | .tup => "tuple"
  | .lst => "list"
  | .dct => "dict"
def tyA (a : A) (st : Sto) : Option Ty := match a with
  | .non => some .nn
  | .bl _ => some .bl
  | .int _ => some .int
  | .str _ => some .str
  | .tup _ => some .tup
  | .pr _ _ => some .tup
  | .tmp _ => some .lst
  | .frz _ => some .lst
  | .dtm _ => some .dct
  | .loc l => match st[l]? with
    | some (.lst _) => some .lst
    | some (.dic _) => some .dct
    | none => none
def Ty.is : Ty → Ty → Bool
  | .nn, .nn => true
  | .bl, .bl => true
  | .bl, .int => true
  | .int, .int => true
  | .str, .str => true
  | .tup, .tup => true
  | .lst, .lst => true
  | .dct, .dct => true
  | _, _ => false
section
variable {X : Cx} {K : PySem.W.Frag} {μ μ' : Nat → Addr} {n n' : Nat} {H H' : Hp} {st st' : Sto}
theorem kit_nm (a b : Ty) : PySem.W.kitOne K (.type a.nm) (.type b.nm) = some (a.is b) := by
  cases a <;> cases b <;> rfl
theorem tyA_ok {a : A} {v : V} {t : Ty} (S : RS K μ st H) (r : Rep K μ st.length H a v) (h : tyA a st = some t) : TyX K H v (.type t.nm) := by
  cases a with
  | non => cases (show v = .non from r); cases h; exact .base .non
  | bl b => cases (show v = .bl b from r); cases h; exact .base (.bl b)
  | int b => cases (show v = .int b from r); cases h; exact .base (.int b)
  | str b => cases (show v = .str b from r); cases h; exact .base (.str b)
  | tup b =>
    obtain ⟨p, vs, rfl, h1, _⟩ := r
    cases h
    rcases h1 with ⟨o, h1, _⟩ | ⟨o, its, m, h1, h2, _⟩
    · exact .fTuple h1
    · exact .kTuple h1 h2.1
  | pr b c =>
    obtain ⟨p, x, y, rfl, h1, _⟩ := r
    cases h
    exact .base (.tup h1)
  | tmp b =>
    obtain ⟨p, vs, rfl, h1, _⟩ := r
    cases h
    exact .base (.lst h1)
  | frz b =>
    obtain ⟨p, vs, rfl, h1, _⟩ := r
    cases h
    rcases h1 with ⟨o, h1⟩ | ⟨o, its, m, h1, h2, _⟩
    · exact .base (.frz h1)
    · exact .kList h1 h2
  | dtm b =>
    obtain ⟨p, vs, rfl, h1, _⟩ := r
    cases h
    exact .base (.dK h1)
  | loc l =>
    obtain ⟨h1, rfl⟩ := r
    unfold tyA at h
    simp only at h
    have z := S.at_ l st[l] (List.getElem?_eq_getElem h1)
    rw [List.getElem?_eq_getElem h1] at h
    generalize st[l] = o at h z
    cases o with
    | lst xs =>
      cases h
      obtain ⟨vs, h2, h3⟩ := z
      exact .base (.lst h2)
    | dic xs =>
      cases h
      obtain ⟨vs, h2, h3⟩ := z
      exact .base (.dK h2)
def fIsi (b : Ty) (f : FE) : FE := fun ρ st => match f ρ st with
  | .ok a st1 => (match tyA a st1 with
    | some t => .ok (.bl (t.is b)) st1
    | none => .no)
  | .no => .no
theorem dx_isi {e e2 : Expr} {f : FE} {p pos : Pos} (b : Ty) (hK : X.K = K) (hm : X.mg "isinstance" = none) (he : PE X e (tOf K f)) (h2 : PE X e2 (tC (.ty b.nm))) (hg : Gl X "isinstance" := by rfl)
    (hs : starEach (e :: [e2]) X.env = (false, eval e X.env) :: starEach [e2] X.env := by rfl) (hs2 : starEach [e2] X.env = (false, eval e2 X.env) :: starEach [] X.env := by rfl) (hpl : (backTo pos (starEach [e2] X.env)).any (·.1) = false := by rfl) : PE X (.Call (.Name "isinstance" p) [e, e2] [] pos) (tOf K (fIsi b f)) := by
  refine pe_weak (pe_callB (isiK hK) hg hm (by decide +kernel) (pa_cons he (pa_cons h2 pa_nil hs2) hs) (by decide) (by decide) hs hpl) ?_
  rintro σ H Q ⟨μ, st, ρ, a, st', S, E, h, q⟩
  unfold fIsi at h
  split at h
  · rename_i a1 st1 h1
    split at h
    · rename_i t h3
      cases h
      exact ⟨μ, st, ρ, a1, _, S, E, h1, fun v μ1 H1 S1 E1 r1 f1 => ⟨v, .ty b.nm, .type t.nm, .type b.nm, _, rfl, .ty _, tyA_ok S1 r1 h3, kit_nm t b, (q.from E1).ok S1 rfl trivial⟩⟩
    · cases h
  · cases h
theorem nt_non : RN K μ n H .non .non := ⟨True.intro, rfl⟩
theorem nt_int {i : Int} : RN K μ n H (.int i) (.int i) := ⟨True.intro, rfl⟩
/-! products -/
def rMul4 (K : PySem.W.Frag) : R2 := rOr (rI CMulW fun i j => .int (i * j)) (rOr (rRepX K) rRep)
theorem or_mul (hK : X.K = K) : OpR X (binaryOp .Mult) (rMul4 K) := opr_or op_mulW (opr_or (repXK hK) op_rep)
theorem pd_repl {F : A → V → Prop} {xs : List A} {vs : List V} (h : Paired F xs vs) (k : Nat) : Paired F (List.replicate k xs).flatten (List.replicate k vs).flatten := pd_flat (pd_rep h k)
theorem og_mul : Op2 K (rMul4 K) opMul := by
  intro μ st H a b c st' v u Q S ra rb h q
  unfold opMul at h
  split at h
  · split at h
    · rename_i hc
      cases h
      exact .inl ⟨_, _, ra, rb, hc, q.ok S rfl trivial⟩
    · cases h
  · rename_i xs k
    split at h
    · rename_i hc
      cases h
      obtain ⟨p, vs, rfl, h1, h2⟩ := ra
      have h2' := repL_iff.mp h2
      have e1 := h2'.length
      refine .inr (.inl ⟨p, k, vs, rfl, rb, h1.sq, fun e => ?_, hc.2.1, hc.2.2.1, by rw [← e1]; exact hc.2.2.2, fun e => ?_, fun hk => q.tup S (repL_iff.mpr (pd_repl h2' _))⟩)
      · rw [e] at e1
        exact hc.1 e1
      · subst e
        have e9 : (List.replicate (Int.toNat 1) xs).flatten = xs := by
          show (List.replicate 1 xs).flatten = xs
          simp
        rw [e9] at q
        exact q.ok S ⟨p, vs, rfl, h1, h2⟩ trivial
    · cases h
  · rename_i k _ _
    split at h
    · rename_i xs h1
      split at h
      · rename_i hc
        cases h
        obtain ⟨p, vs, rfl, h3, h4⟩ := lstM_at S ra h1
        have h4' := repL_iff.mp h4
        exact .inr (.inr ⟨p, k, vs, rfl, rb, h3, hc.1, hc.2.1, by rw [← h4'.length]; exact hc.2.2, fun t ht => q.tmp S ht (repL_iff.mpr (pd_repl h4' _))⟩)
      · cases h
    · cases h
  · cases h
/-! methods of lists -/
def isL (a : A) (st : Sto) : Bool := (lstOf a st).isSome
theorem isL_ty {a : A} {v : V} (S : RS K μ st H) (r : Rep K μ st.length H a v) (h : isL a st = true) : tyV K "list" v H := by
  obtain ⟨xs, h1⟩ := Option.isSome_iff_exists.mp h
  obtain ⟨p, vs, rfl, h2, _⟩ := lstOf_sq S r h1
  exact .inl ⟨rfl, vs, h2⟩
def fM (gg : A → FN) (f : FE) (g : FA) : FE := fun ρ st => match f ρ st with
  | .ok a st1 => if isL a st1 = true then (match g ρ st1 with
    | .ok as st2 => gg a as st2
    | .no => .no) else .no
  | .no => .no
def OpM (K : PySem.W.Frag) (r : V → List V → Hp → VK → Prop) (g : A → FN) : Prop := ∀ {μ st H a as c st' v vs Q}, RS K μ st H → Rep K μ st.length H a v → Paired (RN K μ st.length H) as vs → g a as st = .ok c st' → Post K μ st.length H c st' Q → r v vs H Q
theorem dx_bm {o e : Expr} {es : List Expr} {id : String} {name : Str} {r : V → List V → Hp → VK → Prop} {f : FE} {g : FA} {gg : A → FN} {apos cpos : Pos} (hK : X.K = K) (pa : PlainAttrs "list") (slot : Slot "list" name id) (hty : typeOf (.builtin id) = pure (.type "method_descriptor")) (hm : MtR X id r) (hg : OpM K r gg)
    (ho : PE X o (tOf K f)) (ha : PA X (e :: es) (bOf K g)) (hbase : attributeBase o name X.env (eval o X.env) = eval o X.env := by rfl)
    (hfew : ((backTo cpos (starEach (e :: es) X.env)).all (fun x => !x.1) && (backToKw cpos (keywordEach [] X.env)).all (fun x => x.1.isSome)
      && decide ((e :: es).length + ([] : List Keyword).length + (if ([] : List Keyword).isEmpty then 0 else 1) < 30)) = true := by rfl)
    (hline : (apos.endLine == cpos.line) = true := by rfl) (hs : starEach (e :: es) X.env = (false, eval e X.env) :: starEach es X.env := by rfl) (hplain : (backTo cpos (starEach es X.env)).any (·.1) = false := by rfl) :
    PE X (.Call (.Attribute o name apos) (e :: es) [] cpos) (tOf K (fM gg f g)) := by
  refine pe_weak (pe_bmK hK pa slot hty hm ho ha hbase hfew hline hs hplain) ?_
  rintro σ H Q ⟨μ, st, ρ, a, st', S, E, h, q⟩
  unfold fM at h
  split at h
  · rename_i a1 st1 h1
    split at h
    · rename_i hl
      split at h
      · rename_i as st2 h2
        refine ⟨μ, st, ρ, a1, st1, S, E, h1, fun v μ1 H1 S1 E1 r1 f1 => ⟨isL_ty S1 r1 hl, μ1, st1, ρ, as, st2, S1, E.ext S E1, h2, fun vs μ2 H2 S2 E2 r2 => ?_⟩⟩
        exact hg S2 (r1.ext S1 E2) r2 h (q.from (E1.trans E2))
      · cases h
    · cases h
  · cases h
theorem dx_bm0 {o : Expr} {id : String} {name : Str} {r : V → List V → Hp → VK → Prop} {f : FE} {gg : A → FN} {apos cpos : Pos} (hK : X.K = K) (pa : PlainAttrs "list") (slot : Slot "list" name id) (hty : typeOf (.builtin id) = pure (.type "method_descriptor")) (hm : MtR X id r) (hg : OpM K r gg)
    (ho : PE X o (tOf K f)) (hbase : attributeBase o name X.env (eval o X.env) = eval o X.env := by rfl) (hline : (apos.endLine == cpos.line) = true := by rfl) : PE X (.Call (.Attribute o name apos) [] [] cpos) (tOf K (fM gg f aN)) := by
  refine pe_weak (pe_bm0 pa slot hty hm ho hbase hline) ?_
  rintro σ H Q ⟨μ, st, ρ, a, st', S, E, h, q⟩
  unfold fM at h
  split at h
  · rename_i a1 st1 h1
    split at h
    · rename_i hl
      refine ⟨μ, st, ρ, a1, st1, S, E, h1, fun v μ1 H1 S1 E1 r1 f1 => ⟨?_, hg S1 r1 .nil h (q.from E1)⟩⟩
      rw [hK]
      exact isL_ty S1 r1 hl
    · cases h
  · cases h
/-- the list of the store at l is changed -/
theorem Post.put {l : Nat} {xs ys : List A} {us ws : List V} {c : A} {w : V} {Q : VK} (S : RS K μ st H) (hl : l < st.length) (hx : H (μ l) = some (.lst us)) (r : Paired (RN K μ st.length H) ys ws) (rc : RN K μ st.length H c w)
    (q : Post K μ st.length H c (st.set l (.lst ys)) Q) : Q w (upd H (μ l) (.lst ws)) := by
  obtain ⟨S', E'⟩ := S.put (l := l) hl (o := .lst ys) (u := .lst ws) fun H' E h => ⟨ws, h, repL_iff.mpr (r.mono fun _ _ z => RN.ext z S E)⟩
  exact q w μ _ S' E' (by have := (rc.ext S E').2; exact this) (.of rc.1)
def mApp (a : A) : FN := fun as st => match a, as with
  | .loc l, [b] => (match st[l]? with
    | some (.lst xs) => if xs.length < sizeLine then .ok .non (st.set l (.lst (xs ++ [b]))) else .no
    | _ => .no)
  | _, _ => .no
theorem om_app : OpM K rAppend mApp := by
  intro μ st H a as c st' v vs Q S ra rs h q
  unfold mApp at h
  split at h
  · rename_i l b
    split at h
    · rename_i xs h1
      split at h
      · rename_i hz
        cases h
        obtain ⟨h2, rfl⟩ := ra
        cases rs with
        | cons r1 r2 =>
          cases r2
          obtain ⟨us, h3, h4⟩ := S.at_ l _ h1
          have h4' := repL_iff.mp h4
          exact ⟨μ l, us, _, rfl, rfl, h3, by rw [← h4'.length]; exact hz, Post.put (xs := xs) S h2 h3 (pd_append h4' (.cons r1 .nil)) nt_non q⟩
      · cases h
    · cases h
  · cases h
def mPop (a : A) : FN := fun as st => match a, as with
  | .loc l, [] => (match st[l]? with
    | some (.lst xs) => (match xs[xs.length - 1]? with
      | some y => .ok y (st.set l (.lst xs.dropLast))
      | none => .no)
    | _ => .no)
  | _, _ => .no
theorem om_pop : OpM K rPop mPop := by
  intro μ st H a as c st' v vs Q S ra rs h q
  unfold mPop at h
  split at h
  · rename_i l
    split at h
    · rename_i xs h1
      split at h
      · rename_i y hy
        cases h
        obtain ⟨h2, rfl⟩ := ra
        cases rs
        obtain ⟨us, h3, h4⟩ := S.at_ l _ h1
        have h4' := repL_iff.mp h4
        obtain ⟨w, h5, h6⟩ := pd_get h4' hy
        exact ⟨μ l, us, w, rfl, rfl, h3, by rw [← h4'.length]; exact h5, Post.put (xs := xs) S h2 h3 (pd_dropLast h4') h6 q⟩
      · cases h
    · cases h
  · cases h
def mPopAt (a : A) : FN := fun as st => match a, as with
  | .loc l, [.int i] => (match st[l]? with
    | some (.lst xs) => if -(2 ^ 63) ≤ i ∧ i < 2 ^ 63 then (match ixN xs.length i with
      | some k => (match xs[k]? with
        | some y => .ok y (st.set l (.lst (xs.eraseIdx k)))
        | none => .no)
      | none => .no) else .no
    | _ => .no)
  | _, _ => .no
theorem om_popAt : OpM K rPopAt mPopAt := by
  intro μ st H a as c st' v vs Q S ra rs h q
  unfold mPopAt at h
  split at h
  · rename_i l i
    split at h
    · rename_i xs h1
      split at h
      · rename_i hb
        split at h
        · rename_i k hk
          split at h
          · rename_i y hy
            cases h
            obtain ⟨h2, rfl⟩ := ra
            cases rs with
            | cons r1 r2 =>
              cases r2
              cases (show _ = V.int _ from r1.2)
              obtain ⟨us, h3, h4⟩ := S.at_ l _ h1
              have h4' := repL_iff.mp h4
              obtain ⟨w, h5, h6⟩ := pd_get h4' hy
              rw [h4'.length] at hk
              exact ⟨μ l, us, i, k, w, rfl, rfl, h3, hb.1, hb.2, (ixN_seq hk).1, h5, Post.put (xs := xs) S h2 h3 (pd_erase k h4') h6 q⟩
          · cases h
        · cases h
      · cases h
    · cases h
  · cases h
def mExt (a : A) : FN := fun as st => match a, as with
  | .loc l, [b] => (match st[l]?, lstM b st with
    | some (.lst xs), some ys => if xs.length + ys.length ≤ sizeLine then .ok .non (st.set l (.lst (xs ++ ys))) else .no
    | _, _ => .no)
  | _, _ => .no
theorem om_ext : OpM K rExtend mExt := by
  intro μ st H a as c st' v vs Q S ra rs h q
  unfold mExt at h
  split at h
  · rename_i l b
    split at h
    · rename_i xs ys h1 hb
      split at h
      · rename_i hz
        cases h
        obtain ⟨h2, rfl⟩ := ra
        cases rs with
        | cons r1 r2 =>
          cases r2
          obtain ⟨us, h3, h4⟩ := S.at_ l _ h1
          have h4' := repL_iff.mp h4
          obtain ⟨p, ws, rfl, h5, h6⟩ := lstM_at S r1.2 hb
          have h6' := repL_iff.mp h6
          exact ⟨μ l, p, us, ws, rfl, rfl, h3, h5, by rw [← h4'.length, ← h6'.length]; exact hz, Post.put (xs := xs) S h2 h3 (pd_append h4' h6') nt_non q⟩
      · cases h
    · cases h
  · cases h
def mRev (a : A) : FN := fun as st => match a, as with
  | .loc l, [] => (match st[l]? with
    | some (.lst xs) => .ok .non (st.set l (.lst xs.reverse))
    | _ => .no)
  | _, _ => .no
theorem om_rev : OpM K rReverse mRev := by
  intro μ st H a as c st' v vs Q S ra rs h q
  unfold mRev at h
  split at h
  · rename_i l
    split at h
    · rename_i xs h1
      cases h
      obtain ⟨h2, rfl⟩ := ra
      cases rs
      obtain ⟨us, h3, h4⟩ := S.at_ l _ h1
      exact ⟨μ l, us, rfl, rfl, h3, Post.put (xs := xs) S h2 h3 (pd_rev (repL_iff.mp h4)) nt_non q⟩
    · cases h
  · cases h
/-! stores -/
def setA (o i a : A) (st : Sto) : Option Sto := match o, i with
  | .loc l, .int k => (match st[l]? with
    | some (.lst xs) => (match ixN xs.length k with
      | some j => some (st.set l (.lst (xs.set j a)))
      | none => none)
    | _ => none)
  | _, _ => none
theorem setA_ok {o i a : A} {x y z : V} {Q : Hp → Prop} (S : RS K μ st H) (ro : Rep K μ st.length H o x) (ri : Rep K μ st.length H i y) (ra : RN K μ st.length H a z) (h : setA o i a st = some st')
    (q : ∀ H', RS K μ st' H' → Ext μ st.length H μ st'.length H' → Q H') : rSetL x y z H Q := by
  unfold setA at h
  split at h
  · rename_i l k
    split at h
    · rename_i xs h1
      split at h
      · rename_i j hj
        cases h
        obtain ⟨h2, rfl⟩ := ro
        obtain ⟨us, h3, h4⟩ := S.at_ l _ h1
        have h4' := repL_iff.mp h4
        rw [h4'.length] at hj
        obtain ⟨S', E'⟩ := S.put (l := l) h2 (o := .lst (xs.set j a)) (u := .lst (us.set j z)) fun H' E h => ⟨_, h, repL_iff.mpr ((pd_set ra j h4').mono fun _ _ z => RN.ext z S E)⟩
        exact ⟨μ l, us, k, j, rfl, ri, h3, hj, q _ S' E'⟩
      · cases h
    · cases h
  · cases h
def gSubF (fo fi : FE) : FG := fun a ρ st => match fo ρ st with
  | .ok o st1 => (match fi ρ st1 with
    | .ok i st2 => (match setA o i a st2 with
      | some st3 => .ok ρ st3
      | none => .no)
    | .no => .no)
  | .no => .no
theorem dg_sub {o i : Expr} {fo fi : FE} {pos : Pos} (ho : PE X o (tOf K fo)) (hi : PE X i (tOf K fi))
    (ha : ∀ v, assign (.Subscript o i pos) X.env v = (do
      let ov ← holding [v] (eval o X.env)
      let iv ← holding [v, ov] (eval i X.env)
      standAt pos
      holding [v, ov, iv] (setItem ov iv v)
      release [v, ov, iv] []) := by intro _; rfl) : PG X (.Subscript o i pos) (gOf K (gSubF fo fi)) := by
  refine pg_weak (pg_sub ho hi set_list ha) ?_
  rintro v σ H Q ⟨μ, st, ρ, a, ρ', st', S, E, r, h, q⟩
  unfold gSubF at h
  split at h
  · rename_i o1 st1 h1
    split at h
    · rename_i i1 st2 h2
      split at h
      · rename_i st3 h3
        cases h
        refine ⟨μ, st, ρ, o1, st1, S, E, h1, fun x μ1 H1 S1 E1 r1 f1 => ?_⟩
        refine ⟨μ1, st1, ρ, i1, st2, S1, E.ext S E1, h2, fun y μ2 H2 S2 E2 r2 f2 => ?_⟩
        have E12 := E1.trans E2
        exact setA_ok S2 (r1.ext S1 E2) r2 (r.ext S E12) h3 fun H3 S3 E3 => q _ μ2 H3 S3 (E.ext S (E12.trans E3)) (E12.trans E3)
      · cases h
    · cases h
  · cases h
def sAug (i : Nat) (op : F2) (f : FE) : FS := fun ρ st => match ρ[i]? with
  | some (some x) => (match f ρ st with
    | .ok y st1 => (match op x y st1 with
      | .ok z st2 => .nx (ρ.set i (some z)) st2
      | .no => .no)
    | .no => .no)
  | _ => .no
def opAddI : F2 := fun a b st => match a, b with
  | .int i, .int j => .ok (.int (i + j)) st
  | _, _ => .no
theorem ds_augI {i : Nat} {x : Str} {e : Expr} {f : FE} {pos pos' : Pos} {op : Operator} {gg : F2} {fo : Int → Int → Int} (hN : X.N.Nodup) (hi : X.N[i]? = some x) (hx : Loc X.env.scope x) (he : PE X e (tOf K f)) (ho : PIp X op (ipI fo)) (hgg : ∀ a b st c st', gg a b st = .ok c st' → ∃ i j, a = .int i ∧ b = .int j ∧ c = .int (fo i j) ∧ st' = st)
    (hf : X.fn x = true ∨ X.env.scope.names.lookup x = some .local := by first | exact .inl rfl | exact .inr rfl | assumption) : PS X (.AugAssign (.Name x pos') op e pos) (sOf K (sAug i gg f)) := by
  refine ps_weak (ps_aug hN hi hx he ho hf) ?_
  rintro D σ H ⟨μ, st, ρ, S, E, q⟩
  unfold sAug at q
  split at q
  · rename_i x1 h0
    split at q
    · rename_i y1 st1 h1
      split at q
      · rename_i z1 st2 h2
        obtain ⟨k, m, rfl, rfl, rfl, rfl⟩ := hgg _ _ _ _ _ h2
        obtain ⟨hn, v, h3, h4⟩ := E.at_ i _ h0
        refine ⟨v, h3, μ, st, ρ, _, _, S, E, h1, fun w μ1 H1 S1 E1 r1 f1 => ⟨k, m, h4, r1, q _ μ1 H1 S1 ((E.ext S E1).set trivial rfl) E1⟩⟩
      · exact q.elim
    · exact q.elim
  · exact q.elim
theorem gg_add (a b : A) (st : Sto) (c : A) (st' : Sto) (h : opAddI a b st = .ok c st') : ∃ i j, a = .int i ∧ b = .int j ∧ c = .int (i + j) ∧ st' = st := by
  unfold opAddI at h
  split at h
  · cases h; exact ⟨_, _, rfl, rfl, rfl, rfl⟩
  · cases h
theorem gg_sub (a b : A) (st : Sto) (c : A) (st' : Sto) (h : opSub a b st = .ok c st') : ∃ i j, a = .int i ∧ b = .int j ∧ c = .int (i - j) ∧ st' = st := by
  unfold opSub at h
  split at h
  · cases h; exact ⟨_, _, rfl, rfl, rfl, rfl⟩
  · cases h
/-- o[i] op= e, a list of ints -/
def sAugS (fo fi f : FE) (op : F2) : FS := fun ρ st => match fo ρ st with
  | .ok o st1 => (match fi ρ st1 with
    | .ok i st2 => (match lstOf o st2, i with
      | some xs, .int k => (match atI xs k with
        | some x => (match f ρ st2 with
          | .ok y st3 => (match op x y st3 with
            | .ok z st4 => (match setA o i z st4 with
              | some st5 => .nx ρ st5
              | none => .no)
            | .no => .no)
          | .no => .no)
        | none => .no)
      | _, _ => .no)
    | .no => .no)
  | .no => .no
theorem ds_augS {o i e : Expr} {fo fi f : FE} {pos tpos : Pos} {op : Operator} {gg : F2} {fz : Int → Int → Int} (hK : X.K = K) (ho : PE X o (tOf K fo)) (hi : PE X i (tOf K fi)) (he : PE X e (tOf K f)) (hop : PIp X op (ipI fz)) (hgg : ∀ a b st c st', gg a b st = .ok c st' → ∃ i j, a = .int i ∧ b = .int j ∧ c = .int (fz i j) ∧ st' = st)
    (ha : ∀ ov iv new, augStore i ov iv new = (do holding [new, ov, iv] (setItem ov iv new); release [new, ov, iv] []; pure .next) := by intros; rfl) : PS X (.AugAssign (.Subscript o i tpos) op e pos) (sOf K (sAugS fo fi f gg)) := by
  refine ps_weak (ps_augS ho hi (getLK hK) he hop set_list ha) ?_
  rintro D σ H ⟨μ, st, ρ, S, E, q⟩
  unfold sAugS at q
  split at q
  · rename_i o1 st1 h1
    split at q
    · rename_i i1 st2 h2
      split at q
      · rename_i xs k h3
        split at q
        · rename_i x1 h4
          split at q
          · rename_i y1 st3 h5
            split at q
            · rename_i z1 st4 h6
              split at q
              · rename_i st5 h7
                obtain ⟨ii, jj, rfl, rfl, rfl, rfl⟩ := hgg _ _ _ _ _ h6
                refine ⟨μ, st, ρ, o1, st1, S, E, h1, fun x μ1 H1 S1 E1 r1 f1 => ?_⟩
                refine ⟨μ1, st1, ρ, _, st2, S1, E.ext S E1, h2, fun y μ2 H2 S2 E2 r2 f2 => ?_⟩
                obtain ⟨p, vs, rfl, h8, h9, _⟩ := lstOf_sq S2 (r1.ext S1 E2) h3
                have h9' := repL_iff.mp h9
                unfold atI at h4
                obtain ⟨j, g5, g6⟩ := Option.bind_eq_some_iff.mp h4
                obtain ⟨w, g7, g8⟩ := pd_get h9' g6
                have g9 : atI vs k = some w := by
                  unfold atI
                  rw [← h9'.length, g5]
                  exact g7
                refine ⟨p, vs, k, w, rfl, r2, h8, g9, ?_⟩
                refine ⟨μ2, st2, ρ, _, _, S2, (E.ext S E1).ext S1 E2, h5, fun y3 μ3 H3 S3 E3 r3 f3 => ?_⟩
                have E13 := (E1.trans E2).trans E3
                refine ⟨ii, jj, g8.2, r3, ?_⟩
                exact setA_ok S3 ((r1.ext S1 E2).ext S2 E3) (show Rep K μ3 _ H3 (.int k) y from r2) nt_int h7 fun H4 S4 E4 => q _ μ3 H4 S4 (E.ext S (E13.trans E4)) (E13.trans E4)
              · exact q.elim
            · exact q.elim
          · exact q.elim
        · exact q.elim
      · exact q.elim
    · exact q.elim
  · exact q.elim
/-! list(range(..)), tuple(range(..)) -/
def rgOk (a b : Int) : Prop := RgOk a b
instance (a b : Int) : Decidable (rgOk a b) := inferInstanceAs (Decidable (_ ∧ _))
def fLRg1 (f : FE) : FE := fun ρ st => match f ρ st with
  | .ok (.int j) st1 => if rgOk 0 j then .ok (.tmp (rgA 0 j)) st1 else .no
  | _ => .no
def fTRg1 (f : FE) : FE := fun ρ st => match f ρ st with
  | .ok (.int j) st1 => if rgOk 0 j then .ok (.tup (rgA 0 j)) st1 else .no
  | _ => .no
theorem repL_rg (a b : Int) : RepL K μ n H (rgA a b) (rgV a b) := by
  unfold rgA rgV
  induction (List.range (b - a).toNat) with
  | nil => rfl
  | cons x xs ih => exact ⟨_, _, rfl, trivial, rfl, ih⟩
theorem dx_lrg1 {e : Expr} {f : FE} {p p2 pos pos2 : Pos} (hc : X.calm = true) (hm : X.mg "list" = none) (hm2 : X.mg "range" = none) (he : PE X e (tOf K f)) (hg : Gl X "list" := by rfl) (hg2 : Gl X "range" := by rfl)
    (na : starEach [e] X.env = (false, eval e X.env) :: starEach [] X.env := by rfl) (na2 : starEach [Expr.Call (.Name "range" p2) [e] [] pos2] X.env = (false, eval (.Call (.Name "range" p2) [e] [] pos2) X.env) :: starEach [] X.env := by rfl) : PE X (.Call (.Name "list" p) [.Call (.Name "range" p2) [e] [] pos2] [] pos) (tOf K (fLRg1 f)) := by
  refine pe_weak (pe_listRg hc hg hm (prg_1 hg2 hm2 he na) na2) ?_
  rintro σ H Q ⟨μ, st, ρ, a, st', S, E, h, q⟩
  unfold fLRg1 at h
  split at h
  · rename_i j st1 h1
    split at h
    · rename_i hr
      cases h
      exact ⟨μ, st, ρ, _, _, S, E, h1, fun v μ1 H1 S1 E1 r1 f1 => ⟨j, r1, hr, fun t ht => (q.from E1).tmp S1 ht (repL_rg 0 j)⟩⟩
    · cases h
  · cases h
theorem dx_trg1 {e : Expr} {f : FE} {p p2 pos pos2 : Pos} (hc : X.calm = true) (hm : X.mg "tuple" = none) (hm2 : X.mg "range" = none) (he : PE X e (tOf K f)) (hg : Gl X "tuple" := by rfl) (hg2 : Gl X "range" := by rfl)
    (na : starEach [e] X.env = (false, eval e X.env) :: starEach [] X.env := by rfl) (na2 : starEach [Expr.Call (.Name "range" p2) [e] [] pos2] X.env = (false, eval (.Call (.Name "range" p2) [e] [] pos2) X.env) :: starEach [] X.env := by rfl) : PE X (.Call (.Name "tuple" p) [.Call (.Name "range" p2) [e] [] pos2] [] pos) (tOf K (fTRg1 f)) := by
  refine pe_weak (pe_tupRX hc hg hm (prg_1 hg2 hm2 he na) na2) ?_
  rintro σ H Q ⟨μ, st, ρ, a, st', S, E, h, q⟩
  unfold fTRg1 at h
  split at h
  · rename_i j st1 h1
    split at h
    · rename_i hr
      cases h
      exact ⟨μ, st, ρ, _, _, S, E, h1, fun v μ1 H1 S1 E1 r1 f1 => ⟨j, r1, hr, (q.from E1).tup S1 (repL_rg 0 j)⟩⟩
    · cases h
  · cases h
/-! calls by names, in turned order -/
theorem dk_nil : PK X [] (bOf K aN) := by
  constructor
  rintro pos pins s σ H Q I ⟨μ, st, ρ, as, st', S, E, h, q⟩
  cases h
  exact pk_nil.run pos pins s σ H Q I (q [] μ H S Ext.refl .nil)
theorem dk_cons {nm : Option Str} {kpos : Pos} {e : Expr} {kws : List Keyword} {f : FE} {g : FA} (he : PE X e (tOf K f)) (hr : PK X kws (bOf K g)) : PK X (⟨nm, e, kpos⟩ :: kws) (bOf K (aC (fB f) g)) := by
  constructor
  rintro pos pins s σ H Q I ⟨μ, st, ρ, as, st', S, E, h, q⟩
  refine (pk_cons (dx_bn he) hr).run pos pins s σ H Q I ?_
  unfold aC at h
  split at h
  · rename_i a1 st1 h1
    split at h
    · rename_i as st2 h2
      cases h
      refine ⟨μ, st, ρ, a1, st1, S, E, h1, fun v μ1 H1 S1 E1 r1 => ?_⟩
      refine ⟨μ1, st1, ρ, as, st', S1, E.ext S E1, h2, fun vs μ2 H2 S2 E2 r2 => ?_⟩
      exact q (v :: vs) μ2 H2 S2 (E1.trans E2) (.cons (r1.ext S1 E2) r2)
    · cases h
  · cases h
def fNK (c : FN) (g : FA) : FE := fun ρ st => match g ρ st with
  | .ok as st1 => c as.reverse st1
  | .no => .no
theorem dx_callK {x : Str} {p pos : Pos} {k : Nat} {ps ks : List Str} {c : FN} {kws : List Keyword} {g : FA} {gv : List Value → List Value → List Value} (C : Cal X.prog X.w X.K X.mg X.base k x ps (spOf K c)) (hb : KBinds X.K C.fd ps ks gv (fun us ws => us ++ ws.reverse)) (still : Still X.A) (hr : Room k X.A) (hkw : PK X kws (bOf K g)) (hg : Gl X x := by rfl)
    (hall : (backToKw pos (keywordEach kws X.env)).all (·.1.isSome) = true := by rfl)
    (hks : (backToKw pos (keywordEach kws X.env)).filterMap (·.1) = ks := by rfl) (hdb : (x == ("__debug__" : Str)) = false := by decide) (hpl : ((backTo pos (starEach [] X.env)).any (·.1) || (backToKw pos (keywordEach kws X.env)).any (·.1.isNone)) = false := by rfl) :
    PE X (.Call (.Name x p) [] kws pos) (tOf K (fNK c g)) := by
  refine pe_weak (pe_calK C hb still hr hkw hg hall hks hdb hpl) ?_
  rintro σ H Q ⟨μ, st, ρ, a, st', S, E, h, q⟩
  unfold fNK at h
  split at h
  · rename_i as st1 h1
    exact ⟨μ, st, ρ, as, st1, S, E, h1, fun vs μ1 H1 S1 E1 r1 => ⟨μ1, st1, as.reverse, a, st', S1, by
      show Paired _ _ ([] ++ vs.reverse)
      rw [List.nil_append]
      exact pd_rev r1, h, q.from E1⟩⟩
  · cases h
end
end Ev
namespace Ev
open PySem PySem.Spec PyProof.Rows L2 Gd
section
variable {X : Cx} {K : PySem.W.Frag}
theorem dv (i : Nat) {x : Str} {pos : Pos} (hN : X.N[i]? = some x := by rfl) (hv : Vis X.env.scope x := by first | exact Or.inl rfl | exact Or.inr (Or.inl rfl) | exact Or.inr (Or.inr rfl)) (hd : (x == ("__debug__" : Str)) = false := by decide) (hcd : (x == ("__classdict__" : Str)) = false := by decide) : PE X (.Name x pos) (tOf K (fVar i)) := dx_var hN hv hd hcd
end
end Ev
namespace Ev
open PySem PySem.Spec PyProof.Rows L2 Gd
section
variable {X : Cx} {K : PySem.W.Frag} {μ μ' : Nat → Addr} {n n' : Nat} {H H' : Hp} {st st' : Sto}
/-! in -/
def flatA : A → Bool
  | .non => true
  | .bl _ => true
  | .int _ => true
  | .str _ => true
  | _ => false
def eqFA : A → A → Bool
  | .non, .non => true
  | .bl a, .bl b => a == b
  | .bl a, .int b => (if a then 1 else 0) == b
  | .int a, .bl b => a == (if b then 1 else 0)
  | .int a, .int b => a == b
  | .str a, .str b => a == b
  | _, _ => false
theorem flat_v {a : A} {v : V} (r : Rep K μ n H a v) (h : flatA a = true) : flatV v = true := by
  cases a with
  | non => cases (show v = .non from r); rfl
  | bl b => cases (show v = .bl b from r); rfl
  | int b => cases (show v = .int b from r); rfl
  | str b => cases (show v = .str b from r); rfl
  | _ => cases h
theorem eqF_v {a b : A} {v u : V} (r : Rep K μ n H a v) (h : flatA a = true) (r2 : Rep K μ n H b u) (h2 : flatA b = true) : eqV v u = eqFA a b := by
  cases a with
  | non => cases (show v = .non from r); cases b with
    | non => cases (show u = .non from r2); rfl
    | bl b => cases (show u = .bl b from r2); rfl
    | int b => cases (show u = .int b from r2); rfl
    | str b => cases (show u = .str b from r2); rfl
    | _ => cases h2
  | bl c => cases (show v = .bl c from r); cases b with
    | non => cases (show u = .non from r2); rfl
    | bl b => cases (show u = .bl b from r2); rfl
    | int b => cases (show u = .int b from r2); rfl
    | str b => cases (show u = .str b from r2); rfl
    | _ => cases h2
  | int c => cases (show v = .int c from r); cases b with
    | non => cases (show u = .non from r2); rfl
    | bl b => cases (show u = .bl b from r2); rfl
    | int b => cases (show u = .int b from r2); rfl
    | str b => cases (show u = .str b from r2); rfl
    | _ => cases h2
  | str c => cases (show v = .str c from r); cases b with
    | non => cases (show u = .non from r2); rfl
    | bl b => cases (show u = .bl b from r2); rfl
    | int b => cases (show u = .int b from r2); rfl
    | str b => cases (show u = .str b from r2); rfl
    | _ => cases h2
  | _ => cases h
theorem inF_v {a : A} {v : V} (r : Rep K μ n H a v) (h : flatA a = true) : ∀ {xs : List A} {vs : List V}, Paired (RN K μ n H) xs vs → xs.all flatA = true → vs.all flatV = true ∧ inV v vs = xs.any (fun y => eqFA y a)
  | _, _, .nil, _ => ⟨rfl, rfl⟩
  | _, _, .cons (a := y) (l₁ := xs) r1 r2, h2 => by
    rw [List.all_cons, Bool.and_eq_true] at h2
    obtain ⟨e1, e2⟩ := inF_v r h r2 h2.2
    refine ⟨?_, ?_⟩
    · rw [List.all_cons, flat_v r1.2 h2.1, e1]; rfl
    · show inV v (_ :: _) = _
      unfold inV at e2 ⊢
      rw [List.any_cons, List.any_cons, e2, eqF_v r1.2 h2.1 r h]
/-- whether it is in -/
def inA (a b : A) (st : Sto) : Option Bool := match seqOf b st with
  | some xs => if (flatA a && xs.all flatA) = true then some (xs.any fun y => eqFA y a) else (match toD st a, toD st b with
    | some d, some (.list ds) => if (SeqAt.shaped d && SeqAt.shaped (.list ds)) = true then some (ds.any fun z => PyData.eqv z d) else none
    | _, _ => none)
  | none => none
def opIn : F2 := fun a b st => match inA a b st with
  | some c => .ok (.bl c) st
  | none => .no
def opNotIn : F2 := fun a b st => match inA a b st with
  | some c => .ok (.bl (!c)) st
  | none => .no
theorem inA_ok {a b : A} {v u : V} {c : Bool} (S : RS K μ st H) (ra : Rep K μ st.length H a v) (rb : Rep K μ st.length H b u) (h : inA a b st = some c) :
    (∃ p xs, u = .ref p ∧ (SqL K H p xs ∨ SqT K H p xs) ∧ flatV v = true ∧ xs.all flatV = true ∧ inV v xs = c) ∨ (∃ d ds, Dp K H v d ∧ Dp K H u (.list ds) ∧ SeqAt.shaped d = true ∧ SeqAt.shaped (.list ds) = true ∧ (ds.any fun z => PyData.eqv z d) = c) := by
  unfold inA at h
  split at h
  · rename_i xs h1
    split at h
    · rename_i hf
      cases h
      rw [Bool.and_eq_true] at hf
      obtain ⟨p, vs, rfl, h2, h3⟩ := seqOf_sq S rb h1
      obtain ⟨e1, e2⟩ := inF_v ra hf.1 (repL_iff.mp h3) hf.2
      exact .inl ⟨p, vs, rfl, h2, flat_v ra hf.1, e1, e2⟩
    · split at h
      · rename_i d ds h2 h3
        split at h
        · rename_i hs
          cases h
          rw [Bool.and_eq_true] at hs
          exact .inr ⟨d, ds, toD_ok S ra h2, toD_ok S rb h3, hs.1, hs.2, rfl⟩
        · cases h
      · cases h
  · cases h
theorem or_in (hK : X.K = K) (hu : X.A.units + 65 < cLine) : OpR X (compareOp .In) (rOr (rIn K false) (rInD K)) := opr_or (inK hK) (inDK hK hu)
theorem or_notin (hK : X.K = K) (hu : X.A.units + 65 < cLine) : OpR X (compareOp .NotIn) (rOr (rIn K true) (rNotInD K)) := opr_or (ninK hK) (ninDK hK hu)
theorem og_in : Op2 K (rOr (rIn K false) (rInD K)) opIn := by
  intro μ st H a b c st' v u Q S ra rb h q
  unfold opIn at h
  split at h
  · rename_i k h1
    cases h
    have fin := q.ok (v := .bl k) S rfl trivial
    rcases inA_ok S ra rb h1 with ⟨p, xs, rfl, h2, h3, h4, h5⟩ | ⟨d, ds, h2, h3, h4, h5, h6⟩
    · exact .inl ⟨p, xs, rfl, h2, h3, h4, by rw [h5]; exact fin⟩
    · exact .inr ⟨d, ds, h2, h3, h4, h5, by rw [h6]; exact fin⟩
  · cases h
theorem og_notin : Op2 K (rOr (rIn K true) (rNotInD K)) opNotIn := by
  intro μ st H a b c st' v u Q S ra rb h q
  unfold opNotIn at h
  split at h
  · rename_i k h1
    cases h
    have fin := q.ok (v := .bl (!k)) S rfl trivial
    rcases inA_ok S ra rb h1 with ⟨p, xs, rfl, h2, h3, h4, h5⟩ | ⟨d, ds, h2, h3, h4, h5, h6⟩
    · exact .inl ⟨p, xs, rfl, h2, h3, h4, by rw [h5]; exact fin⟩
    · exact .inr ⟨d, ds, h2, h3, h4, h5, by rw [h6]; exact fin⟩
  · cases h
/-! index -/
def mIndex (a : A) : FN := fun as st => match as with
  | [b] => (match toD st a, toD st b with
    | some (.list ds), some d => if (SeqAt.shaped (.list ds) && SeqAt.shaped d) = true then (match ds.findIdx? (fun z => PyData.eqv z d) with
      | some j => .ok (.int (j : Nat)) st
      | none => .no) else .no
    | _, _ => .no)
  | _ => .no
theorem mt_indexK (hK : X.K = K) (hu : X.A.units + 65 < cLine) : MtR X "list.index" (rIndexD K) := hK ▸ mt_indexD hu
theorem om_index : OpM K (rIndexD K) mIndex := by
  intro μ st H a as c st' v vs Q S ra rs h q
  unfold mIndex at h
  split at h
  · rename_i b
    split at h
    · rename_i ds d h1 h2
      split at h
      · rename_i hs
        split at h
        · rename_i j h3
          cases h
          rw [Bool.and_eq_true] at hs
          cases rs with
          | cons r1 r2 =>
            cases r2
            rename_i y
            have dl := toD_ok S ra h1
            have dd := toD_ok S r1.2 h2
            obtain ⟨hj, he, hn⟩ := List.findIdx?_eq_some_iff_getElem.mp h3
            cases dl with
            | lst hq hall =>
              refine ⟨_, y, d, ds, j, ds[j], rfl, rfl, .lst hq hall, dd, hs.1, hs.2, List.getElem?_eq_getElem hj, he, fun m z hm hz => ?_, q.ok S rfl trivial⟩
              obtain ⟨hm2, hz2⟩ := List.getElem?_eq_some_iff.mp hz
              have := hn m hm
              rw [hz2] at this
              simpa using this
        · cases h
      · cases h
    · cases h
  · cases h
/-! chains -/
def fChain (g h : F2) (fa fb fc : FE) : FE := fun ρ st => match fa ρ st with
  | .ok a st1 => (match fb ρ st1 with
    | .ok b st2 => (match g a b st2 with
      | .ok (.bl true) st3 => (match fc ρ st3 with
        | .ok c st4 => h b c st4
        | .no => .no)
      | .ok (.bl false) st3 => .ok (.bl false) st3
      | _ => .no)
    | .no => .no)
  | .no => .no
theorem w_chain {r r' : R2} {g h : F2} {fa fb fc : FE} (hg : Op2 K r g) (hh : Op2 K r' h) {σ : L2.St} {H : Hp} {Q : VK} (w : tOf K (fChain g h fa fb fc) σ H Q) : tChain r r' (tOf K fa) (tOf K fb) (tOf K fc) σ H Q := by
  obtain ⟨μ, st, ρ, z, st', S, E, w, q⟩ := w
  unfold fChain at w
  split at w
  · rename_i a1 st1 h1
    split at w
    · rename_i b1 st2 h2
      refine ⟨μ, st, ρ, a1, st1, S, E, h1, fun v μ1 H1 S1 E1 r1 _ => ?_⟩
      refine ⟨μ1, st1, ρ, b1, st2, S1, E.ext S E1, h2, fun u μ2 H2 S2 E2 r2 _ => ?_⟩
      have E12 := E1.trans E2
      split at w
      · rename_i st3 h3
        refine hg S2 (r1.ext S1 E2) r2 h3 fun z μ3 H3 S3 E3 r3 f3 => ⟨_, r3, iteT ?_⟩
        have E13 := E12.trans E3
        split at w
        · rename_i c1 st4 h4
          refine ⟨μ3, st3, ρ, c1, st4, S3, E.ext S E13, h4, fun y μ4 H4 S4 E4 r4 f4 => ?_⟩
          exact hh S4 ((r2.ext S2 E3).ext S3 E4) r4 w (q.from (E13.trans E4))
        · cases w
      · rename_i st3 h3
        cases w
        exact hg S2 (r1.ext S1 E2) r2 h3 fun z μ3 H3 S3 E3 r3 f3 => ⟨_, r3, iteF (q _ μ3 H3 S3 (E12.trans E3) rfl (.of trivial))⟩
      · cases w
    · cases w
  · cases w
theorem dx_chain {op op' : CmpOp} {r r' : R2} {g h : F2} {a b c : Expr} {fa fb fc : FE} {pos : Pos} (ho : OpR X (compareOp op) r) (ho' : OpR X (compareOp op') r') (hg : Op2 K r g) (hh : Op2 K r' h) (ha : PE X a (tOf K fa)) (hb : PE X b (tOf K fb)) (hc : PE X c (tOf K fc))
    (hm : lastMarks [op, op'] [b, c] = false := by with_unfolding_all rfl) : PE X (.Compare a [op, op'] [b, c] pos) (tOf K (fChain g h fa fb fc)) := pe_weak (pe_chain ho ho' ha hb hc hm) fun _ _ _ w => w_chain hg hh w
theorem dt_chain {op op' : CmpOp} {r r' : R2} {g h : F2} {a b c : Expr} {fa fb fc : FE} {pos : Pos} (ho : OpR X (compareOp op) r) (ho' : OpR X (compareOp op') r') (hg : Op2 K r g) (hh : Op2 K r' h) (ha : PE X a (tOf K fa)) (hb : PE X b (tOf K fb)) (hc : PE X c (tOf K fc))
    (hm : lastMarks [op, op'] [b, c] = false := by with_unfolding_all rfl) : PT X (.Compare a [op, op'] [b, c] pos) (uOf K (uB (fChain g h fa fb fc))) := pt_weak (pt_chain ho ho' ha hb hc hm) fun _ _ _ w => w_chain hg hh (w_bool w)
end
end Ev
namespace Ev
open PySem PySem.Spec PyProof.Rows L2 Gd
section
variable {X : Cx} {K : PySem.W.Frag} {μ μ' : Nat → Addr} {n n' : Nat} {H H' : Hp} {st st' : Sto}
/-! methods of tuples -/
def isT (a : A) : Bool := match a with
  | .tup _ => true
  | _ => false
def fMT (gg : A → FN) (f : FE) (g : FA) : FE := fun ρ st => match f ρ st with
  | .ok a st1 => if isT a = true then (match g ρ st1 with
    | .ok as st2 => gg a as st2
    | .no => .no) else .no
  | .no => .no
theorem dx_bmT {o e : Expr} {es : List Expr} {id : String} {name : Str} {r : V → List V → Hp → VK → Prop} {f : FE} {g : FA} {gg : A → FN} {apos cpos : Pos} (hK : X.K = K) (pa : PlainAttrs "tuple") (slot : Slot "tuple" name id) (hty : typeOf (.builtin id) = pure (.type "method_descriptor")) (hm : MtR X id r) (hg : OpM K r gg)
    (ho : PE X o (tOf K f)) (ha : PA X (e :: es) (bOf K g)) (hbase : attributeBase o name X.env (eval o X.env) = eval o X.env := by rfl)
    (hfew : ((backTo cpos (starEach (e :: es) X.env)).all (fun x => !x.1) && (backToKw cpos (keywordEach [] X.env)).all (fun x => x.1.isSome)
      && decide ((e :: es).length + ([] : List Keyword).length + (if ([] : List Keyword).isEmpty then 0 else 1) < 30)) = true := by rfl)
    (hline : (apos.endLine == cpos.line) = true := by rfl) (hs : starEach (e :: es) X.env = (false, eval e X.env) :: starEach es X.env := by rfl) (hplain : (backTo cpos (starEach es X.env)).any (·.1) = false := by rfl) :
    PE X (.Call (.Attribute o name apos) (e :: es) [] cpos) (tOf K (fMT gg f g)) := by
  refine pe_weak (pe_bmT hK pa slot hty hm ho ha hbase hfew hline hs hplain) ?_
  rintro σ H Q ⟨μ, st, ρ, a, st', S, E, h, q⟩
  unfold fMT at h
  split at h
  · rename_i a1 st1 h1
    split at h
    · rename_i hl
      split at h
      · rename_i as st2 h2
        refine ⟨μ, st, ρ, a1, st1, S, E, h1, fun v μ1 H1 S1 E1 r1 f1 => ⟨?_, μ1, st1, ρ, as, st2, S1, E.ext S E1, h2, fun vs μ2 H2 S2 E2 r2 => ?_⟩⟩
        · cases a1 with
          | tup xs => obtain ⟨p, vs, rfl, h3, _⟩ := r1; exact ⟨p, vs, rfl, h3⟩
          | _ => cases hl
        · exact hg S2 (r1.ext S1 E2) r2 h (q.from (E1.trans E2))
      · cases h
    · cases h
  · cases h
def mIndexT (a : A) : FN := fun as st => match a, as with
  | .tup xs, [.int z] => (match intsOf xs with
    | some ns => (match ns.findIdx? (fun y => decide (y = z)) with
      | some j => .ok (.int (j : Nat)) st
      | none => .no)
    | none => .no)
  | _, _ => .no
theorem om_indexT : OpM K (rIndexI K) mIndexT := by
  intro μ st H a as c st' v vs Q S ra rs h q
  unfold mIndexT at h
  split at h
  · rename_i xs z
    split at h
    · rename_i ns h1
      split at h
      · rename_i j h2
        cases h
        obtain ⟨p, us, rfl, h3, h4⟩ := ra
        cases rs with
        | cons r1 r2 =>
          cases r2
          cases (show _ = V.int _ from r1.2)
          obtain ⟨hj, he, hn⟩ := List.findIdx?_eq_some_iff_getElem.mp h2
          have h5 := h3.sq
          rw [(intsOf_at h4 h1).1] at h5
          refine ⟨p, ns, z, j, rfl, rfl, h5, ?_, fun m hm e => ?_, q.ok S rfl trivial⟩
          · rw [List.getElem?_eq_getElem hj]
            simpa using he
          · obtain ⟨h6, h7⟩ := List.getElem?_eq_some_iff.mp e
            have := hn m hm
            rw [h7] at this
            simp at this
      · cases h
    · cases h
  · cases h
def rCntT (K : PySem.W.Frag) : V → List V → Hp → VK → Prop := fun x xs H Q => ∃ (p : Addr) (ns : List Int) (k : Int), x = .ref p ∧ xs = [.int k] ∧ SqT K H p (ns.map V.int) ∧ Q (.int (ns.count k : Nat)) H
theorem mt_countTK (hK : X.K = K) : MtR X "tuple.count" (rCntT K) := by
  subst hK
  intro pins s σ H x xs v us Q I rx rxs h
  obtain ⟨p, ns, k, rfl, rfl, hs, q⟩ := h
  cases rx
  obtain ⟨u, rfl, ru⟩ := vals1 rxs
  obtain ⟨t, rfl⟩ := ru
  obtain ⟨its, rv, ⟨⟨cls, dd, data, sl⟩, ho, hc, n, hd⟩, hlen⟩ := I.tuple hs
  simp only at hc hd
  subst hc hd
  have hi := ints_of_vals rv
  refine call_meets PySem.F.slot_tuple_count ⟨_, ho, rfl⟩ PySem.F.entry_tuple_count (PySem.F.args_tuple_count_2 _ _)
    (SeqAt.tuple_countAt p its.toArray n dd sl (.int k t) (eqk k)) ⟨ho, fun y hy => (eqk_gives hi y (by simpa using hy)).at _ _, ?_⟩
  have ec : its.toArray.toList.countP (eqk k) = ns.count k := eqk_count hi
  refine ⟨.int (ns.count k : Nat), H, I.tok _, ⟨s.toks, ?_⟩, q⟩
  show Value.int ((its.toArray.toList.countP (eqk k) : Nat) : Int) s.toks = Value.int ((ns.count k : Nat) : Int) s.toks
  rw [ec]
def mCountT (a : A) : FN := fun as st => match a, as with
  | .tup xs, [.int z] => (match intsOf xs with
    | some ns => .ok (.int (ns.count z : Nat)) st
    | none => .no)
  | _, _ => .no
theorem om_countT : OpM K (rCntT K) mCountT := by
  intro μ st H a as c st' v vs Q S ra rs h q
  unfold mCountT at h
  split at h
  · rename_i xs z
    split at h
    · rename_i ns h1
      cases h
      obtain ⟨p, us, rfl, h3, h4⟩ := ra
      cases rs with
      | cons r1 r2 =>
        cases r2
        cases (show _ = V.int _ from r1.2)
        have h5 := h3.sq
        rw [(intsOf_at h4 h1).1] at h5
        exact ⟨p, ns, z, rfl, rfl, h5, q.ok S rfl trivial⟩
    · cases h
  · cases h
theorem mt_countK (hK : X.K = K) : MtR X "list.count" (rCntI K) := hK ▸ mt_lcount
def mCount (a : A) : FN := fun as st => match as with
  | [.int z] => (match lstOf a st with
    | some xs => (match intsOf xs with
      | some ns => .ok (.int (ns.count z : Nat)) st
      | none => .no)
    | none => .no)
  | _ => .no
theorem om_count : OpM K (rCntI K) mCount := by
  intro μ st H a as c st' v vs Q S ra rs h q
  unfold mCount at h
  split at h
  · rename_i z
    split at h
    · rename_i xs h0
      split at h
      · rename_i ns h1
        cases h
        obtain ⟨p, us, rfl, h3, h4, _⟩ := lstOf_sq S ra h0
        cases rs with
        | cons r1 r2 =>
          cases r2
          cases (show _ = V.int _ from r1.2)
          rw [(intsOf_at h4 h1).1] at h3
          exact ⟨p, ns, z, rfl, rfl, h3, q.ok S rfl trivial⟩
      · cases h
    · cases h
  · cases h
/-! dicts -/
def keyOf : A → Option Key
  | .int i => some (.inl i)
  | .str x => some (.inr x)
  | _ => none
theorem keyOf_v {a : A} {v : V} {k : Key} (r : Rep K μ n H a v) (h : keyOf a = some k) : v = kV k := by
  cases a with
  | int i => cases (show v = .int i from r); cases h; rfl
  | str i => cases (show v = .str i from r); cases h; rfl
  | _ => cases h
def dicOf (a : A) (st : Sto) : Option (List (Key × A)) := match a with
  | .dtm kvs => some kvs
  | .loc l => match st[l]? with
    | some (.dic kvs) => some kvs
    | _ => none
  | _ => none
theorem dicOf_at {a : A} {v : V} {kvs : List (Key × A)} (S : RS K μ st H) (r : Rep K μ st.length H a v) (h : dicOf a st = some kvs) : ∃ p ws, v = .ref p ∧ H p = some (.dK ws) ∧ RepD K μ st.length H kvs ws := by
  cases a with
  | dtm ys =>
    obtain ⟨p, vs, rfl, h1, h2, h3⟩ := r
    cases h
    exact ⟨p, vs, rfl, h1, h3⟩
  | loc l =>
    obtain ⟨h1, rfl⟩ := r
    unfold dicOf at h
    simp only at h
    split at h
    · rename_i ys h2
      cases h
      obtain ⟨vs, h3, h4⟩ := S.at_ l _ h2
      exact ⟨μ l, vs, rfl, h3, h4⟩
    · cases h
  | _ => cases h
def valA (kvs : List (Key × A)) (k : Key) : Option A := (kvs.find? fun kv => decide (kv.1 = k)).map (·.2)
def putA (kvs : List (Key × A)) (k : Key) (v : A) : List (Key × A) :=
  if (kvs.any fun kv => decide (kv.1 = k)) = true then kvs.map (fun kv => if kv.1 = k then (kv.1, v) else kv) else kvs ++ [(k, v)]
def dropA (kvs : List (Key × A)) (k : Key) : List (Key × A) := kvs.filter fun kv => decide (kv.1 ≠ k)
theorem val_pd {k : Key} : ∀ {kvs : List (Key × A)} {ws : List (Key × V)}, Paired (RK K μ n H) kvs ws → (valA kvs k = none ∧ valV ws k = none) ∨ ∃ a v, valA kvs k = some a ∧ valV ws k = some v ∧ RN K μ n H a v
  | _, _, .nil => .inl ⟨rfl, rfl⟩
  | _, _, .cons (a := x) (b := y) r t => by
    by_cases e : x.1 = k
    · refine .inr ⟨x.2, y.2, ?_, valV_pos (r.1.symm.trans e), r.2⟩
      simp [valA, List.find?_cons, e]
    · have e' : ¬ y.1 = k := fun z => e (r.1.trans z)
      have e1 : ∀ r : List (Key × A), valA (x :: r) k = valA r k := fun r => by simp [valA, List.find?_cons, e]
      rcases val_pd (k := k) t with ⟨h1, h2⟩ | ⟨a, v, h1, h2, h3⟩
      · exact .inl ⟨(e1 _).trans h1, (valV_neg e').trans h2⟩
      · exact .inr ⟨a, v, (e1 _).trans h1, (valV_neg e').trans h2, h3⟩
theorem any_pd {k : Key} : ∀ {kvs : List (Key × A)} {ws : List (Key × V)}, Paired (RK K μ n H) kvs ws → (kvs.any fun kv => decide (kv.1 = k)) = (ws.any fun kv => decide (kv.1 = k))
  | _, _, .nil => rfl
  | _, _, .cons (a := x) (b := y) r t => by rw [List.any_cons, List.any_cons, any_pd t, r.1]
theorem put_pd {k : Key} {a : A} {v : V} (ra : RN K μ n H a v) {kvs : List (Key × A)} {ws : List (Key × V)} (h : Paired (RK K μ n H) kvs ws) : Paired (RK K μ n H) (putA kvs k a) (putK ws k v) := by
  unfold putA putK
  rw [any_pd h]
  split
  · skip
    rename_i hx
    clear hx
    induction h with
    | nil => exact .nil
    | cons r t ih =>
      rename_i x y _ _
      refine .cons ?_ ih
      by_cases e : x.1 = k
      · have e' : y.1 = k := r.1.symm.trans e
        simp only [e, e', if_true]
        exact ⟨rfl, ra⟩
      · have e' : ¬ y.1 = k := fun z => e (r.1.trans z)
        simp only [e, e', if_false]
        exact r
  · exact pd_append h (.cons ⟨rfl, ra⟩ .nil)
theorem drop_pd {k : Key} : ∀ {kvs : List (Key × A)} {ws : List (Key × V)}, Paired (RK K μ n H) kvs ws → Paired (RK K μ n H) (dropA kvs k) (dropK ws k)
  | _, _, .nil => .nil
  | _, _, .cons (a := x) (b := y) r t => by
    unfold dropA dropK
    have ih := drop_pd (k := k) t
    unfold dropA dropK at ih
    by_cases e : x.1 = k
    · have e' : y.1 = k := r.1.symm.trans e
      rw [List.filter_cons_of_neg (by simp [e]), List.filter_cons_of_neg (by simp [e'])]
      exact ih
    · have e' : ¬ y.1 = k := fun z => e (r.1.trans z)
      rw [List.filter_cons_of_pos (by simp [e]), List.filter_cons_of_pos (by simp [e'])]
      exact .cons r ih
/-- what is at a key -/
def getA (a b : A) (st : Sto) : Option (Option A) := match dicOf a st, keyOf b with
  | some kvs, some k => some (valA kvs k)
  | _, _ => none
theorem getA_ok {a b : A} {v u : V} {o : Option A} (S : RS K μ st H) (ra : Rep K μ st.length H a v) (rb : Rep K μ st.length H b u) (h : getA a b st = some o) :
    ∃ p ov, v = .ref p ∧ DGet H p u ov ∧ ((o = none ∧ ov = none) ∨ ∃ x w, o = some x ∧ ov = some w ∧ RN K μ st.length H x w) := by
  unfold getA at h
  split at h
  · rename_i kvs k h1 h2
    cases h
    obtain ⟨p, ws, rfl, h3, h4⟩ := dicOf_at S ra h1
    rw [keyOf_v rb h2]
    exact ⟨p, _, rfl, DGet.k h3, val_pd (repD_iff.mp h4)⟩
  · cases h
def opDGet : F2 := fun a b st => match getA a b st with
  | some (some x) => .ok x st
  | _ => .no
theorem dx_dget {o i : Expr} {fo fi : FE} {pos : Pos} (hu : X.A.units + 1 < cLine) (ho : PE X o (tOf K fo)) (hi : PE X i (tOf K fi)) (hs : NoSl i) : PE X (.Subscript o i pos) (tOf K (f2 opDGet fo fi)) := by
  refine pe_weak (pe_dget hu ho hi hs) ?_
  rintro σ H Q ⟨μ, st, ρ, a, st', S, E, h, q⟩
  unfold f2 at h
  split at h
  · rename_i a1 st1 h1
    split at h
    · rename_i b1 st2 h2
      refine ⟨μ, st, ρ, a1, st1, S, E, h1, fun v μ1 H1 S1 E1 r1 _ => ?_⟩
      refine ⟨μ1, st1, ρ, b1, st2, S1, E.ext S E1, h2, fun u μ2 H2 S2 E2 r2 _ => ?_⟩
      unfold opDGet at h
      split at h
      · rename_i x h3
        cases h
        obtain ⟨p, ov, rfl, h4, ⟨h5, _⟩ | ⟨y, w, h5, rfl, h6⟩⟩ := getA_ok S2 (r1.ext S1 E2) r2 h3
        · cases h5
        · cases h5
          exact ⟨p, w, rfl, h4, (q.from (E1.trans E2)).ok S2 h6.2 h6.1⟩
      · cases h
    · cases h
  · cases h
/-- k in d -/
def fDIn (fk fd : FE) : FE := fun ρ st => match fk ρ st with
  | .ok k st1 => (match fd ρ st1 with
    | .ok d st2 => (match getA d k st2 with
      | some o => .ok (.bl o.isSome) st2
      | none => .no)
    | .no => .no)
  | .no => .no
def fDInNot (fk fd : FE) : FE := fun ρ st => match fk ρ st with
  | .ok k st1 => (match fd ρ st1 with
    | .ok d st2 => (match getA d k st2 with
      | some o => .ok (.bl (!o.isSome)) st2
      | none => .no)
    | .no => .no)
  | .no => .no
theorem dc_din {i o : Expr} {fk fd : FE} (hu : X.A.units + 1 < cLine) (hi : PE X i (tOf K fk)) (ho : PE X o (tOf K fd)) : PC X .In i o (tOf K (fDIn fk fd)) := by
  refine ⟨fun pins s σ H Q I h => (pc_din hu hi ho).run pins s σ H Q I ?_⟩
  obtain ⟨μ, st, ρ, a, st', S, E, h, q⟩ := h
  unfold fDIn at h
  split at h
  · rename_i k1 st1 h1
    split at h
    · rename_i d1 st2 h2
      split at h
      · rename_i ov h3
        cases h
        refine ⟨μ, st, ρ, k1, st1, S, E, h1, fun v μ1 H1 S1 E1 r1 _ => ?_⟩
        refine ⟨μ1, st1, ρ, d1, _, S1, E.ext S E1, h2, fun u μ2 H2 S2 E2 r2 _ => ?_⟩
        have q2 := q.from (E1.trans E2)
        obtain ⟨p, ow, rfl, h4, ⟨rfl, rfl⟩ | ⟨y, w, rfl, rfl, h6⟩⟩ := getA_ok S2 r2 (r1.ext S1 E2) h3
        · exact ⟨p, _, rfl, h4, q2.ok S2 rfl trivial⟩
        · exact ⟨p, _, rfl, h4, q2.ok S2 rfl trivial⟩
      · cases h
    · cases h
  · cases h
theorem dc_dnin {i o : Expr} {fk fd : FE} (hu : X.A.units + 1 < cLine) (hi : PE X i (tOf K fk)) (ho : PE X o (tOf K fd)) : PC X .NotIn i o (tOf K (fDInNot fk fd)) := by
  refine ⟨fun pins s σ H Q I h => (pc_dnotin hu hi ho).run pins s σ H Q I ?_⟩
  obtain ⟨μ, st, ρ, a, st', S, E, h, q⟩ := h
  unfold fDInNot at h
  split at h
  · rename_i k1 st1 h1
    split at h
    · rename_i d1 st2 h2
      split at h
      · rename_i ov h3
        cases h
        refine ⟨μ, st, ρ, k1, st1, S, E, h1, fun v μ1 H1 S1 E1 r1 _ => ?_⟩
        refine ⟨μ1, st1, ρ, d1, _, S1, E.ext S E1, h2, fun u μ2 H2 S2 E2 r2 _ => ?_⟩
        have q2 := q.from (E1.trans E2)
        obtain ⟨p, ow, rfl, h4, ⟨rfl, rfl⟩ | ⟨y, w, rfl, rfl, h6⟩⟩ := getA_ok S2 r2 (r1.ext S1 E2) h3
        · exact ⟨p, _, rfl, h4, q2.ok S2 rfl trivial⟩
        · exact ⟨p, _, rfl, h4, q2.ok S2 rfl trivial⟩
      · cases h
    · cases h
  · cases h
theorem dx_din {i o : Expr} {fk fd : FE} {pos : Pos} (hu : X.A.units + 1 < cLine) (hi : PE X i (tOf K fk)) (ho : PE X o (tOf K fd)) (hb : behindInMarks .In o = false := by rfl) : PE X (.Compare i [.In] [o] pos) (tOf K (fDIn fk fd)) := pe_cmp (dc_din hu hi ho) hb
theorem dx_dinNot {i o : Expr} {fk fd : FE} {pos : Pos} (hu : X.A.units + 1 < cLine) (hi : PE X i (tOf K fk)) (ho : PE X o (tOf K fd)) (hb : behindInMarks .NotIn o = false := by rfl) : PE X (.Compare i [.NotIn] [o] pos) (tOf K (fDInNot fk fd)) := pe_cmp (dc_dnin hu hi ho) hb
theorem dt_din {i o : Expr} {fk fd : FE} {pos : Pos} (hu : X.A.units + 1 < cLine) (hi : PE X i (tOf K fk)) (ho : PE X o (tOf K fd)) (hb : behindInMarks .In o = false := by rfl) : PT X (.Compare i [.In] [o] pos) (uOf K (uB (fDIn fk fd))) := pt_weak (pt_cmp (dc_din hu hi ho) hb) fun _ _ _ h => w_bool h
theorem dt_dinNot {i o : Expr} {fk fd : FE} {pos : Pos} (hu : X.A.units + 1 < cLine) (hi : PE X i (tOf K fk)) (ho : PE X o (tOf K fd)) (hb : behindInMarks .NotIn o = false := by rfl) : PT X (.Compare i [.NotIn] [o] pos) (uOf K (uB (fDInNot fk fd))) := pt_weak (pt_cmp (dc_dnin hu hi ho) hb) fun _ _ _ h => w_bool h
theorem dx_dnew {pos : Pos} : PE X (.Dict [] [] pos) (tOf K (fC (.dtm []))) := by
  refine pe_weak pe_dnewK ?_
  rintro σ H Q ⟨μ, st, ρ, a, st', S, E, h, q⟩
  cases h
  intro p hp
  obtain ⟨S', E'⟩ := S.new (o := .dK []) hp
  exact q _ μ _ S' E' ⟨p, [], rfl, upd_same, S.ne_free hp, rfl⟩ (.inr ⟨p, rfl, hp⟩)
theorem putD {l : Nat} {kvs : List (Key × A)} {ws us : List (Key × V)} (S : RS K μ st H) (hl : l < st.length) (hx : H (μ l) = some (.dK us)) (r : Paired (RK K μ st.length H) kvs ws) :
    RS K μ (st.set l (.dic kvs)) (upd H (μ l) (.dK ws)) ∧ Ext μ st.length H μ (st.set l (.dic kvs)).length (upd H (μ l) (.dK ws)) :=
  S.put (l := l) hl (o := .dic kvs) (u := .dK ws) fun H' E h => ⟨ws, h, repD_iff.mpr (r.mono fun _ _ z => ⟨z.1, RN.ext z.2 S E⟩)⟩
/-- d[k] = v -/
def sDPutF (fd fk f : FE) : FS := fun ρ st => match fB f ρ st with
  | .ok v st1 => (match fd ρ st1 with
    | .ok (.loc l) st2 => (match fk ρ st2 with
      | .ok k st3 => (match st3[l]?, keyOf k with
        | some (.dic kvs), some kk => if kvs.length < sizeLine then .nx ρ (st3.set l (.dic (putA kvs kk v))) else .no
        | _, _ => .no)
      | .no => .no)
    | _ => .no)
  | .no => .no
theorem ds_dput {o i e : Expr} {fd fk f : FE} {pos pos' : Pos} (hu : X.A.units + 1 < cLine) (ho : PE X o (tOf K fd)) (hi : PE X i (tOf K fk)) (hv : PE X e (tOf K f)) (hs : swapsWith e (some (.Subscript o i pos')) pos.line X.env = pure false) : PS X (.Assign [.Subscript o i pos'] e pos) (sOf K (sDPutF fd fk f)) := by
  refine ps_weak (ps_dput hu ho hi (dx_bn hv) hs) ?_
  rintro D σ H ⟨μ, st, ρ, S, E, q⟩
  unfold sDPutF at q
  split at q
  · rename_i v1 st1 h1
    split at q
    · rename_i l st2 h2
      split at q
      · rename_i k1 st3 h3
        split at q
        · rename_i kvs kk h4 h5
          split at q
          · rename_i hz
            refine ⟨μ, st, ρ, v1, st1, S, E, h1, fun v μ1 H1 S1 E1 r1 => ?_⟩
            refine ⟨μ1, st1, ρ, _, st2, S1, E.ext S E1, h2, fun u μ2 H2 S2 E2 r2 _ => ?_⟩
            refine ⟨μ2, st2, ρ, _, st3, S2, (E.ext S E1).ext S1 E2, h3, fun w μ3 H3 S3 E3 r3 _ => ?_⟩
            obtain ⟨hl, rfl⟩ := r2.ext S2 E3
            obtain ⟨ws, h6, h7⟩ := S3.at_ l _ h4
            have h7' := repD_iff.mp h7
            rw [keyOf_v r3 h5]
            have rv := (r1.ext S1 E2).ext S2 E3
            obtain ⟨S4, E4⟩ := putD S3 hl h6 (put_pd (k := kk) rv h7')
            have E14 := ((E1.trans E2).trans E3).trans E4
            exact ⟨μ3 l, _, rfl, DPut.k h6 (by rw [← h7'.length]; exact hz), q σ μ3 _ S4 (E.ext S E14) E14⟩
          · exact q.elim
        · exact q.elim
      · exact q.elim
    · exact q.elim
  · exact q.elim
/-- del d[k] -/
def sDDelF (fd fk : FE) : FS := fun ρ st => match fd ρ st with
  | .ok (.loc l) st1 => (match fk ρ st1 with
    | .ok k st2 => (match st2[l]?, keyOf k with
      | some (.dic kvs), some kk => if (valA kvs kk).isSome = true then .nx ρ (st2.set l (.dic (dropA kvs kk))) else .no
      | _, _ => .no)
    | .no => .no)
  | _ => .no
theorem ds_ddel {o i : Expr} {fd fk : FE} {pos tpos : Pos} (ho : PE X o (tOf K fd)) (hi : PE X i (tOf K fk)) : PS X (.Delete [.Subscript o i tpos] pos) (sOf K (sDDelF fd fk)) := by
  refine ps_weak (ps_ddel ho hi) ?_
  rintro D σ H ⟨μ, st, ρ, S, E, q⟩
  unfold sDDelF at q
  split at q
  · rename_i l st1 h1
    split at q
    · rename_i k1 st2 h2
      split at q
      · rename_i kvs kk h4 h5
        split at q
        · rename_i hz
          refine ⟨μ, st, ρ, _, st1, S, E, h1, fun v μ1 H1 S1 E1 r1 _ => ?_⟩
          refine ⟨μ1, st1, ρ, _, st2, S1, E.ext S E1, h2, fun u μ2 H2 S2 E2 r2 _ => ?_⟩
          obtain ⟨hl, rfl⟩ := r1.ext S1 E2
          obtain ⟨ws, h6, h7⟩ := S2.at_ l _ h4
          have h7' := repD_iff.mp h7
          obtain ⟨S4, E4⟩ := putD S2 hl h6 (drop_pd (k := kk) h7')
          have E14 := (E1.trans E2).trans E4
          have hs : (valV ws kk).isSome = true := by
            rcases val_pd (k := kk) h7' with ⟨e1, e2⟩ | ⟨a, v, e1, e2, e3⟩
            · rw [e1] at hz; cases hz
            · rw [e2]; rfl
          exact ⟨μ2 l, ws, kk, rfl, h6, keyOf_v r2 h5, hs, q σ μ2 _ S4 (E.ext S E14) E14⟩
        · exact q.elim
      · exact q.elim
    · exact q.elim
  · exact q.elim
/-- d.get(k), d.get(k, x) -/
def fDGet1 (fd fk : FE) : FE := fun ρ st => match fd ρ st with
  | .ok d st1 => if (dicOf d st1).isSome = true then (match fk ρ st1 with
    | .ok k st2 => (match getA d k st2 with
      | some o => .ok (o.getD .non) st2
      | none => .no)
    | .no => .no) else .no
  | .no => .no
def fDGet2 (fd fk fx : FE) : FE := fun ρ st => match fd ρ st with
  | .ok d st1 => if (dicOf d st1).isSome = true then (match fk ρ st1 with
    | .ok k st2 => (match fB fx ρ st2 with
      | .ok x st3 => (match getA d k st3 with
        | some o => .ok (o.getD x) st3
        | none => .no)
      | .no => .no)
    | .no => .no) else .no
  | .no => .no
theorem dic_isD {a : A} {v : V} (S : RS K μ st H) (r : Rep K μ st.length H a v) (h : (dicOf a st).isSome = true) : ∃ p, v = .ref p ∧ IsD H p := by
  obtain ⟨kvs, h1⟩ := Option.isSome_iff_exists.mp h
  obtain ⟨p, ws, rfl, h2, _⟩ := dicOf_at S r h1
  exact ⟨p, rfl, .inl ⟨ws, .inl h2⟩⟩
theorem dx_dgetM1 {o e : Expr} {fd fk : FE} {apos cpos : Pos} (hu : X.A.units + 1 < cLine) (ho : PE X o (tOf K fd)) (he : PE X e (tOf K fk)) (m : M1 X o "get" apos e cpos) : PE X (.Call (.Attribute o "get" apos) [e] [] cpos) (tOf K (fDGet1 fd fk)) := by
  refine pe_weak (pe_dget1 hu ho he m) ?_
  rintro σ H Q ⟨μ, st, ρ, a, st', S, E, h, q⟩
  unfold fDGet1 at h
  split at h
  · rename_i d1 st1 h1
    split at h
    · rename_i hd
      split at h
      · rename_i k1 st2 h2
        split at h
        · rename_i ov h3
          cases h
          refine ⟨μ, st, ρ, d1, st1, S, E, h1, fun v μ1 H1 S1 E1 r1 _ => ?_⟩
          obtain ⟨p, rfl, hD⟩ := dic_isD S1 r1 hd
          refine ⟨p, rfl, hD, μ1, st1, ρ, k1, _, S1, E.ext S E1, h2, fun u μ2 H2 S2 E2 r2 _ => ?_⟩
          have q2 := q.from (E1.trans E2)
          obtain ⟨p', ow, e, h4, ⟨rfl, rfl⟩ | ⟨y, w, rfl, rfl, h6⟩⟩ := getA_ok S2 (r1.ext S1 E2) r2 h3
          · cases e
            exact ⟨_, h4, q2.ok S2 rfl trivial⟩
          · cases e
            exact ⟨_, h4, q2.ok S2 h6.2 h6.1⟩
        · cases h
      · cases h
    · cases h
  · cases h
theorem dx_dgetM2 {o e x : Expr} {fd fk fx : FE} {apos cpos : Pos} (hu : X.A.units + 1 < cLine) (ho : PE X o (tOf K fd)) (he : PE X e (tOf K fk)) (hx : PE X x (tOf K fx)) (m : M2 X o "get" apos e x cpos) : PE X (.Call (.Attribute o "get" apos) [e, x] [] cpos) (tOf K (fDGet2 fd fk fx)) := by
  refine pe_weak (pe_dget2 hu ho he (dx_bn hx) m) ?_
  rintro σ H Q ⟨μ, st, ρ, a, st', S, E, h, q⟩
  unfold fDGet2 at h
  split at h
  · rename_i d1 st1 h1
    split at h
    · rename_i hd
      split at h
      · rename_i k1 st2 h2
        split at h
        · rename_i x1 st3 h3
          split at h
          · rename_i ov h5
            cases h
            refine ⟨μ, st, ρ, d1, st1, S, E, h1, fun v μ1 H1 S1 E1 r1 _ => ?_⟩
            obtain ⟨p, rfl, hD⟩ := dic_isD S1 r1 hd
            refine ⟨p, rfl, hD, μ1, st1, ρ, k1, st2, S1, E.ext S E1, h2, fun u μ2 H2 S2 E2 r2 _ => ?_⟩
            refine ⟨μ2, st2, ρ, x1, _, S2, (E.ext S E1).ext S1 E2, h3, fun z μ3 H3 S3 E3 r3 => ?_⟩
            have q2 := q.from ((E1.trans E2).trans E3)
            obtain ⟨p', ow, e, h4, ⟨rfl, rfl⟩ | ⟨y, w, rfl, rfl, h6⟩⟩ := getA_ok S3 ((r1.ext S1 E2).ext S2 E3) (r2.ext S2 E3) h5
            · cases e
              exact ⟨_, h4, q2.ok S3 r3.2 r3.1⟩
            · cases e
              exact ⟨_, h4, q2.ok S3 h6.2 h6.1⟩
          · cases h
        · cases h
      · cases h
    · cases h
  · cases h
/-! three names at once -/
def sPar3 (i j l : Nat) (g : FA) : FS := fun ρ st => match g ρ st with
  | .ok [a, b, c] st1 => .nx (((ρ.set i (some a)).set j (some b)).set l (some c)) st1
  | _ => .no
end
end Ev
namespace Ev
open PySem PySem.Spec PyProof.Rows L2 Gd
theorem law_callE {P : Program} {w : World} {K : PySem.W.Frag} {mg mb : Str → Option Value} {k : Nat} {fa a : Addr} {fd : FuncData} {x : Str} {sp : Sp} {s : Shared} {vs : List Value} {ns : List Int}
    (inK : K.In s.heap) (names : s.heap.Ns mainGlobals mg) (blt : s.heap.Ns builtinsNs mb) (bltIs : ∀ x : Str, x ≠ "__name__" → mb x = bootBuiltins x) (noLim : s.heap.NoLimit) (noGen : s.gens = #[])
    (script : s.heap.get? a = some { cls := .type "list", data := .seq vs.toArray }) (areI : IntsAre vs ns) (len : ns.length ≤ sizeLine) (room : Room k callerA)
    (F : ∀ base : Heap, K.In base → base.Ns mainGlobals mg → FnG P w K mg base k fa fd [x] sp) (binds : ∀ (s : Shared) (u : Value), BindsTo s fd ⟨[u], []⟩ [(x, u)])
    (want : ∀ H : Hp, FzL K H a (ns.map V.int) → sp [.ref a] H (fun v _ => v = .bl true) fun _ _ _ => False) :
    codeAny (model P w) callerA (.call (.ref fa) ⟨[.ref a], []⟩) (fun r s2 => r = .ok (.ret (.bool true)) ∧ OldK s.heap s2.heap ∧ s2.os = s.os ∧ AllBare s2.gens) s := by
  suffices main : ∀ H : Hp, (∀ b, H b = none ∨ b = a ∧ K.lookup a = none ∧ ∃ o xs, H b = some (.frz o (.lst xs))) → FzL K H a (ns.map V.int) → HOk P w H s.heap →
      codeAny (model P w) callerA (.call (.ref fa) ⟨[.ref a], []⟩) (fun r s2 => r = .ok (.ret (.bool true)) ∧ OldK s.heap s2.heap ∧ s2.os = s.os ∧ AllBare s2.gens) s by
    rcases own : K.lookup a with _ | o
    · refine main (fun b => if b = a then some (.frz { cls := .type "list", data := .seq vs.toArray } (.lst (ns.map V.int))) else none) (fun b => ?_) (.inl ⟨_, if_pos rfl⟩) fun b u z => ?_
      · by_cases e : b = a
        · exact .inr ⟨e, own, _, _, if_pos e⟩
        · exact .inl (if_neg e)
      · by_cases e : b = a
        · subst e
          cases (if_pos rfl).symm.trans z
          exact ⟨script, (List.length_map (f := V.int)) ▸ len, vs, _, vals_ints areI, script⟩
        · cases (if_neg e).symm.trans z
    · have same := (inK a o own).symm.trans script
      cases same
      refine main (fun _ => none) (fun _ => .inl rfl) (.inr ⟨_, vs.toArray, _, own, rfl, rfl, rfl, ?_, by simpa using vals_ints areI⟩) fun b u z => by cases z
      rw [List.size_toArray, areI.length]
      exact len
  intro H few at_ hok
  have shown : ∀ {b : Addr} {o : Obj}, s.heap.get? b = some o → H b = none → (hidT s.heap H).get? b = some o := fun e n => hidT_get e n
  have dicts : ∀ {b : Addr} {o : Obj} {es : Array DictEntry} {ep : Nat}, s.heap.get? b = some o → o.data = .dict es ep → H b = none := by
    intro b o es ep e d
    rcases few b with z | ⟨rfl, _⟩
    · exact z
    · cases e.symm.trans script
      cases d
  have spaces : ∀ {b : Addr} {m : Str → Option Value}, s.heap.Ns b m → (hidT s.heap H).Ns b m := fun ⟨o, es, ep, e, d, r⟩ => ⟨o, es, ep, shown e (dicts e d), d, r⟩
  have inB : K.In (hidT s.heap H) := fun b o e => by
    refine shown (inK b o e) ?_
    rcases few b with z | ⟨rfl, no, _⟩
    · exact z
    · cases no.symm.trans e
  have modB : Mod K mg (hidT s.heap H) := ⟨inB, spaces names, ⟨mb, spaces blt, bltIs⟩, noLim.elim fun mc z => ⟨mc, spaces z.1, z.2⟩⟩
  have env : Env0 P w K mg (hidT s.heap H) callerA [] s H := ⟨rfl, modB, fun _ _ => of_hidT, Nat.le_of_eq (hidT_size _ _), trivial, fun b z => absurd z List.not_mem_nil, hok, .of_eq noGen⟩
  refine codeAny_mono ((F _ inB (spaces names)).run (us := [.ref a]) (vs := [.ref a]) rfl room env (binds s (.ref a)) (.cons rfl .nil) (want H at_)) ?_
  rintro (err | _ | _ | _ | u) s2 z
  · exact (show False from z).elim
  · exact (show False from z).elim
  · exact (show False from z).elim
  · exact (show False from z).elim
  obtain ⟨v, H2, os, bare, un, hok2, rel, rfl⟩ := z
  cases (show u = Value.bool true from rel)
  refine ⟨rfl, OldK.of_keep fun b o e => ?_, os, bare⟩
  rcases few b with z | ⟨_, _, ob, xs, z⟩
  · exact un.keep b o e z (fun y => absurd (show b ∈ ([] : List Addr) from y) List.not_mem_nil) List.not_mem_nil
  · have e1 := (hok b _ z).1.symm.trans e
    cases e1
    exact (hok2 b _ (un.frzs b _ _ z)).1
/-- the end: the law's def, its function gives True for every script -/
theorem walk_ofE {l : PySem.W.OpenLaw} {n k : Nat} {q : Program} {loose : List Str} {XP : (Str → Option Value) → Heap → Prop} {YP : World → Heap → Prop} {d : DefRec} {K : Params → PySem.W.Frag} {c : FN} {x : Str}
    (hn : l.most = some n) (hn2 : n ≤ sizeLine) (hdf : d.params.defaults = []) (room : Room k callerA) (hY : ∀ (w : World) (h : Heap), YP w h → (K w.params).In h)
    (F : ∀ (w : World) (mg : Str → Option Value) (fa : Addr) (h : Heap), (K w.params).In h → h.Ns mainGlobals mg → mg d.name = some (.ref fa) →
      ∃ fd : FuncData, (∀ (s : Shared) (u : Value), BindsTo s fd ⟨[u], []⟩ [(x, u)]) ∧ ∀ base : Heap, (K w.params).In base → base.Ns mainGlobals mg → FnG l.prog w (K w.params) mg base k fa fd [x] (spOf (K w.params) c))
    (ok : ∀ ns : List Int, ns.length ≤ n → ∃ st', c [.frz (ns.map A.int)] [] = .ok (.bl true) st') :
    PySem.W.WalkO q loose XP YP l.row.toRowW d [] (fun f vs => PySem.call f vs) := by
  refine Att.attach_call hn hdf ?_
  intro w s₀ s mg mb fa o pm cd doc a vs ns G Y ho hd hcd hmg hobj hints hlen hg
  obtain ⟨fd, hb, hF⟩ := F w mg fa _ (hY w _ Y) G.T.g hmg
  refine law_callE (hY w _ Y) G.T.g G.T.b G.T.builtins G.T.nolimit hg hobj hints (Nat.le_trans hlen hn2) room hF hb fun H at_ => ?_
  obtain ⟨st', h⟩ := ok ns hlen
  refine ⟨fun _ => 0, [], [.frz (ns.map A.int)], .bl true, st', ⟨fun l o e => by simp at e, fun l l' h => by simp at h⟩, .cons ⟨True.intro, a, _, rfl, at_, repL_ints ns⟩ .nil, h, fun v μ' H' S' E' r f => r⟩
end Ev
namespace Ev
open PySem PySem.Spec PyProof.Rows L2 Gd
section
variable {X : Cx} {K : PySem.W.Frag} {μ μ' : Nat → Addr} {n n' : Nat} {H H' : Hp} {st st' : Sto}
/-! {k: v, ..} -/
def fPs : List (FE × FE) → Rho → Sto → R (List (Key × A))
  | [], _, st => .ok [] st
  | (fk, fv) :: r, ρ, st => (match fk ρ st with
    | .ok k st1 => (match keyOf k with
      | some kk => (match fB fv ρ st1 with
        | .ok v st2 => (match fPs r ρ st2 with
          | .ok l st3 => .ok ((kk, v) :: l) st3
          | .no => .no)
        | .no => .no)
      | none => .no)
    | .no => .no)
def mergeA (kvs more : List (Key × A)) : List (Key × A) := more.foldl (fun acc kv => putA acc kv.1 kv.2) kvs
def fDisp (l : List (FE × FE)) : FE := fun ρ st => match fPs l ρ st with
  | .ok kvs st1 => if kvs.length ≤ 15 then .ok (.dtm (mergeA [] kvs)) st1 else .no
  | .no => .no
def trsOf (K : PySem.W.Frag) (l : List (FE × FE)) : List (TE × TE) := l.map fun p => (tOf K p.1, tBn K p.2)
theorem pairs_ok {ρ : Rho} {σ : L2.St} : ∀ {l : List (FE × FE)} {μ : Nat → Addr} {st : Sto} {H : Hp} {kvs : List (Key × A)} {st' : Sto} {Q : List (V × V) → Hp → Prop}, RS K μ st H → RE K μ st.length H σ ρ → fPs l ρ st = .ok kvs st' →
    (∀ ws μ' H', RS K μ' st' H' → Ext μ st.length H μ' st'.length H' → Paired (RK K μ' st'.length H') kvs ws → Q (ws.map fun kv => (kV kv.1, kv.2)) H') → tPairs (trsOf K l) σ H Q
  | [], μ, st, H, kvs, st', Q, S, E, h, q => by
    cases h
    exact q [] μ H S Ext.refl .nil
  | (fk, fv) :: r, μ, st, H, kvs, st', Q, S, E, h, q => by
    unfold fPs at h
    split at h
    · rename_i k st1 h1
      split at h
      · rename_i kk h2
        split at h
        · rename_i v st2 h3
          split at h
          · rename_i l' st3 h4
            cases h
            refine ⟨μ, st, ρ, k, st1, S, E, h1, fun x μ1 H1 S1 E1 r1 f1 => ?_⟩
            refine ⟨μ1, st1, ρ, v, st2, S1, E.ext S E1, h3, fun y μ2 H2 S2 E2 r2 => ?_⟩
            refine pairs_ok S2 ((E.ext S E1).ext S1 E2) h4 fun ws μ3 H3 S3 E3 r3 => ?_
            have := q ((kk, y) :: ws) μ3 H3 S3 ((E1.trans E2).trans E3) (.cons ⟨rfl, RN.ext r2 S2 E3⟩ r3)
            rw [keyOf_v r1 h2]
            exact this
          · cases h
        · cases h
      · cases h
    · cases h
theorem merge_pd : ∀ {more : List (Key × A)} {ws : List (Key × V)} {kvs : List (Key × A)} {us : List (Key × V)}, Paired (RK K μ n H) more ws → Paired (RK K μ n H) kvs us → Paired (RK K μ n H) (mergeA kvs more) (mergeK us ws)
  | [], _, _, _, h, h2 => by cases h; exact h2
  | x :: r, _, _, _, h, h2 => by
    cases h with
    | cons h3 h4 =>
      rename_i y ws
      have := put_pd (k := x.1) h3.2 h2
      show Paired _ (mergeA (putA _ x.1 x.2) r) (mergeK (putK _ y.1 y.2) ws)
      rw [← h3.1]
      exact merge_pd h4 this
theorem dx_disp {keys : List (Option Expr)} {values : List Expr} {l : List (FE × FE)} {pos : Pos} (h : PPs X pos keys values (trsOf K l)) (hall : keys.all (·.isSome) = true) (hl : keys.length = values.length) (h0 : keys ≠ []) (h15 : keys.length ≤ 15) : PE X (.Dict keys values pos) (tOf K (fDisp l)) := by
  refine pe_weak (pe_disp h hall hl h0 h15) ?_
  rintro σ H Q ⟨μ, st, ρ, a, st', S, E, h, q⟩
  unfold fDisp at h
  split at h
  · rename_i kvs st1 h1
    split at h
    · rename_i hz
      cases h
      intro p hp
      obtain ⟨S0, E0⟩ := S.new (o := .dK []) hp
      refine pairs_ok S0 (E.ext S E0) h1 fun ws μ1 H1 S1 E1 r1 => ?_
      have at1 : H1 p = some (.dK []) := E1.fr p _ upd_same (S.ne_free hp)
      have ne1 : ∀ l, l < st'.length → μ1 l ≠ p := fun l hl e => by
        by_cases h : l < st.length
        · rw [E1.ag l h] at e
          exact S.ne_free hp l h e
        · have := E1.nw l (by omega) hl
          rw [e, upd_same] at this
          cases this
      have g1 : ∀ xs, HO.dK [] ≠ .tup xs := fun _ e => nomatch e
      have g2 : ∀ x z, HO.dK [] ≠ .frz x z := fun _ _ e => nomatch e
      have S2 : RS K μ1 st' (upd H1 p (.dK (mergeK [] ws))) := S1.other at1 g1 g2 ne1
      have r2 : Paired (RK K μ1 st'.length (upd H1 p (.dK (mergeK [] ws)))) kvs ws := r1.mono fun _ _ z => ⟨z.1, RN.other at1 g1 g2 z.2⟩
      have E2 : Ext μ st.length H μ1 st'.length (upd H1 p (.dK (mergeK [] ws))) := by
        have E01 := E0.trans E1
        refine ⟨E01.le, E01.ag, fun c o h1 h2 => ?_, fun c h => ?_, E01.nw⟩
        · rw [upd_ne (ne_of_none h1 hp)]
          exact E01.fr c o h1 h2
        · by_cases e : c = p
          · rw [e]; exact hp
          · rw [upd_ne e] at h
            exact E01.so c h
      refine ⟨at1, ws, rfl, by rw [← r1.length]; exact hz, q _ μ1 _ S2 E2 ⟨p, _, rfl, upd_same, ne1, repD_iff.mpr (merge_pd r2 .nil)⟩ (.inr ⟨p, rfl, hp⟩)⟩
    · cases h
  · cases h
end
theorem dp_nil {X : Cx} {K : PySem.W.Frag} {pos : Pos} : PPs X pos [] [] (trsOf K []) := pps_nil
theorem dp_cons {X : Cx} {K : PySem.W.Frag} {pos : Pos} {k v : Expr} {ks : List (Option Expr)} {vs : List Expr} {fk fv : FE} {l : List (FE × FE)} (hk : PE X k (tOf K fk)) (hv : PE X v (tOf K fv)) (hr : PPs X pos ks vs (trsOf K l)) :
    PPs X pos (some k :: ks) (v :: vs) (trsOf K ((fk, fv) :: l)) := pps_cons hk (dx_bn hv) hr
end Ev
namespace Ev
open PySem PySem.Spec PyProof.Rows L2 Gd
theorem vals_rev : ∀ {vs : List V} {us : List Value}, Vals vs us → Vals vs.reverse us.reverse
  | _, _, .nil => .nil
  | _, _, .cons h t => by
    rw [List.reverse_cons, List.reverse_cons]
    exact (vals_rev t).append (.cons h .nil)
theorem kw_one {K : PySem.W.Frag} {nm qual x : Str} {st : Stmt} {f : Addr} {fd : FuncData} (F : Fun K nm qual st f fd)
    (h1 : ∀ (kV doc pm : Value) (an : Option Addr) (cdv ct : Value) (u : Value), bindArgs (PySem.W.fnOf nm qual (defArgs st) (defBody st) (defScope st) .none kV doc pm an cdv ct) ⟨[u], []⟩ = pure [(x, u)])
    (h2 : ∀ (kV doc pm : Value) (an : Option Addr) (cdv ct : Value) (u : Value), bindArgs (PySem.W.fnOf nm qual (defArgs st) (defBody st) (defScope st) .none kV doc pm an cdv ct) ⟨[], [(x, u)]⟩ = pure [(x, u)]) :
    KBinds K fd [x] [x] (fun us ws => us ++ ws.reverse) (fun us ws => us ++ ws.reverse) := by
  obtain ⟨oc, od, kV, doc, pm, an, cdv, ct, osl, rfl, lk, hcd⟩ := F.ex
  refine ⟨fun s us ws _ hl => ?_, fun r r2 => r.append (vals_rev r2)⟩
  match us, ws, hl with
  | [u], [], _ => exact .of_eq (h1 kV doc pm an cdv ct u)
  | [], [u], _ => exact .of_eq (h2 kV doc pm an cdv ct u)
  | u :: v :: r, ws, hl => simp at hl
  | [u], w :: r, hl => simp at hl
  | [], [], hl => simp at hl
  | [], u :: v :: r, hl => simp at hl
/-- two arguments by their names, the second one first -/
theorem kw_two {K : PySem.W.Frag} {nm qual x y : Str} {st : Stmt} {f : Addr} {fd : FuncData} (F : Fun K nm qual st f fd)
    (h0 : ∀ (kV doc pm : Value) (an : Option Addr) (cdv ct : Value) (u v : Value), bindArgs (PySem.W.fnOf nm qual (defArgs st) (defBody st) (defScope st) .none kV doc pm an cdv ct) ⟨[u, v], []⟩ = pure [(x, u), (y, v)])
    (h1 : ∀ (kV doc pm : Value) (an : Option Addr) (cdv ct : Value) (u v : Value), bindArgs (PySem.W.fnOf nm qual (defArgs st) (defBody st) (defScope st) .none kV doc pm an cdv ct) ⟨[u], [(y, v)]⟩ = pure [(x, u), (y, v)])
    (h2 : ∀ (kV doc pm : Value) (an : Option Addr) (cdv ct : Value) (u v : Value), bindArgs (PySem.W.fnOf nm qual (defArgs st) (defBody st) (defScope st) .none kV doc pm an cdv ct) ⟨[], [(y, v), (x, u)]⟩ = pure [(x, u), (y, v)]) :
    KBinds K fd [x, y] [y, x] (fun us ws => us ++ ws.reverse) (fun us ws => us ++ ws.reverse) := by
  obtain ⟨oc, od, kV, doc, pm, an, cdv, ct, osl, rfl, lk, hcd⟩ := F.ex
  refine ⟨fun s us ws _ hl => ?_, fun r r2 => r.append (vals_rev r2)⟩
  match us, ws, hl with
  | [u, v], [], _ => exact .of_eq (h0 kV doc pm an cdv ct u v)
  | [u], [v], _ => exact .of_eq (h1 kV doc pm an cdv ct u v)
  | [], [v, u], _ => exact .of_eq (h2 kV doc pm an cdv ct u v)
  | u :: v :: w :: r, ws, hl => simp at hl
  | [u, v], w :: r, hl => simp at hl
  | [u], [], hl => simp at hl
  | [u], v :: w :: r, hl => simp at hl
  | [], [], hl => simp at hl
  | [], [v], hl => simp at hl
  | [], u :: v :: w :: r, hl => simp at hl
theorem kw_three {K : PySem.W.Frag} {nm qual x y z : Str} {st : Stmt} {f : Addr} {fd : FuncData} (F : Fun K nm qual st f fd)
    (h0 : ∀ (kV doc pm : Value) (an : Option Addr) (cdv ct : Value) (a b c : Value), bindArgs (PySem.W.fnOf nm qual (defArgs st) (defBody st) (defScope st) .none kV doc pm an cdv ct) ⟨[a, b, c], []⟩ = pure [(x, a), (y, b), (z, c)])
    (h1 : ∀ (kV doc pm : Value) (an : Option Addr) (cdv ct : Value) (a b c : Value), bindArgs (PySem.W.fnOf nm qual (defArgs st) (defBody st) (defScope st) .none kV doc pm an cdv ct) ⟨[a, b], [(z, c)]⟩ = pure [(x, a), (y, b), (z, c)])
    (h2 : ∀ (kV doc pm : Value) (an : Option Addr) (cdv ct : Value) (a b c : Value), bindArgs (PySem.W.fnOf nm qual (defArgs st) (defBody st) (defScope st) .none kV doc pm an cdv ct) ⟨[a], [(z, c), (y, b)]⟩ = pure [(x, a), (y, b), (z, c)])
    (h3 : ∀ (kV doc pm : Value) (an : Option Addr) (cdv ct : Value) (a b c : Value), bindArgs (PySem.W.fnOf nm qual (defArgs st) (defBody st) (defScope st) .none kV doc pm an cdv ct) ⟨[], [(z, c), (y, b), (x, a)]⟩ = pure [(x, a), (y, b), (z, c)]) :
    KBinds K fd [x, y, z] [z, y, x] (fun us ws => us ++ ws.reverse) (fun us ws => us ++ ws.reverse) := by
  obtain ⟨oc, od, kV, doc, pm, an, cdv, ct, osl, rfl, lk, hcd⟩ := F.ex
  refine ⟨fun s us ws _ hl => ?_, fun r r2 => r.append (vals_rev r2)⟩
  match us, ws, hl with
  | [a, b, c], [], _ => exact .of_eq (h0 kV doc pm an cdv ct a b c)
  | [a, b], [c], _ => exact .of_eq (h1 kV doc pm an cdv ct a b c)
  | [a], [c, b], _ => exact .of_eq (h2 kV doc pm an cdv ct a b c)
  | [], [c, b, a], _ => exact .of_eq (h3 kV doc pm an cdv ct a b c)
  | a :: b :: c :: d :: r, ws, hl => simp at hl
  | [a, b, c], w :: r, hl => simp at hl
  | [a, b], [], hl => simp at hl
  | [a, b], c :: d :: r, hl => simp at hl
  | [a], [], hl => simp at hl
  | [a], [b], hl => simp at hl
  | [a], b :: c :: d :: r, hl => simp at hl
  | [], [], hl => simp at hl
  | [], [a], hl => simp at hl
  | [], [a, b], hl => simp at hl
  | [], a :: b :: c :: d :: r, hl => simp at hl
theorem kw_four {K : PySem.W.Frag} {nm qual x y z u : Str} {st : Stmt} {f : Addr} {fd : FuncData} (F : Fun K nm qual st f fd)
    (h0 : ∀ (kV doc pm : Value) (an : Option Addr) (cdv ct : Value) (a b c d : Value), bindArgs (PySem.W.fnOf nm qual (defArgs st) (defBody st) (defScope st) .none kV doc pm an cdv ct) ⟨[a, b, c, d], []⟩ = pure [(x, a), (y, b), (z, c), (u, d)])
    (h1 : ∀ (kV doc pm : Value) (an : Option Addr) (cdv ct : Value) (a b c d : Value), bindArgs (PySem.W.fnOf nm qual (defArgs st) (defBody st) (defScope st) .none kV doc pm an cdv ct) ⟨[a, b, c], [(u, d)]⟩ = pure [(x, a), (y, b), (z, c), (u, d)])
    (h2 : ∀ (kV doc pm : Value) (an : Option Addr) (cdv ct : Value) (a b c d : Value), bindArgs (PySem.W.fnOf nm qual (defArgs st) (defBody st) (defScope st) .none kV doc pm an cdv ct) ⟨[a, b], [(u, d), (z, c)]⟩ = pure [(x, a), (y, b), (z, c), (u, d)])
    (h3 : ∀ (kV doc pm : Value) (an : Option Addr) (cdv ct : Value) (a b c d : Value), bindArgs (PySem.W.fnOf nm qual (defArgs st) (defBody st) (defScope st) .none kV doc pm an cdv ct) ⟨[a], [(u, d), (z, c), (y, b)]⟩ = pure [(x, a), (y, b), (z, c), (u, d)])
    (h4 : ∀ (kV doc pm : Value) (an : Option Addr) (cdv ct : Value) (a b c d : Value), bindArgs (PySem.W.fnOf nm qual (defArgs st) (defBody st) (defScope st) .none kV doc pm an cdv ct) ⟨[], [(u, d), (z, c), (y, b), (x, a)]⟩ = pure [(x, a), (y, b), (z, c), (u, d)]) :
    KBinds K fd [x, y, z, u] [u, z, y, x] (fun us ws => us ++ ws.reverse) (fun us ws => us ++ ws.reverse) := by
  obtain ⟨oc, od, kV, doc, pm, an, cdv, ct, osl, rfl, lk, hcd⟩ := F.ex
  refine ⟨fun s us ws _ hl => ?_, fun r r2 => r.append (vals_rev r2)⟩
  match us, ws, hl with
  | [a, b, c, d], [], _ => exact .of_eq (h0 kV doc pm an cdv ct a b c d)
  | [a, b, c], [d], _ => exact .of_eq (h1 kV doc pm an cdv ct a b c d)
  | [a, b], [d, c], _ => exact .of_eq (h2 kV doc pm an cdv ct a b c d)
  | [a], [d, c, b], _ => exact .of_eq (h3 kV doc pm an cdv ct a b c d)
  | [], [d, c, b, a], _ => exact .of_eq (h4 kV doc pm an cdv ct a b c d)
  | a :: b :: c :: d :: e :: r, ws, hl => simp at hl
  | [a, b, c, d], w :: r, hl => simp at hl
  | [a, b, c], [], hl => simp at hl
  | [a, b, c], d :: e :: r, hl => simp at hl
  | [a, b], [], hl => simp at hl
  | [a, b], [c], hl => simp at hl
  | [a, b], c :: d :: e :: r, hl => simp at hl
  | [a], [], hl => simp at hl
  | [a], [b], hl => simp at hl
  | [a], [b, c], hl => simp at hl
  | [a], b :: c :: d :: e :: r, hl => simp at hl
  | [], [], hl => simp at hl
  | [], [a], hl => simp at hl
  | [], [a, b], hl => simp at hl
  | [], [a, b, c], hl => simp at hl
  | [], a :: b :: c :: d :: e :: r, hl => simp at hl
end Ev
/-! what is never reached; a range with a step; a dict's length; zip; dict comprehensions -/
namespace Ev
open PySem PySem.Spec PyProof.Rows L2 Gd
section
variable {X : Cx} {K : PySem.W.Frag} {e e2 e3 : Expr} {s : Stmt} {tg : Expr} {f g h : FE} {p pos : Pos} {μ μ' : Nat → Addr} {n n' : Nat} {H H' : Hp} {st st' : Sto}
/-- never reached -/
def sNo : FS := fun _ _ => .no
def fNo : FE := fun _ _ => .no
theorem ds_no : PS X s (sOf K sNo) := ⟨fun pins s σ H D I h => by
  obtain ⟨_, _, _, _, _, q⟩ := h
  exact q.elim⟩
theorem dx_no : PE X e (tOf K fNo) := ⟨fun pins s σ H Q I h => by
  obtain ⟨_, _, _, _, _, _, _, q, _⟩ := h
  cases q⟩
/-- range(i, j, c) -/
instance (i j c : Int) (n : Nat) : Decidable (RgC i j c n) := inferInstanceAs (Decidable (_ ∧ _ ∧ _ ∧ _))
def rg3A (i c : Int) (n : Nat) : List A := (List.range n).map fun k => .int (i + (k : Nat) * c)
def fRg3 (f g h : FE) : FI := fun ρ st => match f ρ st with
  | .ok (.int i) st1 => (match g ρ st1 with
    | .ok (.int j) st2 => (match h ρ st2 with
      | .ok (.int c) st3 => if RgC i j c (Builtin.Range.rangeSize i j c).toNat then .ok (rg3A i c (Builtin.Range.rangeSize i j c).toNat, fun _ => True) st3 else .no
      | _ => .no)
    | _ => .no)
  | _ => .no
theorem di_rg3 (hm : X.mg "range" = none) (h1 : PE X e (tOf K f)) (h2 : PE X e2 (tOf K g)) (h3 : PE X e3 (tOf K h)) (hg : Gl X "range" := by rfl)
    (hs : starEach [e, e2, e3] X.env = (false, eval e X.env) :: starEach [e2, e3] X.env := by rfl) (hs1 : starEach [e2, e3] X.env = (false, eval e2 X.env) :: starEach [e3] X.env := by rfl) (hs2 : starEach [e3] X.env = (false, eval e3 X.env) :: starEach [] X.env := by rfl)
    (hpl : (backTo pos (starEach [e2, e3] X.env)).any (·.1) = false := by rfl) : PI X tg (.Call (.Name "range" p) [e, e2, e3] [] pos) (iOf K (fRg3 f g h)) := by
  refine pi_weak (pi_range3 hg hm (pa_cons h1 (pa_cons h2 (pa_cons h3 pa_nil hs2) hs1) hs) hs hpl) ?_
  rintro σ H Z ⟨μ, st, ρ, xs, G, st', S, E, q0, q⟩
  unfold fRg3 at q0
  split at q0
  · rename_i i0 st1 h1
    split at q0
    · rename_i j st2 h2
      split at q0
      · rename_i c st3 h3
        split at q0
        · rename_i hj
          cases q0
          refine ⟨μ, st, ρ, _, _, S, E, h1, ?_⟩
          rintro v μ1 H1 S1 E1 r1 f1
          cases (show v = .int i0 from r1)
          refine ⟨μ1, st1, ρ, _, _, S1, E.ext S E1, h2, ?_⟩
          rintro v μ2 H2 S2 E2 r2 f2
          cases (show v = .int j from r2)
          refine ⟨μ2, st2, ρ, _, _, S2, E.ext S (E1.trans E2), h3, ?_⟩
          rintro v μ3 H3 S3 E3 r3 f3
          cases (show v = .int c from r3)
          refine ⟨i0, j, c, _, rfl, hj, q _ μ3 H3 _ _ S3 (E1.trans (E2.trans E3)) (by rw [rg3A, List.length_map, List.length_range]; exact walk_rangeC) (fun _ _ _ _ _ _ => trivial) ?_⟩
          rintro i x H2 H3 μ2 st2 b hi S2 E2 hG ⟨rfl, rfl⟩
          unfold rg3A at hi
          rw [List.getElem?_map] at hi
          cases hk : (List.range (Builtin.Range.rangeSize i0 j c).toNat)[i]? with
          | none => rw [hk] at hi; cases hi
          | some z =>
            rw [hk] at hi
            have := (List.getElem?_eq_some_iff.mp hk).2
            rw [List.getElem_range] at this
            subst this
            cases hi
            exact ⟨S2, Ext.refl, trivial, rfl⟩
        · cases q0
      · cases q0
    · cases q0
  · cases q0
/-- len of a dict -/
def rLenD : List V → Hp → VK → Prop := fun xs H Q => ∃ (p : Addr) (kvs : List (Key × V)), xs = [.ref p] ∧ H p = some (.dK kvs) ∧ Q (.int ((kvs.length : Nat) : Int)) H
theorem call_len_dK : CallR X (.builtin "len") rLenD := by
  intro pins s σ H xs us Q I r h
  obtain ⟨p, kvs, rfl, hp, q⟩ := h
  obtain ⟨u, rfl, rx⟩ := vals1 r
  obtain rfl : u = .ref p := rx
  exact d_len I (.inl hp) fun t s' I' => ⟨.int ((kvs.length : Nat) : Int), H, I', ⟨_, rfl⟩, q⟩
def bLenD : FN := fun as st => match as with
  | [a] => (match dicOf a st with
    | some kvs => .ok (.int (kvs.length : Nat)) st
    | none => .no)
  | _ => .no
theorem on_lenD : OpN K rLenD bLenD := by
  intro μ st H as c st' vs Q S r h q
  unfold bLenD at h
  split at h
  · split at h
    · rename_i kvs h1
      cases h
      cases r with
      | cons r1 r2 =>
        cases r2
        obtain ⟨p, ws, rfl, h3, h4⟩ := dicOf_at S r1 h1
        have hl := (repD_iff.mp h4).length
        rw [hl] at q
        exact ⟨p, ws, rfl, h3, q.ok S rfl trivial⟩
    · cases h
  · cases h
end
end Ev
/-! dict comprehensions -/
namespace Ev
open PySem PySem.Spec PyProof.Rows L2 Gd
open Classical in
noncomputable def dcF (ρ : Rho) (g : A → Rho → Option Rho) (u : FT) (fk fv : FE) (G : Sto → Prop) : List A → List (Key × A) → Sto → R (List (Key × A))
  | [], acc, st => if G st then .ok acc st else .no
  | x :: xs, acc, st => if G st then (match g x ρ with
    | some ρ1 => (match u ρ1 st with
      | .ok true st2 => (match fB fk ρ1 st2 with
        | .ok a st3 => (match fB fv ρ1 st3 with
          | .ok b st4 => (match keyOf a with
            | some k => if acc.length < sizeLine then dcF ρ g u fk fv G xs (putA acc k b) st4 else .no
            | none => .no)
          | .no => .no)
        | .no => .no)
      | .ok false st2 => dcF ρ g u fk fv G xs acc st2
      | .no => .no)
    | none => .no) else .no
noncomputable def fDc (fi : FI) (js : List Nat) (g : A → Rho → Option Rho) (u : FT) (fk fv : FE) : FE := fun ρ st => match fi ρ st with
  | .ok (xs, G) st1 => (match dcF (wipeR ρ js) g u fk fv G xs [] st1 with
    | .ok acc st2 => .ok (.dtm acc) st2
    | .no => .no)
  | .no => .no
section
variable {X : Cx} {K : PySem.W.Frag} {μ μ' : Nat → Addr} {n n' : Nat} {H H' : Hp} {st st' : Sto} {js : List Nat} {g : A → Rho → Option Rho} {u : FT} {fk fv : FE} {fi : FI}
structure DcI (K : PySem.W.Frag) (μ1 : Nat → Addr) (n1 : Nat) (H1 : Hp) (D : Addr) (μ : Nat → Addr) (st : Sto) (H : Hp) (acc : List (Key × A)) (vs : List (Key × V)) : Prop where
  S : RS K μ st H
  E : Ext μ1 n1 H1 μ st.length H
  ne : ∀ l, l < st.length → μ l ≠ D
  at_ : H D = some (.dK vs)
  r : Paired (RK K μ st.length H) acc vs
theorem DcI.step {μ1 : Nat → Addr} {n1 : Nat} {H1 : Hp} {D : Addr} {acc : List (Key × A)} {vs : List (Key × V)} (I : DcI K μ1 n1 H1 D μ st H acc vs) (S' : RS K μ' st' H') (E' : Ext μ st.length H μ' st'.length H') : DcI K μ1 n1 H1 D μ' st' H' acc vs := by
  refine ⟨S', I.E.trans E', fun l hl e => ?_, E'.fr _ _ I.at_ I.ne, I.r.mono fun _ _ r => ⟨r.1, RN.ext r.2 I.S E'⟩⟩
  by_cases h : l < st.length
  · rw [E'.ag l h] at e
    exact I.ne l h e
  · have := E'.nw l (by omega) hl
    rw [e, I.at_] at this
    cases this
theorem DcI.put {μ1 : Nat → Addr} {n1 : Nat} {H1 : Hp} {D : Addr} {acc : List (Key × A)} {vs : List (Key × V)} {k : Key} {a : A} {v : V} (hD : H1 D = none) (I : DcI K μ1 n1 H1 D μ st H acc vs) (r : RN K μ st.length H a v) :
    DcI K μ1 n1 H1 D μ st (upd H D (.dK (putK vs k v))) (putA acc k a) (putK vs k v) := by
  have g1 : ∀ xs, HO.dK vs ≠ .tup xs := fun _ e => nomatch e
  have g2 : ∀ x z, HO.dK vs ≠ .frz x z := fun _ _ e => nomatch e
  refine ⟨I.S.other I.at_ g1 g2 I.ne, ⟨I.E.le, I.E.ag, fun p o h1 h2 => ?_, fun p h => ?_, I.E.nw⟩, I.ne, upd_same, (put_pd r I.r).mono fun _ _ z => ⟨z.1, RN.other I.at_ g1 g2 z.2⟩⟩
  · rw [upd_ne (ne_of_none h1 hD)]
    exact I.E.fr p o h1 h2
  · by_cases e : p = D
    · rw [e]; exact hD
    · rw [upd_ne e] at h
      exact I.E.so p h
/-- a dict comprehension over it -/
theorem dc_it {J : It} {n : Nat} {G : Hp → Prop} {Y : Nat → Hp → V → Hp → Prop} (w : Walk J n G Y) {g : TG} {tt : TT} {tk tv : TE} {vs : List Nat} {σ : L2.St} {H1 : Hp} {D : Addr} {Qd : Hp → Prop} (Pv : Nat → Hp → Prop) (h0 : Pv 0 (upd H1 D (.dK []))) (hG : ∀ i H, i ≤ n → Pv i H → G H)
    (hs : ∀ i x H H', i < n → Pv i H → Y i H x H' → g x (L2.wipe σ vs) H' fun σ2 H2 => L2.wipe σ2 vs = L2.wipe σ vs ∧ tt σ2 H2 fun b H3 =>
      if b = true then tk σ2 H3 fun y H4 => tv σ2 H4 fun z H5 => ∃ kvs k, y = kV k ∧ H5 D = some (.dK kvs) ∧ kvs.length < sizeLine ∧ Pv (i + 1) (upd H5 D (.dK (putK kvs k z))) else Pv (i + 1) H3) (hd : ∀ H, Pv n H → Qd H) :
    ∃ W : Nat → Nat → Hp → Prop, (∃ m, W 0 m (upd H1 D (.dK []))) ∧ ∀ i m H, W i m H →
      (J.stop i H ∧ Qd H) ∨ (J.go i H ∧ ∃ Nx : Hp → Prop, (∀ H', Nx H' → ∃ m', m' < m ∧ W (i + 1) m' H') ∧ ∀ x H', J.yld i H x H' → g x (L2.wipe σ vs) H' fun σ2 H2 => L2.wipe σ2 vs = L2.wipe σ vs ∧ tt σ2 H2 fun b H3 =>
        if b = true then tk σ2 H3 fun y H4 => tv σ2 H4 fun z H5 => ∃ kvs k, y = kV k ∧ H5 D = some (.dK kvs) ∧ kvs.length < sizeLine ∧ Nx (upd H5 D (.dK (putK kvs k z))) else Nx H3) := by
  refine ⟨fun i m H => m = n - i ∧ i ≤ n ∧ Pv i H, ⟨n, by simp, Nat.zero_le _, h0⟩, ?_⟩
  rintro i m H ⟨rfl, hi, p⟩
  have q := hG i H hi p
  by_cases hlt : i < n
  · exact .inr ⟨w.goes i H hlt q, Pv (i + 1), fun H' p' => ⟨n - (i + 1), by omega, rfl, hlt, p'⟩, fun x H' y => hs i x H H' hlt p (w.yields i H x H' hlt q y)⟩
  · have e : i = n := by omega
    subst e
    exact .inl ⟨w.stops H q, hd H p⟩
theorem w_dc {wi : TI} {t : TG} {σ : L2.St} {H : Hp} {Q : VK} {tt : TT} (lt : LTg K js g t) (hw : ∀ σ H Z, iOf K fi σ H Z → wi σ H Z) (ht : ∀ σ H Z, uOf K u σ H Z → tt σ H Z) (h : tOf K (fDc fi js g u fk fv) σ H Q) :
    tDc wi t tt (tBn K fk) (tBn K fv) js σ H Q := by
  obtain ⟨μ, st, ρ, z, st', S, E, h, q⟩ := h
  unfold fDc at h
  split at h
  · rename_i xs G st1 h1
    split at h
    · rename_i accF st2 h2
      cases h
      refine hw _ _ _ ⟨μ, st, ρ, xs, G, st1, S, E, h1, fun J μ1 H1 GH Y S1 E1 w hG hY D hD => ?_⟩
      have R1 : RE K μ1 st1.length H1 (L2.wipe σ js) (wipeR ρ js) := (E.ext S E1).wipe js
      refine dc_it w (Qd := fun H => Q (.ref D) H) (fun i H2 => ∃ μ2 st2' acc vs, DcI K μ1 st1.length H1 D μ2 st2' H2 acc vs ∧ dcF (wipeR ρ js) g u fk fv G (xs.drop i) acc st2' = .ok accF st') ⟨μ1, st1, [], [], ?_, h2⟩ ?_ ?_ ?_
      · obtain ⟨S', E'⟩ := S1.new (o := .dK []) hD
        exact ⟨S', E', S1.ne_free hD, upd_same, .nil⟩
      · rintro i H2 hi ⟨μ2, st2', acc, vs, I, h3⟩
        refine hG μ2 st2' H2 I.S I.E ?_
        cases hd : xs.drop i with
        | nil =>
          rw [hd] at h3
          unfold dcF at h3
          split at h3
          · assumption
          · cases h3
        | cons x r =>
          rw [hd] at h3
          unfold dcF at h3
          split at h3
          · assumption
          · cases h3
      · rintro i x H2 H3 hi ⟨μ2, st2', acc, vs, I, h3⟩ y
        rw [List.drop_eq_getElem_cons hi] at h3
        unfold dcF at h3
        split at h3
        · rename_i hGs
          obtain ⟨S3, E3, r3⟩ := hY i x H2 H3 μ2 st2' xs[i] (List.getElem?_eq_getElem hi) I.S I.E hGs y
          have I3 := I.step S3 E3
          split at h3
          · rename_i ρ1 h4
            refine lt.run S3 (R1.ext S1 I3.E) r3 h4 fun σ2 R2 eW => ⟨eW, ?_⟩
            split at h3
            · rename_i st4 h5
              refine ht _ _ _ ⟨μ2, st2', ρ1, true, st4, S3, R2, h5, fun μ4 H4 S4 E4 => iteT ?_⟩
              have I4 := I3.step S4 E4
              split at h3
              · rename_i a5 st5 h6
                split at h3
                · rename_i b6 st6 h7
                  split at h3
                  · rename_i k hk
                    split at h3
                    · rename_i hz
                      refine ⟨μ4, st4, ρ1, a5, st5, S4, R2.ext S3 E4, h6, fun v5 μ5 H5 S5 E5 r5 => ?_⟩
                      have I5 := I4.step S5 E5
                      refine ⟨μ5, st5, ρ1, b6, st6, S5, (R2.ext S3 E4).ext S4 E5, h7, fun v6 μ6 H6 S6 E6 r6 => ?_⟩
                      have I6 := I5.step S6 E6
                      exact ⟨vs, k, keyOf_v r5.2 hk, I6.at_, by rw [← I6.r.length]; exact hz, μ6, st6, putA acc k b6, putK vs k v6, I6.put hD r6, h3⟩
                    · cases h3
                  · cases h3
                · cases h3
              · cases h3
            · rename_i st4 h5
              refine ht _ _ _ ⟨μ2, st2', ρ1, false, st4, S3, R2, h5, fun μ4 H4 S4 E4 => iteF ?_⟩
              exact ⟨μ4, st4, acc, vs, I3.step S4 E4, h3⟩
            · cases h3
          · cases h3
        · cases h3
      · rintro H2 ⟨μ2, st2', acc, vs, I, h3⟩
        rw [List.drop_length] at h3
        unfold dcF at h3
        split at h3
        · cases h3
          refine q (.ref D) μ2 H2 I.S (E1.trans I.E) ⟨D, vs, rfl, I.at_, I.ne, repD_iff.mpr I.r⟩ (.inr ⟨D, rfl, E1.so D hD⟩)
        · cases h3
    · cases h
  · cases h
theorem dx_dc {kx vx tg iter : Expr} {ifs : List Expr} {scope : Scope} {own : List (Str × Nat)} {pos : Pos} {t : TG} (hc : X.calm = true) (hN : X.N.Nodup) (hi : PI X tg iter (iOf K fi)) (ok : BlkOk X.N X.env.scope scope own) (lt : LTg K (own.map (·.2)) g t)
    (hg : ∀ (s : Shared) (H : Hp) (C : Addr) (cl : List (Str × Addr)) (fp : List Addr), PG (X.blk s H scope (compEnvC scope cl C X.env) fp) tg t) (ht : ∀ (s : Shared) (H : Hp) (C : Addr) (cl : List (Str × Addr)) (fp : List Addr), PTs (X.blk s H scope (compEnvC scope cl C X.env) fp) ifs (uOf K u))
    (hk : ∀ (s : Shared) (H : Hp) (C : Addr) (cl : List (Str × Addr)) (fp : List Addr), PE (X.blk s H scope (compEnvC scope cl C X.env) fp) kx (tOf K fk))
    (he : ∀ (s : Shared) (H : Hp) (C : Addr) (cl : List (Str × Addr)) (fp : List Addr), PE (X.blk s H scope (compEnvC scope cl C X.env) fp) vx (tOf K fv)) (hs : ∀ x, foldedSetIterable iter X.env x = pure x := by intro _; rfl) :
    PE X (.DictComp kx vx [⟨tg, iter, ifs, 0⟩] scope pos) (tOf K (fDc fi (own.map (·.2)) g u fk fv)) :=
  pe_weak (pe_dc hc hN hi ok hg ht (fun s H C cl fp => dx_bn (hk s H C cl fp)) (fun s H C cl fp => dx_bn (he s H C cl fp)) hs) fun _ _ _ h => w_dc lt (fun _ _ _ z => z) (fun _ _ _ z => z) h
end
end Ev
/-! max of a tuple of ints -/
namespace Ev
open PySem PySem.Spec PyProof.Rows L2 Gd
section
variable {X : Cx} {K : PySem.W.Frag}
def rMaxT (K : PySem.W.Frag) : List V → Hp → VK → Prop := fun xs H Q => ∃ (p : Addr) (n : Int) (r : List Int), xs = [.ref p] ∧ SqT K H p ((n :: r).map V.int) ∧ Q (.int (r.foldl max n)) H
theorem call_maxT (hK : X.K = K) (hc : X.calm = true) (hu : X.A.units + 65 < cLine) : CallR X (.builtin "max") (rMaxT K) := by
  subst hK
  intro pins s σ H vs us Q I r h
  obtain ⟨p, n, ns, rfl, hs, q⟩ := h
  obtain ⟨its, rv, hl, _⟩ := I.tuple hs
  rw [Vals.ref1 r]
  have hr := IntsAre.reads s.heap rv.ints
  refine PySem.W.max_tuple_data (x := .int n) (xs := ns.map .int) (I.ok.hd hc) hl (by simpa using hr) ?_ ?_ fun i v h' tk bs hi rd hk => ?_
  · have mem : ∀ x ∈ (PyData.int n :: ns.map PyData.int), ∃ k, x = PyData.int k := fun x hx => by
      rcases List.mem_cons.mp hx with rfl | hx
      · exact ⟨_, rfl⟩
      · obtain ⟨k, _, rfl⟩ := List.mem_map.mp hx
        exact ⟨_, rfl⟩
    refine ⟨fun x hx y hy => ?_, fun x hx e => ?_⟩
    · obtain ⟨k, rfl⟩ := mem x hx
      obtain ⟨l, rfl⟩ := mem y hy
      rfl
    · obtain ⟨k, rfl⟩ := mem x hx
      cases e
  · have dz : ∀ l : List Int, PyData.depthAll (l.map PyData.int) = 0 := fun l => by
      induction l with
      | nil => rfl
      | cons c l ih => simp [PyData.depthAll, PyData.depth, ih]
    have := dz (n :: ns)
    rw [List.map_cons] at this
    rw [this]
    show X.A.units + 1 + 0 < cLine
    omega
  · rw [PySem.W.maxD_ints] at rd
    cases rd
    exact ⟨.int _, H, I.kept hk, ⟨_, rfl⟩, q⟩
/-- max of one tuple of ints -/
def bMaxT : FN := fun as st => match as with
  | [.tup xs] => (match intsOf xs with
    | some (n :: r) => .ok (.int (r.foldl max n)) st
    | _ => .no)
  | _ => .no
theorem on_maxT : OpN K (rMaxT K) bMaxT := by
  intro μ st H as c st' vs Q S r h q
  unfold bMaxT at h
  split at h
  · rename_i xs
    split at h
    · rename_i n ns h1
      cases h
      cases r with
      | cons r1 r2 =>
        cases r2
        obtain ⟨p, us, rfl, h3, h4⟩ := r1
        have h5 := h3.sq
        rw [(intsOf_at h4 h1).1] at h5
        exact ⟨p, n, ns, rfl, h5, q.ok S rfl trivial⟩
    · cases h
  · cases h
end
end Ev
/-! a dict comprehension given a name -/
namespace Ev
open PySem PySem.Spec PyProof.Rows L2 Gd
section
variable {X : Cx} {K : PySem.W.Frag} {js : List Nat} {gA : A → Rho → Option Rho} {u : FT} {fk fv : FE} {fi : FI}
theorem sw_trueD {kx vx : Expr} {gs : List Comprehension} {scope : Scope} {pos py : Pos} {y : Str} {l : Nat} {env : Env} (hk : env.scope.kind = .function) (hy : env.scope.names.lookup y = some .local) (hl : (py.line == pos.line) = true)
    (ha : (scope.names.any fun (n, k) => n == y && (k == .local || k == .cell)) = false) : swapsWith (.DictComp kx vx gs scope pos) (some (.Name y py)) l env = pure true := by
  have ky : env.kindOf y = some .local := hy
  have hb : env.blockKind = .function := by unfold Env.blockKind; rw [hk]; rfl
  unfold swapsWith
  simp only [hb, ky, ha, Expr.pos, hl]
  rfl
theorem ps_setDc {i : Nat} {y : Str} {py : Pos} {kx vx tg iter : Expr} {ifs : List Expr} {scope : Scope} {own : List (Str × Nat)} {pos spos : Pos} {wi : TI} {g : TG} {tt : TT} {tk tv : TE} (hc : X.calm = true) (hN : X.N.Nodup) (hy : X.N[i]? = some y) (hyl : X.env.scope.names.lookup y = some .local)
    (hsw : swapsWith (.DictComp kx vx [⟨tg, iter, ifs, 0⟩] scope pos) (some (.Name y py)) spos.line X.env = pure true) (hi : PI X tg iter wi) (ok : BlkOk X.N X.env.scope scope own)
    (hg : ∀ (s : Shared) (H : Hp) (C : Addr) (cl : List (Str × Addr)) (fp : List Addr), PG (X.blk s H scope (compEnvC scope cl C X.env) fp) tg g) (ht : ∀ (s : Shared) (H : Hp) (C : Addr) (cl : List (Str × Addr)) (fp : List Addr), PTs (X.blk s H scope (compEnvC scope cl C X.env) fp) ifs tt)
    (hk : ∀ (s : Shared) (H : Hp) (C : Addr) (cl : List (Str × Addr)) (fp : List Addr), PE (X.blk s H scope (compEnvC scope cl C X.env) fp) kx tk)
    (he : ∀ (s : Shared) (H : Hp) (C : Addr) (cl : List (Str × Addr)) (fp : List Addr), PE (X.blk s H scope (compEnvC scope cl C X.env) fp) vx tv) (hs : ∀ x, foldedSetIterable iter X.env x = pure x) :
    PS X (.Assign [.Name y py] (.DictComp kx vx [⟨tg, iter, ifs, 0⟩] scope pos) spos) (tAsg (tDc wi g tt tk tv (own.map (·.2))) (gName i)) := by
  refine ⟨fun pins s σ H D I h => ?_⟩
  rw [exec_Assign_Name_used _ _ _ _ hsw]
  refine wpAny_bind (wpAny_standAt (wpAny_bind ?_))
  show wpAny _ X.A (do let _ ← comprehension (.DictComp kx vx [⟨tg, iter, ifs, 0⟩] scope pos) scope X.env (firstIterPos [⟨tg, iter, ifs, 0⟩] pos) newDict false (eval iter X.env) (some (assign (.Name y py) X.env))) _ _ s
  have h : tDc wi g tt tk tv (own.map (·.2)) σ H (fun x H1 => gName i x σ H1 D.nx) := h
  refine wpAny_bind (thn (dc_core (Qf := fun _ s' => SP X pins D .next s') hc hN I hi ok hg ht hk he hs h fun L C s' m H' I' q hn f => ?_) fun _ s' hq => wpAny_pure (wpAny_pure hq))
  show wpAny _ _ (assign (.Name y py) X.env (.ref L)) _ _ _
  refine wpAny_assign_Name (store_ok2 (v := V.ref L) I' hN hy (.inl hyl) rfl (fun s2 I2 ⟨a, sb, ha⟩ => ?_) (.inr hyl))
  obtain ⟨f0, f1, f2, f3, f4, f5⟩ := f
  have haC : C ≠ a := by
    rcases ha with z | z
    · rw [z]; exact f1
    · exact fun e => f4 y a z e.symm
  refine ⟨m, hn.sameBut sb haC, fun h3 sb3 => ?_⟩
  exact ⟨_, H', I2.turned (t' := s2.toks) (fun b o hb e => (sb3.2 b hb).trans e) f0 f1 f3 f4 f5, q⟩
theorem ds_setDc {i : Nat} {y : Str} {py : Pos} {kx vx tg iter : Expr} {ifs : List Expr} {scope : Scope} {own : List (Str × Nat)} {pos spos : Pos} {t : TG} (hc : X.calm = true) (hN : X.N.Nodup) (hy : X.N[i]? = some y) (hyl : X.env.scope.names.lookup y = some .local)
    (hsw : swapsWith (.DictComp kx vx [⟨tg, iter, ifs, 0⟩] scope pos) (some (.Name y py)) spos.line X.env = pure true) (hi : PI X tg iter (iOf K fi)) (ok : BlkOk X.N X.env.scope scope own) (lt : LTg K (own.map (·.2)) gA t)
    (hg : ∀ (s : Shared) (H : Hp) (C : Addr) (cl : List (Str × Addr)) (fp : List Addr), PG (X.blk s H scope (compEnvC scope cl C X.env) fp) tg t) (ht : ∀ (s : Shared) (H : Hp) (C : Addr) (cl : List (Str × Addr)) (fp : List Addr), PTs (X.blk s H scope (compEnvC scope cl C X.env) fp) ifs (uOf K u))
    (hk : ∀ (s : Shared) (H : Hp) (C : Addr) (cl : List (Str × Addr)) (fp : List Addr), PE (X.blk s H scope (compEnvC scope cl C X.env) fp) kx (tOf K fk))
    (he : ∀ (s : Shared) (H : Hp) (C : Addr) (cl : List (Str × Addr)) (fp : List Addr), PE (X.blk s H scope (compEnvC scope cl C X.env) fp) vx (tOf K fv)) (hs : ∀ x, foldedSetIterable iter X.env x = pure x := by intro _; rfl) :
    PS X (.Assign [.Name y py] (.DictComp kx vx [⟨tg, iter, ifs, 0⟩] scope pos) spos) (sOf K (sAsg (fDc fi (own.map (·.2)) gA u fk fv) (gSet i))) := by
  refine ps_weak (ps_setDc hc hN hy hyl hsw hi ok hg ht (fun s H C cl fp => dx_bn (hk s H C cl fp)) (fun s H C cl fp => dx_bn (he s H C cl fp)) hs) ?_
  rintro D σ H ⟨μ, st, ρ, S, E, q⟩
  unfold sAsg fB at q
  split at q
  · rename_i a1 st1 h1
    split at h1
    · rename_i a2 st2 h2
      refine w_dc lt (fun _ _ _ z => z) (fun _ _ _ z => z) ⟨μ, st, ρ, a2, st2, S, E, h2, fun v μ1 H1 S1 E1 r1 f1 => ?_⟩
      obtain ⟨μ2, S2, E2, r2, n2⟩ := Post.locd S1 E1 r1 f1 h1
      exact q _ μ2 H1 S2 ((E.ext S E2).set n2 r2) E2
    · cases h1
  · exact q.elim
end
end Ev
/-! t[::-1] of a tuple -/
namespace Ev
open PySem PySem.Spec PyProof.Rows L2 Gd
section
variable {prog : Program} {w : World} {A : Around} {E : Value → Shared → Prop} {s : Shared}
theorem places_rev (n : Nat) : Builtin.Slice.slicePlaces ((n : Int) - 1) (-1) (-1) = n := by
  unfold Builtin.Slice.slicePlaces
  have h1 : ¬ ((-1 : Int) > 0) := by decide
  simp only [h1, if_false]
  rw [show (- -1 : Int) = 1 by decide, Int.ediv_one]
  split <;> omega
theorem adjust_rev (n : Nat) : Builtin.Slice.sliceAdjust none none (-1) (n : Int) = ((n : Int) - 1, -1) := by
  unfold Builtin.Slice.sliceAdjust
  rfl
theorem sliceApplied_rev {sl : Addr} {vs : Value} {n : Nat} {Q : Int × Int × Nat → Shared → Prop} (hs : s.heap.IsSliceOf sl .none .none vs) (ps : IsPart vs (some (-1)))
    (h : Q ((n : Int) - 1, -1, n) s) : wpAny (model prog w) A (Builtin.Slice.sliceApplied (.ref sl) (pure (n : Int))) Q E s := by
  obtain ⟨os, hos, hcs, hds⟩ := id hs
  unfold Builtin.Slice.sliceApplied Builtin.Slice.sliceFields
  refine wpAny_bind (wpAny_bind (wpAny_field hos hds (x := .none) rfl (wpAny_bind (wpAny_field hos hds (x := .none) rfl (wpAny_bind (wpAny_field hos hds (x := vs) rfl (wpAny_pure ?_)))))))
  refine wpAny_bind (HT.slicePart_ ps ?_)
  show wpAny _ _ (if ((-1 : Int) == 0) = true then _ else _) _ _ s
  rw [if_neg (by decide)]
  refine wpAny_bind (HT.slicePart_ .none (wpAny_bind (HT.slicePart_ .none (wpAny_bind (wpAny_pure ?_)))))
  show wpAny _ _ (match Builtin.Slice.sliceAdjust none none (-1) (n : Int) with | (lo, hi) => pure (lo, (-1 : Int), Builtin.Slice.slicePlaces lo hi (-1))) _ _ s
  rw [adjust_rev]
  show wpAny _ _ (pure ((n : Int) - 1, (-1 : Int), Builtin.Slice.slicePlaces ((n : Int) - 1) (-1) (-1))) _ _ s
  rw [places_rev]
  exact wpAny_pure h
theorem pick_rev (xs : Array Value) : ((List.range xs.size).filterMap fun (m : Nat) => xs[(((xs.size : Nat) : Int) - 1 + (m : Int) * (-1)).toNat]?).toArray = xs.toList.reverse.toArray := by
  have e : ((List.range xs.size).filterMap fun (m : Nat) => xs[(((xs.size : Nat) : Int) - 1 + (m : Int) * (-1)).toNat]?) = ((List.range xs.size).map fun k => xs.size - 1 - k).filterMap (xs[·]?) := by
    rw [List.filterMap_map]
    congr 1
    funext m
    show xs[(((xs.size : Nat) : Int) - 1 + (m : Int) * (-1)).toNat]? = xs[xs.size - 1 - m]?
    congr 1
    omega
  rw [e, PySem.W.krv_range, List.filterMap_reverse, PySem.W.krv_all]
theorem getItem_tuple_rev {t sl : Addr} {items : Array Value} {vs : Value} {Q : Value → Shared → Prop} (ht : IsTup s.heap t items) (hs : s.heap.IsSliceOf sl .none .none vs) (ps : IsPart vs (some (-1)))
    (h : Q (.ref s.heap.objs.size) { s with heap := s.heap.push { cls := .type "tuple", data := .seq items.toList.reverse.toArray } })
    (hsz : items.size ≤ sizeLine) : wpAny (model prog w) A (getItem (.ref t) (.ref sl)) Q E s := by
  have htake : sizeOk (.seq items.toList.reverse.toArray) := by
    show items.toList.reverse.toArray.size ≤ sizeLine
    rw [List.size_toArray, List.length_reverse, Array.length_toList]
    exact hsz
  obtain ⟨os, hos, hcs, hds⟩ := id hs
  have hTs : s.TypeIs (.ref sl) "slice" := ⟨os, hos, hcs⟩
  unfold getItem
  try with_reducible refine wpAny_holding ?_
  first | refine wpAny_bind (wpAny_pure ?_) | skip
  refine wpAny_bind (wpAny_sequenceKey ht.typeIs (by decide) ?_)
  refine wpAny_bind (wpAny_callSpecial?_slot (name := Str.ofString "__getitem__") ht.typeIs PyProof.Rows.slot_tuple_getitem
    (wpAny_call_entry PyProof.Rows.slot_tuple_getitem ht.typeIs entry_tuple_getitem ?_ (args_tuple_getitem _ _)))
  show wpAny _ _ (Builtin.Tuple.tupleItemsOf (.ref t) >>= _) _ _ s
  refine wpAny_bind (tupleItemsOf_ ht ?_)
  refine wpAny_bind (wpAny_typeOf hTs ?_)
  rw [if_pos (by decide)]
  refine wpAny_bind (sliceApplied_rev hs ps ?_)
  have hno : ¬ ((((items.size : Nat) : Int) - 1 == 0 && (-1 : Int) == 1 && items.size == items.size) = true) := by
    intro q
    rw [Bool.and_eq_true, Bool.and_eq_true] at q
    exact absurd q.1.2 (by decide)
  show wpAny _ _ (if (((items.size : Nat) : Int) - 1 == 0 && (-1 : Int) == 1 && items.size == items.size) = true then _ else _) _ _ s
  rw [if_neg hno, pick_rev]
  first
    | exact wpAny_bind (m := Builtin.Tuple.tupleExact _) (wpAny_newObj_type (wpAny_pure ⟨_, rfl, wpAny_pure h⟩) htake)
    | exact wpAny_bind (m := Builtin.Tuple.tupleExact _) (wpAny_newObj_type (wpAny_bind (wpAny_pure (wpAny_pure ⟨_, rfl, wpAny_pure h⟩))) htake)
    | exact wpAny_bind (wpAny_bind (m := Builtin.Tuple.tupleExact _) (wpAny_newObj_type (wpAny_pure (wpAny_pure ⟨_, rfl, wpAny_pure h⟩)) htake))
    | exact wpAny_bind (wpAny_bind (m := Builtin.Tuple.tupleExact _) (wpAny_newObj_type (wpAny_pure ⟨_, rfl, wpAny_pure h⟩) htake))
end
section
variable {X : Cx} {K : PySem.W.Frag}
def tRevT (K : PySem.W.Frag) (te : TE) : TE := fun σ H Q => te σ H fun x H1 => ∃ a xs, x = .ref a ∧ SqT K H1 a xs ∧ NewT H1 xs.reverse Q
theorem pe_revTp {e : Expr} {te : TE} {k : Nat} {p1 p2 p3 pos : Pos} (he : PE X e te) : PE X (.Subscript e (.Slice none none (some (.UnaryOp .USub (.Constant (.int 1) k p1) p2)) p3) pos) (tRevT X.K te) := by
  refine ⟨fun pins s σ H Q I h => ?_⟩
  refine Subscript_ (thn (he.run pins s σ H _ I h) fun v s1 ⟨x, H1, I1, r1, q1⟩ => ?_)
  obtain ⟨a, xs, ex, hx, q⟩ := q1
  subst ex
  cases r1
  have hst : PO X (some (.UnaryOp .USub (.Constant (.int 1) k p1) p2)) (tPart (tUn (rU fun i => .int (-i)) (tC (.int 1)))) := po_some (pe_un un_neg pe_int)
  refine wpAny_Slice (thn (po_none.run pins s1 σ H1 (fun o H2 => o = none ∧ H2 = H1) I1 ⟨rfl, rfl⟩) fun vl s2 ⟨l, H2, I2, pl, el, e2⟩ => ?_)
  subst el e2
  refine thn (po_none.run pins s2 σ H2 (fun o H3 => o = none ∧ H3 = H2) I2 ⟨rfl, rfl⟩) fun vu s3 ⟨u, H3, I3, pu, eu, e3⟩ => ?_
  subst eu e3
  refine thn (hst.run pins s3 σ H3 (fun o H4 => o = some (-1) ∧ H4 = H3) I3 ⟨1, rfl, -1, rfl, rfl, rfl⟩) fun vs s4 ⟨o, H4, I4, ps, eo, e4⟩ => ?_
  subst eo e4
  have I5 : Inv X pins σ H4 { s4 with heap := s4.heap.push { cls := .type "slice", data := .fields #[vl, vu, vs] } } := I4.kept (t' := s4.toks) fun b ob q => Heap.get?_push_of_some _ q
  obtain ⟨its, r, ht, hz⟩ := I5.tuple hx
  have hlen := r.length
  cases pl
  cases pu
  show wpAny (model X.prog X.w) X.A (subscriptTail e (.Slice none none (some (.UnaryOp .USub (.Constant (.int 1) k p1) p2)) p3) (.ref a) (.ref s4.heap.objs.size)) (EP X pins σ Q) X.xe { s4 with heap := s4.heap.push { cls := .type "slice", data := .fields #[.none, .none, vs] } }
  refine tail_any (ops := [.ref a, .ref s4.heap.objs.size]) ht.typeIs (PyProof.Rows.slot_tuple_getitem.lookup) ?_ (by with_unfolding_all rfl)
  refine getItem_tuple_rev ht (Heap.IsSliceOf.new _ .none .none vs) ps ?_ (by rw [List.size_toArray]; omega)
  have := laidT (s := s4) (h := s4.heap.push { cls := .type "slice", data := .fields #[.none, .none, vs] }) (tk := s4.toks) I5 r.reverse (by rw [List.length_reverse]; exact hz) q
  exact this
/-- t[::-1] of a tuple -/
def fRevT (f : FE) : FE := fun ρ st => match f ρ st with
  | .ok (.tup xs) st1 => .ok (.tup xs.reverse) st1
  | _ => .no
theorem dx_revT {e : Expr} {f : FE} {k : Nat} {p1 p2 p3 pos : Pos} (hK : X.K = K) (he : PE X e (tOf K f)) : PE X (.Subscript e (.Slice none none (some (.UnaryOp .USub (.Constant (.int 1) k p1) p2)) p3) pos) (tOf K (fRevT f)) := by
  subst hK
  refine pe_weak (pe_revTp he) ?_
  rintro σ H Q ⟨μ, st, ρ, a, st', S, E, h, q⟩
  unfold fRevT at h
  split at h
  · rename_i xs st1 h1
    cases h
    refine ⟨μ, st, ρ, .tup xs, _, S, E, h1, fun v μ1 H1 S1 E1 r1 f1 => ?_⟩
    obtain ⟨p, vs, rfl, h5, h6⟩ := r1
    exact ⟨p, vs, rfl, h5.sq, (q.from E1).tup S1 (repL_iff.mpr (pd_rev (repL_iff.mp h6)))⟩
  · cases h
end
end Ev
/-! reckoning with the functions -/
namespace Ev
open PySem PySem.Spec PyProof.Rows L2 Gd
abbrev iL (ns : List Int) : List A := ns.map A.int
abbrev nL (ns : List Nat) : List A := ns.map fun n : Nat => A.int (n : Int)
theorem size_big {n : Nat} (h : n ≤ 1000000) : n < sizeLine := by rw [sizeLine_eq]; omega
open Classical
/-! comprehensions -/
theorem lcF_filter {α : Type} {ρ : Rho} {g : A → Rho → Option Rho} {u : FT} {fe : FE} {G : Sto → Prop} {f : α → A} {p : α → Bool} {val : α → A} {st : Sto} (hG : G st) :
    ∀ {xs : List α} {acc : List A}, acc.length + xs.length < sizeLine → (∀ x ∈ xs, ∃ ρ1, g (f x) ρ = some ρ1 ∧ u ρ1 st = .ok (p x) st ∧ (p x = true → fB fe ρ1 st = .ok (val x) st)) →
      lcF ρ g u fe G (xs.map f) acc st = .ok (acc ++ (xs.filter p).map val) st
  | [], acc, _, _ => by
    show (if G st then _ else _) = _
    rw [if_pos hG]
    simp
  | x :: xs, acc, hl, h => by
    obtain ⟨ρ1, h1, h2, h3⟩ := h x (by simp)
    have hl' : acc.length + (xs.length + 1) < sizeLine := hl
    have ih := fun acc' hl' => lcF_filter (ρ := ρ) (g := g) (u := u) (fe := fe) (f := f) (p := p) (val := val) hG (xs := xs) (acc := acc') hl' fun y hy => h y (List.mem_cons_of_mem _ hy)
    show (if G st then (match g (f x) ρ with | some ρ1 => _ | none => _) else _) = _
    rw [if_pos hG, h1]
    simp only [h2]
    by_cases hp : p x = true
    · rw [hp]
      simp only [h3 hp]
      rw [if_pos (by omega), ih _ (by rw [List.length_append]; show acc.length + 1 + xs.length < sizeLine; omega), List.filter_cons_of_pos hp]
      simp
    · have hp' : p x = false := by simpa using hp
      rw [hp']
      simp only
      rw [ih _ (by omega), List.filter_cons_of_neg (by simp [hp'])]
theorem lcF_map {α : Type} {ρ : Rho} {g : A → Rho → Option Rho} {fe : FE} {G : Sto → Prop} {f : α → A} {val : α → A} {st : Sto} {xs : List α} (hG : G st) (hl : xs.length < sizeLine) (h : ∀ x ∈ xs, ∃ ρ1, g (f x) ρ = some ρ1 ∧ fB fe ρ1 st = .ok (val x) st) :
    lcF ρ g uYes fe G (xs.map f) [] st = .ok (xs.map val) st := by
  have := lcF_filter (ρ := ρ) (g := g) (u := uYes) (fe := fe) (f := f) (p := fun _ => true) (val := val) hG (xs := xs) (acc := []) (by simpa using hl) fun x hx => by
    obtain ⟨ρ1, h1, h2⟩ := h x hx
    exact ⟨ρ1, h1, rfl, fun _ => h2⟩
  rw [this, List.filter_eq_self.mpr (fun _ _ => rfl)]
  rfl
/-! loops that run through -/
theorem loop_fold {α β : Type} {body : FS} {g : FG} {G : Sto → Prop} {f : α → A} (env : β → Rho) (sto : β → Sto) (step : β → α → β) (Pv : β → Prop) : ∀ {xs : List α} {b : β}, Pv b → (∀ b, Pv b → G (sto b)) →
    (∀ b x, x ∈ xs → Pv b → Pv (step b x) ∧ ∃ ρ1 st1, g (f x) (env b) (sto b) = .ok ρ1 st1 ∧ (body ρ1 st1 = .nx (env (step b x)) (sto (step b x)) ∨ body ρ1 st1 = .ct (env (step b x)) (sto (step b x)))) →
      loopF body g G (xs.map f) (env b) (sto b) = .nx (env (xs.foldl step b)) (sto (xs.foldl step b)) ∧ Pv (xs.foldl step b)
  | [], b, hb, hG, _ => by
    refine ⟨?_, hb⟩
    show (if G (sto b) then _ else _) = _
    rw [if_pos (hG b hb)]
    rfl
  | x :: xs, b, hb, hG, h => by
    obtain ⟨h1, ρ1, st1, h2, h3⟩ := h b x (by simp) hb
    have ih := loop_fold (f := f) (g := g) (body := body) (G := G) env sto step Pv (xs := xs) (b := step b x) h1 hG fun c y hy => h c y (List.mem_cons_of_mem _ hy)
    refine ⟨?_, ih.2⟩
    show (if G (sto b) then (match g (f x) (env b) (sto b) with | .ok ρ1 st1 => _ | .no => _) else _) = _
    rw [if_pos (hG b hb), h2]
    rcases h3 with h3 | h3
    · simp only [h3]
      exact ih.1
    · simp only [h3]
      exact ih.1
/-- .. by an invariant over what is done and what is left -/
theorem loop_inv {body : FS} {g : FG} {G : Sto → Prop} (Pv : List A → Rho → Sto → Prop) (T : SR → Prop) : ∀ {xs : List A} {ρ : Rho} {st : Sto}, Pv xs ρ st → (∀ xs ρ st, Pv xs ρ st → G st) →
    (∀ ρ st, Pv [] ρ st → T (.nx ρ st)) → (∀ x xs ρ st, Pv (x :: xs) ρ st → ∃ ρ1 st1, g x ρ st = .ok ρ1 st1 ∧
      ((∃ ρ2 st2, (body ρ1 st1 = .nx ρ2 st2 ∨ body ρ1 st1 = .ct ρ2 st2) ∧ Pv xs ρ2 st2) ∨ (∃ ρ2 st2, body ρ1 st1 = .bk ρ2 st2 ∧ T (.nx ρ2 st2)) ∨ ∃ a st2, body ρ1 st1 = .rt a st2 ∧ T (.rt a st2))) → T (loopF body g G xs ρ st)
  | [], ρ, st, h, hG, h0, _ => by
    show T (if G st then _ else _)
    rw [if_pos (hG _ _ _ h)]
    exact h0 _ _ h
  | x :: xs, ρ, st, h, hG, h0, hs => by
    obtain ⟨ρ1, st1, h1, h2⟩ := hs _ _ _ _ h
    show T (if G st then (match g x ρ st with | .ok ρ1 st1 => _ | .no => _) else _)
    rw [if_pos (hG _ _ _ h), h1]
    rcases h2 with ⟨ρ2, st2, h3 | h3, h4⟩ | ⟨ρ2, st2, h3, h4⟩ | ⟨a, st2, h3, h4⟩
    · simp only [h3]
      exact loop_inv Pv T h4 hG h0 hs
    · simp only [h3]
      exact loop_inv Pv T h4 hG h0 hs
    · simp only [h3]
      exact h4
    · simp only [h3]
      exact h4
/-- a while, by an invariant and a measure -/
theorem while_inv {u : FT} {body : FS} (Pv : Rho → Sto → Prop) (m : Rho → Sto → Nat) (T : SR → Prop) (hs : ∀ ρ st, Pv ρ st → (∃ st1, u ρ st = .ok false st1 ∧ T (.nx ρ st1)) ∨
      ∃ st1, u ρ st = .ok true st1 ∧ ((∃ ρ2 st2, (body ρ st1 = .nx ρ2 st2 ∨ body ρ st1 = .ct ρ2 st2) ∧ Pv ρ2 st2 ∧ m ρ2 st2 < m ρ st) ∨ (∃ ρ2 st2, body ρ st1 = .bk ρ2 st2 ∧ T (.nx ρ2 st2)) ∨ ∃ a st2, body ρ st1 = .rt a st2 ∧ T (.rt a st2))) :
    ∀ {ρ : Rho} {st : Sto}, Pv ρ st → T (sWhile u body ρ st) := by
  suffices main : ∀ k ρ st, m ρ st < k → Pv ρ st → T (sWhile u body ρ st) from fun {ρ st} h => main _ ρ st (Nat.lt_succ_self _) h
  intro k
  induction k with
  | zero => exact fun _ _ h => absurd h (by omega)
  | succ k ih =>
    intro ρ st hk h
    rw [sWhile_eq]
    rcases hs ρ st h with ⟨st1, h1, h2⟩ | ⟨st1, h1, ⟨ρ2, st2, h3 | h3, h4, h5⟩ | ⟨ρ2, st2, h3, h4⟩ | ⟨a, st2, h3, h4⟩⟩
    · rw [h1]
      exact h2
    · rw [h1]
      simp only [h3]
      exact ih _ _ (by omega) h4
    · rw [h1]
      simp only [h3]
      exact ih _ _ (by omega) h4
    · rw [h1]
      simp only [h3]
      exact h4
    · rw [h1]
      simp only [h3]
      exact h4
/-! what a def leaves -/
theorem kept_self (st suf : Sto) : Kept st (st ++ suf) := ⟨by rw [List.length_append]; omega, fun l hl => .inl (List.getElem?_append_left hl)⟩
/-! a value without lists -/
mutual
def A.dry : A → Bool
  | .loc _ => false
  | .tmp _ => false
  | .frz _ => false
  | .dtm _ => false
  | .tup xs => dryL xs
  | .pr a b => a.dry && b.dry
  | _ => true
def dryL : List A → Bool
  | [] => true
  | a :: r => a.dry && dryL r
end
mutual
theorem dry_bel {n : Nat} : ∀ {a : A}, a.dry = true → a.bel n = true
  | .non, _ => rfl
  | .bl _, _ => rfl
  | .int _, _ => rfl
  | .str _, _ => rfl
  | .tup xs, h => dryL_bel (xs := xs) h
  | .pr a b, h => by
    have h' : (a.dry && b.dry) = true := h
    rw [Bool.and_eq_true] at h'
    show (a.bel n && b.bel n) = true
    rw [dry_bel h'.1, dry_bel h'.2]
    rfl
theorem dryL_bel {n : Nat} : ∀ {xs : List A}, dryL xs = true → belL n xs = true
  | [], _ => rfl
  | a :: r, h => by
    have h' : (a.dry && dryL r) = true := h
    rw [Bool.and_eq_true] at h'
    show (a.bel n && belL n r) = true
    rw [dry_bel h'.1, dryL_bel h'.2]
    rfl
end
theorem dryL_map {α : Type} {f : α → A} : ∀ {xs : List α}, (∀ x ∈ xs, (f x).dry = true) → dryL (xs.map f) = true
  | [], _ => rfl
  | x :: xs, h => by
    show ((f x).dry && dryL (xs.map f)) = true
    rw [h x (by simp), dryL_map fun y hy => h y (List.mem_cons_of_mem _ hy)]
    rfl
theorem dryL_append : ∀ {xs ys : List A}, dryL xs = true → dryL ys = true → dryL (xs ++ ys) = true
  | [], _, _, h => h
  | x :: xs, ys, h, h2 => by
    have h' : (x.dry && dryL xs) = true := h
    rw [Bool.and_eq_true] at h'
    show (x.dry && dryL (xs ++ ys)) = true
    rw [h'.1, dryL_append h'.2 h2]
    rfl
/-- a dry value comes back alone -/
theorem finish_dry {st st' : Sto} {a : A} (h : a.dry = true) (k : Kept st st') : finish st a st' = .ok a (st'.take st.length) := by
  unfold finish
  rw [if_pos k]
  cases a with
  | loc l => cases h
  | _ => exact if_pos (dry_bel h)
theorem finish_pure {st suf : Sto} {a : A} (h : a.dry = true) : finish st a (st ++ suf) = .ok a st := by
  rw [finish_dry h (kept_self st suf), List.take_left]
/-- a new list comes back as a new one -/
theorem finish_list {st st' : Sto} {l : Nat} {xs : List A} (k : Kept st st') (hl : st.length ≤ l) (h : st'[l]? = some (.lst xs)) (d : dryL xs = true) : finish st (.loc l) st' = .ok (.tmp xs) (st'.take st.length) := by
  unfold finish
  rw [if_pos k]
  simp only
  rw [if_neg (by omega), h]
  exact if_pos (dryL_bel d)
theorem finish_tmp {st st' : Sto} {xs : List A} (k : Kept st st') (d : dryL xs = true) : finish st (.tmp xs) st' = .ok (.tmp xs) (st'.take st.length) := by
  unfold finish
  rw [if_pos k]
  exact if_pos (dryL_bel d)
theorem defn_rt {p m : Nat} {g : FS} {as : List A} {st st' : Sto} {a : A} {r : R A} (hl : as.length = p) (e : g (as.map some ++ List.replicate m none) st = .rt a st') (f : finish st a st' = r) : defn p m g as st = r := by
  unfold defn
  rw [if_pos hl, e]
  exact f
theorem defn_nx {p m : Nat} {g : FS} {as : List A} {st st' : Sto} {ρ : Rho} {r : R A} (hl : as.length = p) (e : g (as.map some ++ List.replicate m none) st = .nx ρ st') (f : finish st .non st' = r) : defn p m g as st = r := by
  unfold defn
  rw [if_pos hl, e]
  exact f
/-! the source of draws: J is what the source's making has left -/
def D3 (J : O) (cs : List Int) (b : Int) (suf : Sto) : Sto := J :: .lst (iL cs) :: .lst [.loc 1, .int b] :: suf
structure Src (J : O) (cs : List Int) (b : Int) : Prop where
  b0 : 0 ≤ b
  b1 : b < 2 ^ 40
  c0 : ∀ c ∈ cs, 0 ≤ c
  len : cs.length ≤ 48
theorem D3_app {J : O} {cs : List Int} {b : Int} {suf more : Sto} : D3 J cs b suf ++ more = D3 J cs b (suf ++ more) := rfl
theorem D3_len {J : O} {cs : List Int} {b : Int} {suf : Sto} : (D3 J cs b suf).length = suf.length + 3 := rfl
theorem D3_take {J : O} {cs cs' : List Int} {b b' : Int} {suf more : Sto} : (D3 J cs' b' (suf ++ more)).take (D3 J cs b suf).length = D3 J cs' b' suf := by
  rw [D3_len]
  show J :: .lst (iL cs') :: .lst [.loc 1, .int b'] :: (suf ++ more).take suf.length = _
  rw [List.take_left]
  rfl
theorem dryL_ints (ns : List Int) : dryL (iL ns) = true := dryL_map fun _ _ => rfl
theorem dryL_nats (ns : List Nat) : dryL (nL ns) = true := dryL_map fun _ _ => rfl
theorem D3_kept {J : O} {cs cs' : List Int} {b b' : Int} {suf more : Sto} : Kept (D3 J cs b suf) (D3 J cs' b' (suf ++ more)) := by
  refine ⟨by rw [D3_len, D3_len, List.length_append]; omega, fun l hl => ?_⟩
  rw [D3_len] at hl
  match l, hl with
  | 0, _ => exact .inl rfl
  | 1, _ => exact .inr ⟨_, rfl, dryL_bel (dryL_ints cs')⟩
  | 2, _ =>
    refine .inr ⟨_, rfl, ?_⟩
    rw [D3_len]
    show (decide (1 < suf.length + 3) && (true && true)) = true
    simp
  | l + 3, hl =>
    refine .inl ?_
    show (suf ++ more)[l]? = suf[l]?
    exact List.getElem?_append_left (by omega)
/-! data -/
theorem dWs_map {α : Type} {g : Nat → Option PyData} {f : α → A} {d : α → PyData} : ∀ {xs : List α}, (∀ x ∈ xs, dW g (f x) = some (d x)) → dWs g (xs.map f) = some (xs.map d)
  | [], _ => rfl
  | x :: xs, h => by
    show (match dW g (f x), dWs g (xs.map f) with | some d, some ds => some (d :: ds) | _, _ => none) = _
    rw [h x (by simp), dWs_map fun y hy => h y (List.mem_cons_of_mem _ hy)]
    rfl
theorem dWs_iL (g : Nat → Option PyData) (cs : List Int) : dWs g (iL cs) = some (cs.map PyData.int) := dWs_map fun _ _ => rfl
theorem dWs_nL (g : Nat → Option PyData) (cs : List Nat) : dWs g (nL cs) = some (cs.map fun n : Nat => PyData.int (n : Int)) := dWs_map fun _ _ => rfl
theorem shaped_iL (cs : List Int) : SeqAt.shaped (.list (cs.map PyData.int)) = true := by
  have h1 : ∀ cs : List Int, PyData.canLayAll0 (cs.map PyData.int) = true := fun cs => by
    induction cs with
    | nil => rfl
    | cons c cs ih => simp [PyData.canLayAll0, PyData.canLay0, ih]
  have h2 : ∀ cs : List Int, PyData.depthAll (cs.map PyData.int) = 0 := fun cs => by
    induction cs with
    | nil => rfl
    | cons c cs ih => simp [PyData.depthAll, PyData.depth, ih]
  unfold SeqAt.shaped
  simp [PyData.canLay0, PyData.depth, h1, h2]
theorem eqv_nilL (cs : List PyData) : PyData.eqv (.list cs) (.list []) = cs.isEmpty := by
  cases cs with
  | nil => rfl
  | cons c cs => rfl
/-- data of a list -/
theorem toD_lst {a : A} {st : Sto} {xs : List A} {ds : List PyData} (h : lstOf a st = some xs) (hd : ∀ g, dWs g xs = some ds) : toD st a = some (.list ds) := by
  cases a with
  | tmp ys =>
    cases h
    show (dWs _ xs).map PyData.list = _
    rw [hd]
    rfl
  | frz ys =>
    cases h
    show (dWs _ xs).map PyData.list = _
    rw [hd]
    rfl
  | loc l =>
    unfold lstOf at h
    simp only at h
    split at h
    · rename_i ys h2
      cases h
      show (match st[l]? with | some (.lst xs) => _ | _ => none) = _
      rw [h2]
      simp only [hd]
      rfl
    · cases h
  | _ => cases h
/-- xs != [] -/
def A.isStr : A → Bool
  | .str _ => true
  | _ => false
theorem opEq_of {a b : A} {st : Sto} {d e : PyData} (h : toD st a = some d) (h2 : toD st b = some e) (s1 : SeqAt.shaped d = true) (s2 : SeqAt.shaped e = true) (n : a.isStr = false ∨ b.isStr = false) : opEq a b st = .ok (.bl (PyData.eqv d e)) st := by
  have key : (match toD st a, toD st b with
    | some d, some e => if (SeqAt.shaped d && SeqAt.shaped e) = true then R.ok (A.bl (PyData.eqv d e)) st else .no
    | _, _ => .no) = .ok (.bl (PyData.eqv d e)) st := by
    rw [h, h2]
    exact if_pos (by rw [s1, s2]; rfl)
  cases a <;> cases b <;> first | exact key | (rcases n with n | n <;> cases n)
theorem opNe_of {a b : A} {st : Sto} {d e : PyData} (h : toD st a = some d) (h2 : toD st b = some e) (s1 : SeqAt.shaped d = true) (s2 : SeqAt.shaped e = true) (n : a.isStr = false ∨ b.isStr = false) : opNe a b st = .ok (.bl (!PyData.eqv d e)) st := by
  have key : (match toD st a, toD st b with
    | some d, some e => if (SeqAt.shaped d && SeqAt.shaped e) = true then R.ok (A.bl (!PyData.eqv d e)) st else .no
    | _, _ => .no) = .ok (.bl (!PyData.eqv d e)) st := by
    rw [h, h2]
    exact if_pos (by rw [s1, s2]; rfl)
  cases a <;> cases b <;> first | exact key | (rcases n with n | n <;> cases n)
/-- xs != [] -/
theorem opNe_nil {a : A} {st : Sto} {xs : List A} {ds : List PyData} (h : lstOf a st = some xs) (hd : ∀ g, dWs g xs = some ds) (hs : SeqAt.shaped (.list ds) = true) : opNe a (.tmp []) st = .ok (.bl (!ds.isEmpty)) st := by
  rw [opNe_of (toD_lst h hd) (e := .list []) rfl hs (by decide) (.inr rfl), eqv_nilL]
theorem eqv_int (i j : Int) : PyData.eqv (.int i) (.int j) = decide (i = j) := by
  show (i == j) = _
  rw [Bool.beq_eq_decide_eq]
theorem opEq_int (i j : Int) (st : Sto) : opEq (.int i) (.int j) st = .ok (.bl (decide (i = j))) st := by
  rw [opEq_of (d := .int i) (e := .int j) rfl rfl (by rfl) (by rfl) (.inl rfl), eqv_int]
theorem opNe_int (i j : Int) (st : Sto) : opNe (.int i) (.int j) st = .ok (.bl (!decide (i = j))) st := by
  rw [opNe_of (d := .int i) (e := .int j) rfl rfl (by rfl) (by rfl) (.inl rfl), eqv_int]
/-- repr(x) != repr(y), both one -/
theorem opNe_same (x : Str) (st : Sto) : opNe (.str x) (.str x) st = .ok (.bl false) st := by
  show R.ok (A.bl (!decide (x = x))) st = _
  rw [decide_eq_true rfl]
  rfl
theorem bRepr_of {a : A} {st : Sto} {d : PyData} (h : toD st a = some d) (ok : ReprOk d) : bRepr [a] st = .ok (.str d.shown) st := by
  show (match toD st a with | some d => (if ReprOk d then R.ok (A.str d.shown) st else .no) | none => .no) = _
  rw [h]
  exact if_pos ok
/-! rows of numbers -/
abbrev tN (xs : List Nat) : A := .tup (nL xs)
abbrev tR (rows : List (List Nat)) : A := .tup (rows.map tN)
def dN (xs : List Nat) : PyData := .tuple (xs.map fun n : Nat => PyData.int (n : Int))
def dR (rows : List (List Nat)) : PyData := .tuple (rows.map dN)
abbrev sD (b : Nat) (rows : List (List Nat)) : A := .tup [.int (b : Int), tR rows]
def dSD (b : Nat) (rows : List (List Nat)) : PyData := .tuple [.int (b : Int), dR rows]
theorem dry_tN (xs : List Nat) : (tN xs).dry = true := dryL_nats xs
theorem dry_tR (rows : List (List Nat)) : (tR rows).dry = true := dryL_map fun _ _ => dry_tN _
theorem dry_sD (b : Nat) (rows : List (List Nat)) : (sD b rows).dry = true := by
  show (true && ((tR rows).dry && true)) = true
  rw [dry_tR]
  rfl
theorem dW_tN (g : Nat → Option PyData) (xs : List Nat) : dW g (tN xs) = some (dN xs) := by
  show (dWs g (nL xs)).map PyData.tuple = _
  rw [dWs_nL]
  rfl
theorem dW_tR (g : Nat → Option PyData) (rows : List (List Nat)) : dW g (tR rows) = some (dR rows) := by
  show (dWs g (rows.map tN)).map PyData.tuple = _
  rw [dWs_map (d := dN) fun x _ => dW_tN g x]
  rfl
theorem dW_sD (g : Nat → Option PyData) (b : Nat) (rows : List (List Nat)) : dW g (sD b rows) = some (dSD b rows) := by
  show (match dW g (.int (b : Int)), (match dW g (tR rows), (some [] : Option (List PyData)) with | some d, some ds => some (d :: ds) | _, _ => none) with | some d, some ds => some (d :: ds) | _, _ => none).map PyData.tuple = _
  rw [dW_tR]
  rfl
theorem toD_tN (st : Sto) (xs : List Nat) : toD st (tN xs) = some (dN xs) := dW_tN _ xs
theorem toD_tR (st : Sto) (rows : List (List Nat)) : toD st (tR rows) = some (dR rows) := dW_tR _ rows
theorem toD_sD (st : Sto) (b : Nat) (rows : List (List Nat)) : toD st (sD b rows) = some (dSD b rows) := dW_sD _ b rows
theorem can_dN (xs : List Nat) : (dN xs).canLay0 = true ∧ (dN xs).depth = 1 := by
  have h1 : ∀ xs : List Nat, PyData.canLayAll0 (xs.map fun n : Nat => PyData.int (n : Int)) = true := fun xs => by
    induction xs with
    | nil => rfl
    | cons c cs ih => simp [PyData.canLayAll0, PyData.canLay0, ih]
  have h2 : ∀ xs : List Nat, PyData.depthAll (xs.map fun n : Nat => PyData.int (n : Int)) = 0 := fun xs => by
    induction xs with
    | nil => rfl
    | cons c cs ih => simp [PyData.depthAll, PyData.depth, ih]
  simp [dN, PyData.canLay0, PyData.depth, h1, h2]
theorem shaped_dN (xs : List Nat) : SeqAt.shaped (dN xs) = true := by
  obtain ⟨h1, h2⟩ := can_dN xs
  unfold SeqAt.shaped
  rw [h1, h2]
  rfl
theorem sm_ints {d : Nat} : ∀ xs : List Nat, (∀ x ∈ xs, x ≤ 999999999999) → SmAll d (41 * xs.length) (xs.map fun n : Nat => PyData.int (n : Int))
  | [], _ => .nil
  | i :: ns, h => by
    have a := sm_ints (d := d) ns fun j hj => h j (List.mem_cons_of_mem _ hj)
    have b := h i (by simp)
    have := SmAll.cons (d := d) (.int (i := (i : Int)) (by omega) (by omega)) a
    rw [List.length_cons, show 41 * (ns.length + 1) = 40 + 1 + 41 * ns.length by omega]
    exact this
theorem sm_dN {d : Nat} {xs : List Nat} (h : ∀ x ∈ xs, x ≤ 999999999999) : Sm (d + 1) (41 * xs.length) (dN xs) := .tup (sm_ints xs h)
theorem repr_dN {xs : List Nat} (h : ∀ x ∈ xs, x ≤ 999999999999) (hl : xs.length ≤ 20000) : ReprOk (dN xs) := ⟨1, _, sm_dN h, by decide, by omega⟩
theorem sm_rows {d m : Nat} : ∀ {rows : List (List Nat)}, (∀ xs ∈ rows, xs.length ≤ m ∧ ∀ x ∈ xs, x ≤ 999999999999) → ∃ n, n ≤ (41 * m + 1) * rows.length ∧ SmAll (d + 1) n (rows.map dN)
  | [], _ => ⟨0, Nat.zero_le _, .nil⟩
  | xs :: l, h => by
    obtain ⟨h1, h2⟩ := h xs (by simp)
    obtain ⟨n, hn, hl⟩ := sm_rows (d := d) fun y hy => h y (List.mem_cons_of_mem _ hy)
    refine ⟨41 * xs.length + 1 + n, ?_, .cons (sm_dN h2) hl⟩
    rw [List.length_cons, Nat.mul_add]
    have : 41 * xs.length ≤ 41 * m := Nat.mul_le_mul_left _ h1
    omega
theorem repr_dR {rows : List (List Nat)} (m : Nat) (hm : (41 * m + 1) * rows.length ≤ 1000000) (h : ∀ xs ∈ rows, xs.length ≤ m ∧ ∀ x ∈ xs, x ≤ 999999999999) : ReprOk (dR rows) := by
  obtain ⟨n, hn, hs⟩ := sm_rows (d := 0) h
  exact ⟨2, n, .tup hs, by decide, by omega⟩
theorem repr_dSD {b : Nat} {rows : List (List Nat)} (m : Nat) (hb : b ≤ 999999999999) (hm : (41 * m + 1) * rows.length ≤ 1000000) (h : ∀ xs ∈ rows, xs.length ≤ m ∧ ∀ x ∈ xs, x ≤ 999999999999) : ReprOk (dSD b rows) := by
  obtain ⟨n, hn, hs⟩ := sm_rows (d := 0) h
  exact ⟨3, 40 + 1 + (n + 1 + 0), .tup (.cons (.int (by omega) (by omega)) (.cons (.tup hs) .nil)), by decide, by omega⟩
theorem eqv_dN (as bs : List Nat) : PyData.eqv (dN as) (dN bs) = decide (as = bs) := by
  show PyData.eqvAll _ _ = _
  induction as generalizing bs with
  | nil => cases bs <;> rfl
  | cons a as ih =>
    cases bs with
    | nil => rfl
    | cons b bs =>
      show (PyData.eqv (.int (a : Int)) (.int (b : Int)) && PyData.eqvAll _ _) = _
      rw [ih, eqv_int]
      have e : decide ((a : Int) = (b : Int)) = decide (a = b) := by
        by_cases h : a = b
        · rw [decide_eq_true h, decide_eq_true (by omega)]
        · rw [decide_eq_false h, decide_eq_false (by omega)]
      rw [e]
      by_cases h1 : a = b <;> by_cases h2 : as = bs <;> simp [h1, h2]
theorem repr_bool (b : Bool) : ReprOk (.bool b) := ⟨0, 0, .bl b, by decide, by decide⟩
theorem repr_int {i : Int} (h : -999999999999 ≤ i) (h' : i ≤ 999999999999) : ReprOk (.int i) := ⟨0, 40, .int h h', by decide, by decide⟩
end Ev
/-! one step after another -/
namespace Ev
open PySem PySem.Spec PyProof.Rows L2 Gd
section
variable {ρ ρ1 ρ2 : Rho} {st st1 st2 st3 : Sto} {a b c : A} {as : List A} {f fa fb fc : FE} {g : FA} {u v : FT} {r : R A} {rL : R (List A)} {rb : R Bool} {s t : FS} {z : SR} {k : Bool}
theorem e_f2 {gg : F2} (h1 : fa ρ st = .ok a st1) (h2 : fb ρ st1 = .ok b st2) (h3 : gg a b st2 = r) : f2 gg fa fb ρ st = r := by
  unfold f2; rw [h1]; simp only; rw [h2]; exact h3
theorem e_f1 {gg : F1} (h1 : fa ρ st = .ok a st1) (h3 : gg a st1 = r) : f1 gg fa ρ st = r := by
  unfold f1; rw [h1]; exact h3
theorem e_fN {gg : FN} (h1 : g ρ st = .ok as st1) (h2 : gg as st1 = r) : fN gg g ρ st = r := by
  unfold fN; rw [h1]; exact h2
theorem e_fNK {gg : FN} (h1 : g ρ st = .ok as st1) (h2 : gg as.reverse st1 = r) : fNK gg g ρ st = r := by
  unfold fNK; rw [h1]; exact h2
theorem e_aC (h1 : f ρ st = .ok a st1) (h2 : g ρ st1 = .ok as st2) : aC f g ρ st = .ok (a :: as) st2 := by
  unfold aC; rw [h1]; simp only; rw [h2]
theorem e_aN : aN ρ st = .ok [] st := rfl
theorem e_fB (h1 : f ρ st = .ok a st1) (h2 : locd a st1 = r) : fB f ρ st = r := by
  unfold fB; rw [h1]; exact h2
theorem e_fM {gg : A → FN} (h1 : f ρ st = .ok a st1) (hl : isL a st1 = true) (h2 : g ρ st1 = .ok as st2) (h3 : gg a as st2 = r) : fM gg f g ρ st = r := by
  unfold fM; rw [h1]; simp only; rw [if_pos hl, h2]; exact h3
theorem e_fMT {gg : A → FN} (h1 : f ρ st = .ok a st1) (hl : isT a = true) (h2 : g ρ st1 = .ok as st2) (h3 : gg a as st2 = r) : fMT gg f g ρ st = r := by
  unfold fMT; rw [h1]; simp only; rw [if_pos hl, h2]; exact h3
theorem e_fNeg {i : Int} (h1 : f ρ st = .ok (.int i) st1) : fNeg f ρ st = .ok (.int (-i)) st1 := by
  unfold fNeg; rw [h1]
theorem e_fNot {x : Bool} (h1 : f ρ st = .ok (.bl x) st1) : fNot f ρ st = .ok (.bl (!x)) st1 := by
  unfold fNot; rw [h1]
theorem e_fSl {lo hi : FO} {l h : Option Int} (h1 : f ρ st = .ok a st1) (h2 : lo ρ st1 = .ok l st2) (h3 : hi ρ st2 = .ok h st3) (h4 : cut a l h st3 = r) : fSl f lo hi ρ st = r := by
  unfold fSl; rw [h1]; simp only; rw [h2]; simp only; rw [h3]; exact h4
theorem e_oS {i : Int} (h1 : f ρ st = .ok (.int i) st1) : oS f ρ st = .ok (some i) st1 := by
  unfold oS; rw [h1]
theorem e_oN : oN ρ st = .ok none st := rfl
theorem e_uB (h : f ρ st = .ok (.bl k) st1) : uB f ρ st = .ok k st1 := by
  unfold uB; rw [h]
theorem e_uT (h : f ρ st = .ok a st1) (h2 : tru a st1 = some k) : uT f ρ st = .ok k st1 := by
  unfold uT; rw [h]; simp only; rw [h2]
theorem e_uNot (h : u ρ st = .ok k st1) : uNot u ρ st = .ok (!k) st1 := by
  unfold uNot; rw [h]
theorem e_uAndT (h : u ρ st = .ok true st1) (h2 : v ρ st1 = rb) : uAnd u v ρ st = rb := by
  unfold uAnd; rw [h]; exact h2
theorem e_uAndF (h : u ρ st = .ok false st1) : uAnd u v ρ st = .ok false st1 := by
  unfold uAnd; rw [h]
theorem e_uOrT (h : u ρ st = .ok true st1) : uOr u v ρ st = .ok true st1 := by
  unfold uOr; rw [h]
theorem e_uOrF (h : u ρ st = .ok false st1) (h2 : v ρ st1 = rb) : uOr u v ρ st = rb := by
  unfold uOr; rw [h]; exact h2
theorem e_uAnd {k2 : Bool} (h : u ρ st = .ok k st) (h2 : k = true → v ρ st = .ok k2 st) : uAnd u v ρ st = .ok (k && k2) st := by
  unfold uAnd; rw [h]
  cases k with
  | true => simpa using h2 rfl
  | false => rfl
theorem e_uOr {k2 : Bool} (h : u ρ st = .ok k st) (h2 : k = false → v ρ st = .ok k2 st) : uOr u v ρ st = .ok (k || k2) st := by
  unfold uOr; rw [h]
  cases k with
  | false => simpa using h2 rfl
  | true => rfl
theorem e_fAnd {k2 : Bool} (h : fa ρ st = .ok (.bl k) st) (h2 : k = true → fb ρ st = .ok (.bl k2) st) : fAnd fa fb ρ st = .ok (.bl (k && k2)) st := by
  unfold fAnd; rw [h]
  cases k with
  | true => simpa using h2 rfl
  | false => rfl
theorem e_fOr {k2 : Bool} (h : fa ρ st = .ok (.bl k) st) (h2 : k = false → fb ρ st = .ok (.bl k2) st) : fOr fa fb ρ st = .ok (.bl (k || k2)) st := by
  unfold fOr; rw [h]
  cases k with
  | false => simpa using h2 rfl
  | true => rfl
theorem e_fIfT (h : u ρ st = .ok true st1) (h2 : fa ρ st1 = r) : fIf u fa fb ρ st = r := by
  unfold fIf; rw [h]; exact h2
theorem e_fIfF (h : u ρ st = .ok false st1) (h2 : fb ρ st1 = r) : fIf u fa fb ρ st = r := by
  unfold fIf; rw [h]; exact h2
theorem e_seq (h : s ρ st = .nx ρ1 st1) (h2 : t ρ1 st1 = z) : sSeq s t ρ st = z := by
  unfold sSeq; rw [h]; exact h2
theorem e_seqR (h : s ρ st = .rt a st1) : sSeq s t ρ st = .rt a st1 := by
  unfold sSeq; rw [h]
theorem e_seqB (h : s ρ st = .bk ρ1 st1) : sSeq s t ρ st = .bk ρ1 st1 := by
  unfold sSeq; rw [h]
theorem e_seqC (h : s ρ st = .ct ρ1 st1) : sSeq s t ρ st = .ct ρ1 st1 := by
  unfold sSeq; rw [h]
theorem e_exp (h : f ρ st = .ok a st1) : sExp f ρ st = .nx ρ st1 := by
  unfold sExp; rw [h]
theorem e_ret (h : f ρ st = .ok a st1) : sRet f ρ st = .rt a st1 := by
  unfold sRet; rw [h]
theorem e_ifT (h : u ρ st = .ok true st1) (h2 : s ρ st1 = z) : sIf u s t ρ st = z := by
  unfold sIf; rw [h]; exact h2
theorem e_ifF (h : u ρ st = .ok false st1) (h2 : t ρ st1 = z) : sIf u s t ρ st = z := by
  unfold sIf; rw [h]; exact h2
theorem e_asg {gg : FG} (h : fB f ρ st = .ok a st1) (h2 : gg a ρ st1 = .ok ρ2 st2) : sAsg f gg ρ st = .nx ρ2 st2 := by
  unfold sAsg; rw [h]; simp only; rw [h2]
theorem e_par {i j : Nat} (h : g ρ st = .ok [a, b] st1) : sPar i j g ρ st = .nx ((ρ.set i (some a)).set j (some b)) st1 := by
  unfold sPar; rw [h]
theorem e_for {fi : FI} {gg : FG} {xs : List A} {G : Sto → Prop} (h : fi ρ st = .ok (xs, G) st1) (h2 : loopF s gg G xs ρ st1 = z) : sFor fi gg s ρ st = z := by
  unfold sFor; rw [h]; exact h2
theorem e_lc {fi : FI} {js : List Nat} {gg : A → Rho → Option Rho} {xs acc : List A} {G : Sto → Prop} (h : fi ρ st = .ok (xs, G) st1) (h2 : lcF (wipeR ρ js) gg u f G xs [] st1 = .ok acc st2) : fLc fi js gg u f ρ st = .ok (.tmp acc) st2 := by
  unfold fLc; rw [h]; simp only; rw [h2]
theorem e_augI {i : Nat} {op : F2} {x y w : A} (h : ρ[i]? = some (some x)) (h1 : f ρ st = .ok y st1) (h2 : op x y st1 = .ok w st2) : sAug i op f ρ st = .nx (ρ.set i (some w)) st2 := by
  unfold sAug; rw [h]; simp only; rw [h1]; simp only; rw [h2]
theorem e_sub {o i : A} {fo fi : FE} (h1 : fo ρ st = .ok o st1) (h2 : fi ρ st1 = .ok i st2) (h3 : setA o i a st2 = some st3) : gSubF fo fi a ρ st = .ok ρ st3 := by
  unfold gSubF; rw [h1]; simp only; rw [h2]; simp only; rw [h3]
theorem e_mul {i j : Int} (h : CMulW i j) : opMul (.int i) (.int j) st = .ok (.int (i * j)) st := if_pos h
theorem e_div {i j : Int} (h : CDivW i j) : opDiv (.int i) (.int j) st = .ok (.int (i / j)) st := if_pos h
theorem e_mod {i j : Int} (h : 0 < j) : opMod (.int i) (.int j) st = .ok (.int (i % j)) st := if_pos h
theorem e_pow {i j : Int} (h : CPow i j) : opPow (.int i) (.int j) st = .ok (.int (i ^ j.toNat)) st := if_pos h
end
end Ev
/-! standings and wishes: plain Lean -/
namespace Wi
/-- one more of each -/
def tally (c : List Nat) (gs : List Nat) : List Nat := gs.foldl (fun c g => c.set g (c.getD g 0 + 1)) c
theorem tally_len (gs : List Nat) : ∀ c : List Nat, (tally c gs).length = c.length := by
  induction gs with
  | nil => intro c; rfl
  | cons g r ih =>
    intro c
    show (tally (c.set g (c.getD g 0 + 1)) r).length = _
    rw [ih, List.length_set]
theorem getD_set (c : List Nat) (g h v : Nat) (hg : g < c.length) : (c.set g v).getD h 0 = if h = g then v else c.getD h 0 := by
  rw [List.getD_eq_getElem?_getD, List.getD_eq_getElem?_getD]
  by_cases e : h = g
  · subst e
    rw [if_pos rfl, List.getElem?_set_self hg]
    rfl
  · rw [if_neg e, List.getElem?_set_ne (fun z => e z.symm)]
theorem tally_at (gs : List Nat) : ∀ (c : List Nat) (h : Nat), (∀ g ∈ gs, g < c.length) → (tally c gs).getD h 0 = c.getD h 0 + gs.count h := by
  induction gs with
  | nil => intro c h _; simp [tally]
  | cons g r ih =>
    intro c h hg
    show (tally (c.set g (c.getD g 0 + 1)) r).getD h 0 = _
    rw [ih _ h (fun x hx => by rw [List.length_set]; exact hg x (List.mem_cons_of_mem _ hx)), getD_set _ _ _ _ (hg g (by simp)), List.count_cons]
    by_cases e : h = g
    · subst e
      simp
      omega
    · rw [if_neg e]
      have : (g == h) = false := beq_false_of_ne (fun z => e z.symm)
      rw [this]
      simp
theorem tally_zero {many : Nat} {gs : List Nat} (h : ∀ g ∈ gs, g < many) : tally (List.replicate many 0) gs = (List.range many).map fun a => gs.count a := by
  refine List.ext_getElem? fun i => ?_
  by_cases hi : i < many
  · have h1 := tally_at gs (List.replicate many 0) i (fun g hg => by rw [List.length_replicate]; exact h g hg)
    have hl : i < (tally (List.replicate many 0) gs).length := by rw [tally_len, List.length_replicate]; exact hi
    rw [List.getD_eq_getElem?_getD, List.getElem?_eq_getElem hl] at h1
    rw [List.getElem?_eq_getElem hl, List.getElem?_map, List.getElem?_range hi]
    have h2 : (List.replicate many 0).getD i 0 = 0 := by
      rw [List.getD_eq_getElem?_getD]
      simp [hi]
    rw [h2] at h1
    simpa using h1
  · rw [List.getElem?_eq_none (by rw [tally_len, List.length_replicate]; omega), List.getElem?_eq_none (by rw [List.length_map, List.length_range]; omega)]
/-- is_wish's walk, of numbers -/
def wishN (b : Nat) : List Nat → List Nat → Bool
  | _, [] => true
  | c, g :: r => decide (g < c.length) && (c.getD g 0 != b) && wishN b (c.set g (c.getD g 0 + 1)) r
theorem wishN_yes {b : Nat} : ∀ (gs c : List Nat), (∀ g ∈ gs, g < c.length) → (∀ h, c.getD h 0 + gs.count h ≤ b) → wishN b c gs = true
  | [], c, _, _ => rfl
  | g :: r, c, h1, h2 => by
    have hg := h1 g (by simp)
    have h3 := h2 g
    rw [List.count_cons_self] at h3
    show (decide (g < c.length) && (c.getD g 0 != b) && wishN b (c.set g (c.getD g 0 + 1)) r) = true
    rw [decide_eq_true hg, Bool.true_and, show (c.getD g 0 != b) = true from by simp only [bne_iff_ne]; omega, Bool.true_and]
    refine wishN_yes r _ (fun x hx => by rw [List.length_set]; exact h1 x (List.mem_cons_of_mem _ hx)) fun h => ?_
    have h4 := h2 h
    rw [List.count_cons] at h4
    rw [getD_set _ _ _ _ hg]
    by_cases e : h = g
    · subst e
      rw [if_pos rfl]
      simp at h4
      omega
    · rw [if_neg e]
      have : (g == h) = false := beq_false_of_ne (fun z => e z.symm)
      rw [this] at h4
      simpa using h4
theorem wishN_zero {b : Nat} : ∀ (n : Nat) (c : List Nat), 0 < c.length → c.getD 0 0 ≤ b → b < c.getD 0 0 + n → wishN b c (List.replicate n 0) = false
  | 0, c, _, _, h => by omega
  | n + 1, c, hl, h1, h2 => by
    show (decide (0 < c.length) && (c.getD 0 0 != b) && wishN b (c.set 0 (c.getD 0 0 + 1)) (List.replicate n 0)) = false
    by_cases e : c.getD 0 0 = b
    · rw [e]
      simp
    · rw [wishN_zero n _ (by rw [List.length_set]; exact hl) (by rw [getD_set _ _ _ _ hl, if_pos rfl]; omega) (by rw [getD_set _ _ _ _ hl, if_pos rfl]; omega), Bool.and_false]
/-! ### where the records lie -/
def setRow (a : Nat) (xs : List Nat) (f : List Nat) : List Nat := xs.foldl (fun f r => f.set r a) f
def placesGo : Nat → List (List Nat) → List Nat → List Nat
  | _, [], f => f
  | a, xs :: r, f => placesGo (a + 1) r (setRow a xs f)
def cntR (rows : List (List Nat)) : Nat := (rows.map List.length).sum
def places (rows : List (List Nat)) : List Nat := placesGo 0 rows (List.replicate (cntR rows) 0)
theorem setRow_len (a : Nat) (xs : List Nat) : ∀ f, (setRow a xs f).length = f.length := by
  induction xs with
  | nil => intro f; rfl
  | cons x r ih =>
    intro f
    show (setRow a r (f.set x a)).length = _
    rw [ih, List.length_set]
theorem placesGo_len (rows : List (List Nat)) : ∀ a f, (placesGo a rows f).length = f.length := by
  induction rows with
  | nil => intro a f; rfl
  | cons xs r ih =>
    intro a f
    show (placesGo (a + 1) r (setRow a xs f)).length = _
    rw [ih, setRow_len]
theorem setRow_out {a : Nat} {xs : List Nat} {r : Nat} : ∀ {f : List Nat}, r ∉ xs → (setRow a xs f)[r]? = f[r]? := by
  induction xs with
  | nil => intro f _; rfl
  | cons x l ih =>
    intro f h
    show (setRow a l (f.set x a))[r]? = _
    rw [ih (fun z => h (List.mem_cons_of_mem _ z)), List.getElem?_set_ne (fun e => h (by rw [e]; simp))]
theorem setRow_in {a : Nat} {xs : List Nat} {r : Nat} : ∀ {f : List Nat}, r ∈ xs → r < f.length → (setRow a xs f)[r]? = some a := by
  induction xs with
  | nil => intro f h; cases h
  | cons x l ih =>
    intro f h hf
    show (setRow a l (f.set x a))[r]? = _
    by_cases hl : r ∈ l
    · exact ih hl (by rw [List.length_set]; exact hf)
    · rw [setRow_out hl]
      rcases List.mem_cons.mp h with e | e
      · rw [e, List.getElem?_set_self (by rw [← e]; exact hf)]
      · exact absurd e hl
theorem placesGo_out {r : Nat} (rows : List (List Nat)) : ∀ {a : Nat} {f : List Nat}, (∀ xs ∈ rows, r ∉ xs) → (placesGo a rows f)[r]? = f[r]? := by
  induction rows with
  | nil => intro a f _; rfl
  | cons xs l ih =>
    intro a f h
    show (placesGo (a + 1) l (setRow a xs f))[r]? = _
    rw [ih (fun y hy => h y (List.mem_cons_of_mem _ hy)), setRow_out (h xs (by simp))]
theorem placesGo_in {r : Nat} : ∀ (rows : List (List Nat)) {a i : Nat} {f xs : List Nat}, rows.flatten.Nodup → rows[i]? = some xs → r ∈ xs → r < f.length → (placesGo a rows f)[r]? = some (a + i)
  | [], a, i, f, xs, _, h, _, _ => by simp at h
  | ys :: l, a, 0, f, xs, hn, h, hr, hf => by
    obtain rfl : ys = xs := by simpa using h
    show (placesGo (a + 1) l (setRow a ys f))[r]? = _
    rw [List.flatten_cons, List.nodup_append] at hn
    rw [placesGo_out l (fun zs hz hrz => hn.2.2 r hr r (List.mem_flatten.mpr ⟨zs, hz, hrz⟩) rfl), setRow_in hr hf]
    rfl
  | ys :: l, a, i + 1, f, xs, hn, h, hr, hf => by
    rw [List.flatten_cons, List.nodup_append] at hn
    have := placesGo_in l (a := a + 1) (i := i) (f := setRow a ys f) hn.2.1 (by simpa using h) hr (by rw [setRow_len]; exact hf)
    show (placesGo (a + 1) l (setRow a ys f))[r]? = _
    rw [this]
    congr 1
    omega
/-- a standing's blocks: each record once, no block too full -/
structure Std (b : Nat) (rows : List (List Nat)) : Prop where
  perm : rows.flatten.Perm (List.range (cntR rows))
  le : ∀ xs ∈ rows, xs.length ≤ b
theorem Std.nd {b : Nat} {rows : List (List Nat)} (S : Std b rows) : rows.flatten.Nodup := S.perm.nodup_iff.mpr List.nodup_range
theorem Std.lt {b : Nat} {rows : List (List Nat)} (S : Std b rows) {xs : List Nat} {r : Nat} (h : xs ∈ rows) (hr : r ∈ xs) : r < cntR rows := List.mem_range.mp (S.perm.mem_iff.mp (List.mem_flatten.mpr ⟨xs, h, hr⟩))
theorem Std.row {b : Nat} {rows : List (List Nat)} (S : Std b rows) {r : Nat} (h : r < cntR rows) : ∃ (i : Nat) (xs : List Nat), rows[i]? = some xs ∧ r ∈ xs := by
  obtain ⟨xs, h1, h2⟩ := List.mem_flatten.mp (S.perm.mem_iff.mpr (List.mem_range.mpr h))
  obtain ⟨i, hi⟩ := List.mem_iff_getElem?.mp h1
  exact ⟨i, xs, hi, h2⟩
theorem places_len (rows : List (List Nat)) : (places rows).length = cntR rows := by
  unfold places
  rw [placesGo_len, List.length_replicate]
theorem places_at {b : Nat} {rows : List (List Nat)} (S : Std b rows) {i r : Nat} {xs : List Nat} (h : rows[i]? = some xs) (hr : r ∈ xs) : (places rows)[r]? = some i := by
  have := placesGo_in rows (a := 0) (i := i) (f := List.replicate (cntR rows) 0) S.nd h hr (by rw [List.length_replicate]; exact S.lt (List.mem_of_getElem? h) hr)
  rw [Nat.zero_add] at this
  exact this
theorem places_lt {b : Nat} {rows : List (List Nat)} (S : Std b rows) : ∀ g ∈ places rows, g < rows.length := fun g hg => by
  obtain ⟨r, hr⟩ := List.mem_iff_getElem?.mp hg
  have hl := (List.getElem?_eq_some_iff.mp hr).1
  rw [places_len] at hl
  obtain ⟨i, xs, h1, h2⟩ := S.row hl
  rw [places_at S h1 h2] at hr
  rw [← Option.some.inj hr]
  exact (List.getElem?_eq_some_iff.mp h1).1
/-- a wish is met just when it is where the records lie -/
def metN (rows : List (List Nat)) (w : List Nat) : Prop := ∀ (i : Nat) (xs : List Nat) (r : Nat), rows[i]? = some xs → r ∈ xs → w[r]? = some i
theorem met_iff {b : Nat} {rows : List (List Nat)} (S : Std b rows) {w : List Nat} (hw : w.length = cntR rows) : metN rows w ↔ w = places rows := by
  constructor
  · intro h
    refine List.ext_getElem? fun r => ?_
    by_cases hr : r < cntR rows
    · obtain ⟨i, xs, h1, h2⟩ := S.row hr
      rw [h i xs r h1 h2, places_at S h1 h2]
    · rw [List.getElem?_eq_none (by omega), List.getElem?_eq_none (by rw [places_len]; omega)]
  · rintro rfl i xs r h1 h2
    exact places_at S h1 h2
theorem count_rows {W : Nat → Nat} {b i : Nat} : ∀ (l : List (List Nat)) (k : Nat), (∀ xs ∈ l, xs.length ≤ b) → (∀ (j : Nat) (xs : List Nat) (r : Nat), l[j]? = some xs → r ∈ xs → W r = k + j) → (l.flatten.map W).count i ≤ b
  | [], k, _, _ => by simp
  | xs :: l, k, hb, hw => by
    rw [List.flatten_cons, List.map_append, List.count_append]
    have ih := count_rows (W := W) (b := b) (i := i) l (k + 1) (fun y hy => hb y (List.mem_cons_of_mem _ hy)) fun j ys r h hr => by
      have := hw (j + 1) ys r (by simpa using h) hr
      omega
    by_cases e : k = i
    · have h0 : (l.flatten.map W).count i = 0 := by
        refine List.count_eq_zero.mpr fun hm => ?_
        obtain ⟨r, hr, hr2⟩ := List.mem_map.mp hm
        obtain ⟨ys, hy, hry⟩ := List.mem_flatten.mp hr
        obtain ⟨j, hj⟩ := List.mem_iff_getElem?.mp hy
        have := hw (j + 1) ys r (by simpa using hj) hry
        omega
      have h1 : (xs.map W).count i ≤ (xs.map W).length := List.count_le_length
      rw [List.length_map] at h1
      have := hb xs (by simp)
      omega
    · have h0 : (xs.map W).count i = 0 := by
        refine List.count_eq_zero.mpr fun hm => ?_
        obtain ⟨r, hr, hr2⟩ := List.mem_map.mp hm
        have := hw 0 xs r rfl hr
        omega
      omega
theorem map_getD (w : List Nat) : w = (List.range w.length).map fun r => w.getD r 0 := by
  refine List.ext_getElem? fun i => ?_
  by_cases hi : i < w.length
  · rw [List.getElem?_map, List.getElem?_range hi, List.getElem?_eq_getElem hi]
    show _ = some (w.getD i 0)
    rw [List.getD_eq_getElem?_getD, List.getElem?_eq_getElem hi]
    rfl
  · rw [List.getElem?_eq_none (by omega), List.getElem?_eq_none (by rw [List.length_map, List.length_range]; omega)]
/-- how many records wish a block: as many as lie there, at most b -/
theorem places_count {b : Nat} {rows : List (List Nat)} (S : Std b rows) (i : Nat) : (places rows).count i ≤ b := by
  rw [map_getD (places rows), places_len]
  rw [← (S.perm.map fun r => (places rows).getD r 0).count_eq]
  refine count_rows rows 0 S.le fun j xs r h hr => ?_
  rw [List.getD_eq_getElem?_getD, places_at S h hr]
  show j = 0 + j
  omega
theorem places_wish {b many : Nat} {rows : List (List Nat)} (S : Std b rows) (hm : rows.length = many) : wishN b (List.replicate many 0) (places rows) = true := by
  refine wishN_yes _ _ (fun g hg => by rw [List.length_replicate, ← hm]; exact places_lt S g hg) fun h => ?_
  have h2 : (List.replicate many 0).getD h 0 = 0 := by
    rw [List.getD_eq_getElem?_getD]
    by_cases e : h < many
    · simp [e]
    · simp [e]
  rw [h2, Nat.zero_add]
  exact places_count S h
theorem cntR_flat (rows : List (List Nat)) : cntR rows = rows.flatten.length := by
  unfold cntR
  rw [List.length_flatten]
end Wi
/-! more reckoning: lists at the end of the store, rows -/
namespace Ev
open PySem PySem.Spec PyProof.Rows L2 Gd
open Classical
open Wi
def wt (ws : List Nat) (r : Nat) : Nat := ws.getD r 0
theorem ix_nL {xs : List Nat} {i : Nat} (h : i < xs.length) : atI (nL xs) ((i : Nat) : Int) = some (.int ((wt xs i : Nat) : Int)) := by
  refine atI_nat ?_
  rw [nL, List.getElem?_map, List.getElem?_eq_getElem h]
  show some (A.int ((xs[i] : Nat) : Int)) = _
  rw [wt, List.getD_eq_getElem?_getD, List.getElem?_eq_getElem h]
  rfl
theorem ixT {xs : List Nat} {i : Nat} {st : Sto} (h : i < xs.length) : opIx (tN xs) (.int (i : Int)) st = .ok (.int ((wt xs i : Nat) : Int)) st := by
  show (match atI (nL xs) ((i : Nat) : Int) with | some x => R.ok x st | none => .no) = _
  rw [ix_nL h]
theorem len_nL (xs : List Nat) : (nL xs).length = xs.length := List.length_map ..
theorem set_nL (xs : List Nat) (i v : Nat) : (nL xs).set i (.int (v : Int)) = nL (xs.set i v) := by
  rw [nL, nL, List.map_set]
theorem sumI (xs : List Nat) : (xs.map fun n : Nat => (n : Int)).sum = ((xs.sum : Nat) : Int) := by
  induction xs with
  | nil => rfl
  | cons x xs ih =>
    rw [List.map_cons, List.sum_cons, List.sum_cons, ih]
    omega
/-- a new list of zeros -/
theorem zeros {n : Nat} {st : Sto} (h : n ≤ 1000000) : opMul (.tmp [.int 0]) (.int (n : Int)) st = .ok (.tmp (nL (List.replicate n 0))) st := by
  unfold opMul
  simp only [lstM]
  rw [if_pos ⟨by omega, by omega, by show 1 * ((n : Nat) : Int).toNat ≤ sizeLine; have := size_big h; omega⟩]
  rw [List.flatten_replicate_singleton, nL, List.map_replicate]
  rfl
theorem end_get (st : Sto) (o : O) : (st ++ [o])[st.length]? = some o := by simp
theorem end_set (st : Sto) (o o' : O) : (st ++ [o]).set st.length o' = st ++ [o'] := by simp
theorem end_lst (st : Sto) (xs : List A) : lstOf (.loc st.length) (st ++ [.lst xs]) = some xs := by
  simp only [lstOf, end_get]
theorem end_seq (st : Sto) (xs : List A) : seqOf (.loc st.length) (st ++ [.lst xs]) = some xs := end_lst st xs
theorem fin0 {st : Sto} {a : A} (h : a.dry = true) : Ev.finish st a st = .ok a st := by
  have := finish_pure (st := st) (suf := []) (a := a) h
  rw [List.append_nil] at this
  exact this
theorem bTup_end (st : Sto) (xs : List A) : bTup [.loc st.length] (st ++ [.lst xs]) = .ok (.tup xs) (st ++ [.lst xs]) := by
  unfold bTup
  simp only [end_lst]
theorem ixN_nat {n i : Nat} (h : i < n) : ixN n (i : Int) = some i := by
  unfold ixN
  rw [if_pos (by omega), if_pos (by omega)]
  rfl
theorem len_tN (xs : List Nat) (st : Sto) : bLen [tN xs] st = .ok (.int (xs.length : Nat)) st := by
  show R.ok (A.int ((nL xs).length : Nat)) st = _
  rw [len_nL]
theorem len_tR (xs : List (List Nat)) (st : Sto) : bLen [tR xs] st = .ok (.int (xs.length : Nat)) st := by
  show R.ok (A.int ((xs.map tN).length : Nat)) st = _
  rw [List.length_map]
theorem ix_tR {rows : List (List Nat)} {i : Nat} {xs : List Nat} {st : Sto} (h : rows[i]? = some xs) : opIx (tR rows) (.int (i : Int)) st = .ok (tN xs) st := by
  have e : atI (rows.map tN) ((i : Nat) : Int) = some (tN xs) := atI_nat (by rw [List.getElem?_map, h]; rfl)
  show (match atI (rows.map tN) ((i : Nat) : Int) with | some x => R.ok x st | none => .no) = _
  rw [e]
theorem rg_nat (n : Nat) : rgA 0 (n : Int) = nL (List.range n) := by
  unfold rgA
  rw [Int.sub_zero, Int.toNat_natCast, nL]
  exact List.map_congr_left fun i _ => by rw [Int.zero_add]
theorem fRg1_nat {f : FE} {ρ : Rho} {st st1 : Sto} {n : Nat} (h : f ρ st = .ok (.int (n : Int)) st1) (hn : n ≤ 1000000) : fRg1 f ρ st = .ok (nL (List.range n), fun _ => True) st1 := by
  unfold fRg1
  rw [h]
  simp only
  rw [if_pos (show ends _ from ⟨by omega, by omega⟩), rg_nat]
theorem eqI (a b : Nat) : decide ((a : Int) = (b : Int)) = decide (a = b) := by
  by_cases h : a = b
  · rw [decide_eq_true h, decide_eq_true (by omega)]
  · rw [decide_eq_false h, decide_eq_false (by omega)]
theorem loop_nil {body : FS} {g : FG} {G : Sto → Prop} {ρ : Rho} {st : Sto} (hG : G st) : loopF body g G [] ρ st = .nx ρ st := if_pos hG
theorem loop_cons {body : FS} {g : FG} {G : Sto → Prop} {x : A} {xs : List A} {ρ ρ1 ρ2 : Rho} {st st1 st2 : Sto} {z : SR} (hG : G st) (h : g x ρ st = .ok ρ1 st1) (h2 : body ρ1 st1 = .nx ρ2 st2 ∨ body ρ1 st1 = .ct ρ2 st2) (h3 : loopF body g G xs ρ2 st2 = z) : loopF body g G (x :: xs) ρ st = z := by
  show (if G st then (match g x ρ st with | .ok ρ1 st1 => _ | .no => _) else _) = _
  rw [if_pos hG, h]
  rcases h2 with h2 | h2
  · simp only [h2]
    exact h3
  · simp only [h2]
    exact h3
theorem loop_consR {body : FS} {g : FG} {G : Sto → Prop} {x a : A} {xs : List A} {ρ ρ1 : Rho} {st st1 st2 : Sto} (hG : G st) (h : g x ρ st = .ok ρ1 st1) (h2 : body ρ1 st1 = .rt a st2) : loopF body g G (x :: xs) ρ st = .rt a st2 := by
  show (if G st then (match g x ρ st with | .ok ρ1 st1 => _ | .no => _) else _) = _
  rw [if_pos hG, h]
  simp only [h2]
end Ev
/-! lists and dicts as values: who owns what -/
namespace Vs
open PySem PySem.Spec PyProof.Rows L2 Gd Ev
def dryD : List (Key × A) → Bool
  | [] => true
  | (_, a) :: r => a.dry && dryD r
mutual
/-- the pure value p is what a stands for; its own places -/
def Vr (st : Sto) : A → A → List Nat → Prop
  | .tup ps, a, fp => ∃ as, a = .tup as ∧ VrL st ps as fp
  | .pr p q, a, fp => ∃ x y f1 f2, a = .pr x y ∧ fp = f1 ++ f2 ∧ Vr st p x f1 ∧ Vr st q y f2
  | .tmp ps, a, fp => ∃ l as fq, a = .loc l ∧ st[l]? = some (.lst as) ∧ fp = l :: fq ∧ VrL st ps as fq
  | .dtm kvs, a, fp => ∃ l, a = .loc l ∧ st[l]? = some (.dic kvs) ∧ fp = [l] ∧ dryD kvs = true
  | .frz ps, a, fp => a = .frz ps ∧ dryL ps = true ∧ fp = []
  | .loc _, _, _ => False
  | .non, a, fp => a = .non ∧ fp = []
  | .bl b, a, fp => a = .bl b ∧ fp = []
  | .int i, a, fp => a = .int i ∧ fp = []
  | .str x, a, fp => a = .str x ∧ fp = []
def VrL (st : Sto) : List A → List A → List Nat → Prop
  | [], as, fp => as = [] ∧ fp = []
  | p :: ps, as, fp => ∃ a r f1 f2, as = a :: r ∧ fp = f1 ++ f2 ∧ Vr st p a f1 ∧ VrL st ps r f2
end
section
variable {st st' : Sto}
mutual
theorem Vr.dry : ∀ {p a : A} {fp : List Nat}, p.dry = true → Vr st p a fp → a = p ∧ fp = []
  | .non, a, fp, _, h => h
  | .bl _, a, fp, _, h => h
  | .int _, a, fp, _, h => h
  | .str _, a, fp, _, h => h
  | .tup ps, a, fp, hd, ⟨as, e, h⟩ => by
    obtain ⟨e1, e2⟩ := VrL.dry (show dryL ps = true from hd) h
    exact ⟨by rw [e, e1], e2⟩
  | .pr p q, a, fp, hd, ⟨x, y, f1, f2, e, e1, h1, h2⟩ => by
    have hd' : (p.dry && q.dry) = true := hd
    rw [Bool.and_eq_true] at hd'
    obtain ⟨e2, e3⟩ := Vr.dry hd'.1 h1
    obtain ⟨e4, e5⟩ := Vr.dry hd'.2 h2
    exact ⟨by rw [e, e2, e4], by rw [e1, e3, e5]; rfl⟩
  | .tmp _, _, _, hd, _ => by cases hd
  | .frz _, _, _, hd, _ => by cases hd
  | .dtm _, _, _, hd, _ => by cases hd
  | .loc _, _, _, hd, _ => by cases hd
theorem VrL.dry : ∀ {ps as : List A} {fp : List Nat}, dryL ps = true → VrL st ps as fp → as = ps ∧ fp = []
  | [], as, fp, _, h => h
  | p :: ps, as, fp, hd, ⟨a, r, f1, f2, e, e1, h1, h2⟩ => by
    have hd' : (p.dry && dryL ps) = true := hd
    rw [Bool.and_eq_true] at hd'
    obtain ⟨e2, e3⟩ := Vr.dry hd'.1 h1
    obtain ⟨e4, e5⟩ := VrL.dry hd'.2 h2
    exact ⟨by rw [e, e2, e4], by rw [e1, e3, e5]; rfl⟩
end
mutual
theorem Vr.of_dry : ∀ {p : A}, p.dry = true → Vr st p p []
  | .non, _ => ⟨rfl, rfl⟩
  | .bl _, _ => ⟨rfl, rfl⟩
  | .int _, _ => ⟨rfl, rfl⟩
  | .str _, _ => ⟨rfl, rfl⟩
  | .tup ps, hd => ⟨ps, rfl, VrL.of_dry (show dryL ps = true from hd)⟩
  | .pr p q, hd => by
    have hd' : (p.dry && q.dry) = true := hd
    rw [Bool.and_eq_true] at hd'
    exact ⟨p, q, [], [], rfl, rfl, Vr.of_dry hd'.1, Vr.of_dry hd'.2⟩
  | .tmp _, hd => by cases hd
  | .frz _, hd => by cases hd
  | .dtm _, hd => by cases hd
  | .loc _, hd => by cases hd
theorem VrL.of_dry : ∀ {ps : List A}, dryL ps = true → VrL st ps ps []
  | [], _ => ⟨rfl, rfl⟩
  | p :: ps, hd => by
    have hd' : (p.dry && dryL ps) = true := hd
    rw [Bool.and_eq_true] at hd'
    exact ⟨p, ps, [], [], rfl, rfl, Vr.of_dry hd'.1, VrL.of_dry hd'.2⟩
end
mutual
theorem Vr.mono : ∀ {p a : A} {fp : List Nat}, (∀ l ∈ fp, st'[l]? = st[l]?) → Vr st p a fp → Vr st' p a fp
  | .non, a, fp, _, h => h
  | .bl _, a, fp, _, h => h
  | .int _, a, fp, _, h => h
  | .str _, a, fp, _, h => h
  | .frz _, a, fp, _, h => h
  | .tup ps, a, fp, hs, ⟨as, e, h⟩ => ⟨as, e, VrL.mono hs h⟩
  | .pr p q, a, fp, hs, ⟨x, y, f1, f2, e, e1, h1, h2⟩ => ⟨x, y, f1, f2, e, e1, Vr.mono (fun l hl => hs l (by rw [e1]; exact List.mem_append_left _ hl)) h1, Vr.mono (fun l hl => hs l (by rw [e1]; exact List.mem_append_right _ hl)) h2⟩
  | .tmp _, a, fp, hs, ⟨l, as, fq, e, e1, e2, h⟩ => ⟨l, as, fq, e, by rw [hs l (by rw [e2]; exact List.mem_cons_self)]; exact e1, e2, VrL.mono (fun l hl => hs l (by rw [e2]; exact List.mem_cons_of_mem _ hl)) h⟩
  | .dtm _, a, fp, hs, ⟨l, e, e1, e2, h⟩ => ⟨l, e, by rw [hs l (by rw [e2]; exact List.mem_cons_self)]; exact e1, e2, h⟩
  | .loc _, _, _, _, h => h.elim
theorem VrL.mono : ∀ {ps as : List A} {fp : List Nat}, (∀ l ∈ fp, st'[l]? = st[l]?) → VrL st ps as fp → VrL st' ps as fp
  | [], as, fp, _, h => h
  | p :: ps, as, fp, hs, ⟨a, r, f1, f2, e, e1, h1, h2⟩ => ⟨a, r, f1, f2, e, e1, Vr.mono (fun l hl => hs l (by rw [e1]; exact List.mem_append_left _ hl)) h1, VrL.mono (fun l hl => hs l (by rw [e1]; exact List.mem_append_right _ hl)) h2⟩
end
mutual
theorem Vr.lt : ∀ {p a : A} {fp : List Nat}, Vr st p a fp → ∀ l ∈ fp, l < st.length
  | .non, a, fp, h, l, hl => by rw [h.2] at hl; cases hl
  | .bl _, a, fp, h, l, hl => by rw [h.2] at hl; cases hl
  | .int _, a, fp, h, l, hl => by rw [h.2] at hl; cases hl
  | .str _, a, fp, h, l, hl => by rw [h.2] at hl; cases hl
  | .frz _, a, fp, h, l, hl => by rw [h.2.2] at hl; cases hl
  | .tup ps, a, fp, ⟨as, e, h⟩, l, hl => VrL.lt h l hl
  | .pr p q, a, fp, ⟨x, y, f1, f2, e, e1, h1, h2⟩, l, hl => by
    rw [e1] at hl
    rcases List.mem_append.mp hl with h | h
    · exact Vr.lt h1 l h
    · exact Vr.lt h2 l h
  | .tmp _, a, fp, ⟨l', as, fq, e, e1, e2, h⟩, l, hl => by
    rw [e2] at hl
    rcases List.mem_cons.mp hl with rfl | h'
    · exact (List.getElem?_eq_some_iff.mp e1).1
    · exact VrL.lt h l h'
  | .dtm _, a, fp, ⟨l', e, e1, e2, h⟩, l, hl => by
    rw [e2] at hl
    rw [List.mem_singleton.mp hl]
    exact (List.getElem?_eq_some_iff.mp e1).1
  | .loc _, _, _, h, _, _ => h.elim
theorem VrL.lt : ∀ {ps as : List A} {fp : List Nat}, VrL st ps as fp → ∀ l ∈ fp, l < st.length
  | [], as, fp, h, l, hl => by rw [h.2] at hl; cases hl
  | p :: ps, as, fp, ⟨a, r, f1, f2, e, e1, h1, h2⟩, l, hl => by
    rw [e1] at hl
    rcases List.mem_append.mp hl with h | h
    · exact Vr.lt h1 l h
    · exact VrL.lt h2 l h
end
theorem Vr.nt {p a : A} {fp : List Nat} (h : Vr st p a fp) : a.nt := by
  cases p with
  | non => rw [h.1]; trivial
  | bl _ => rw [h.1]; trivial
  | int _ => rw [h.1]; trivial
  | str _ => rw [h.1]; trivial
  | frz _ => rw [h.1]; trivial
  | tup ps => obtain ⟨as, e, _⟩ := h; rw [e]; trivial
  | pr p q => obtain ⟨x, y, f1, f2, e, _⟩ := h; rw [e]; trivial
  | tmp ps => obtain ⟨l, as, fq, e, _⟩ := h; rw [e]; trivial
  | dtm ps => obtain ⟨l, e, _⟩ := h; rw [e]; trivial
  | loc l => exact h.elim
theorem VrL.len : ∀ {ps as : List A} {fp : List Nat}, VrL st ps as fp → as.length = ps.length
  | [], _, _, h => by rw [h.1]
  | p :: ps, as, fp, ⟨a, r, f1, f2, e, e1, h1, h2⟩ => by rw [e, List.length_cons, List.length_cons, h2.len]
/-- part of a footprint -/
def Sub (f g : List Nat) : Prop := (∀ l ∈ f, l ∈ g) ∧ (g.Nodup → f.Nodup)
theorem Sub.refl {f : List Nat} : Sub f f := ⟨fun _ h => h, fun h => h⟩
theorem Sub.nil {f : List Nat} : Sub [] f := ⟨fun _ h => (List.not_mem_nil h).elim, fun _ => List.nodup_nil⟩
theorem Sub.left {f g h : List Nat} (s : Sub f g) : Sub f (g ++ h) := ⟨fun l hl => List.mem_append_left _ (s.1 l hl), fun nd => s.2 (List.nodup_append.mp nd).1⟩
theorem Sub.right {f g h : List Nat} (s : Sub f g) : Sub f (h ++ g) := ⟨fun l hl => List.mem_append_right _ (s.1 l hl), fun nd => s.2 (List.nodup_append.mp nd).2.1⟩
theorem Sub.tail {f g : List Nat} {l : Nat} (s : Sub f g) : Sub f (l :: g) := ⟨fun k hl => List.mem_cons_of_mem _ (s.1 k hl), fun nd => s.2 (List.nodup_cons.mp nd).2⟩
theorem VrL.get : ∀ {ps as : List A} {fp : List Nat} {i : Nat} {p : A}, VrL st ps as fp → ps[i]? = some p → ∃ a fq, as[i]? = some a ∧ Vr st p a fq ∧ Sub fq fp
  | [], _, _, _, _, _, e => by simp at e
  | p :: ps, as, fp, 0, q, ⟨a, r, f1, f2, e, e1, h1, h2⟩, h => by
    have : p = q := by simpa using h
    subst this
    exact ⟨a, f1, by rw [e]; rfl, h1, by rw [e1]; exact Sub.refl.left⟩
  | p :: ps, as, fp, i + 1, q, ⟨a, r, f1, f2, e, e1, h1, h2⟩, h => by
    obtain ⟨b, fq, h3, h4, h5⟩ := h2.get (i := i) (p := q) (by simpa using h)
    exact ⟨b, fq, by rw [e]; simpa using h3, h4, by rw [e1]; exact h5.right⟩
theorem VrL.append : ∀ {ps qs as bs : List A} {fp fq : List Nat}, VrL st ps as fp → VrL st qs bs fq → VrL st (ps ++ qs) (as ++ bs) (fp ++ fq)
  | [], qs, as, bs, fp, fq, h, h' => by rw [h.1, h.2]; exact h'
  | p :: ps, qs, as, bs, fp, fq, ⟨a, r, f1, f2, e, e1, h1, h2⟩, h' => ⟨a, r ++ bs, f1, f2 ++ fq, by rw [e]; rfl, by rw [e1, List.append_assoc], h1, h2.append h'⟩
/-- the place of one -/
theorem VrL.split : ∀ {ps as : List A} {fp : List Nat} {i : Nat} {p : A}, VrL st ps as fp → ps[i]? = some p → ∃ a f1 fq f2, as[i]? = some a ∧ Vr st p a fq ∧ fp = f1 ++ (fq ++ f2) ∧
    ∀ {st' : Sto} {p' a' : A} {fq' : List Nat}, (∀ l, l ∈ f1 ∨ l ∈ f2 → st'[l]? = st[l]?) → Vr st' p' a' fq' → VrL st' (ps.set i p') (as.set i a') (f1 ++ (fq' ++ f2))
  | [], _, _, _, _, _, e => by simp at e
  | p :: ps, as, fp, 0, q, ⟨a, r, f1, f2, e, e1, h1, h2⟩, h => by
    have : p = q := by simpa using h
    subst this
    exact ⟨a, [], f1, f2, by rw [e]; rfl, h1, by rw [e1]; rfl, fun {st' p' a' fq'} hs h3 => ⟨a', r, fq', f2, by rw [e]; rfl, rfl, h3, h2.mono fun l hl => hs l (.inr hl)⟩⟩
  | p :: ps, as, fp, i + 1, q, ⟨a, r, f1, f2, e, e1, h1, h2⟩, h => by
    obtain ⟨b, g1, fq, g2, h3, h4, h5, h6⟩ := h2.split (i := i) (p := q) (by simpa using h)
    exact ⟨b, f1 ++ g1, fq, g2, by rw [e]; simpa using h3, h4, by rw [e1, h5, List.append_assoc], fun {st' p' a' fq'} hs h7 => ⟨a, r.set i a', f1, g1 ++ (fq' ++ g2), by rw [e]; rfl, by rw [List.append_assoc], h1.mono fun l hl => hs l (.inl (List.mem_append_left _ hl)), h6 (fun l hl => hs l (hl.imp (List.mem_append_right _) id)) h7⟩⟩
theorem VrL.snoc {ps as : List A} {fp : List Nat} {p a : A} {fq : List Nat} (h : VrL st ps as fp) (h2 : Vr st p a fq) : VrL st (ps ++ [p]) (as ++ [a]) (fp ++ fq) := h.append ⟨a, [], fq, [], rfl, (List.append_nil _).symm, h2, rfl, rfl⟩
/-- the value of an expression: it may be new -/
def VrE (st : Sto) (p a : A) (fp : List Nat) : Prop := Vr st p a fp ∨ (∃ ps as, p = .tmp ps ∧ a = .tmp as ∧ VrL st ps as fp) ∨ (∃ kvs, p = .dtm kvs ∧ a = .dtm kvs ∧ fp = [] ∧ dryD kvs = true)
theorem VrE.mono {p a : A} {fp : List Nat} (hs : ∀ l ∈ fp, st'[l]? = st[l]?) : VrE st p a fp → VrE st' p a fp
  | .inl h => .inl (h.mono hs)
  | .inr (.inl ⟨ps, as, e, e1, h⟩) => .inr (.inl ⟨ps, as, e, e1, h.mono hs⟩)
  | .inr (.inr h) => .inr (.inr h)
theorem VrE.lt {p a : A} {fp : List Nat} : VrE st p a fp → ∀ l ∈ fp, l < st.length
  | .inl h => h.lt
  | .inr (.inl ⟨ps, as, e, e1, h⟩) => h.lt
  | .inr (.inr ⟨_, _, _, e, _⟩) => fun l hl => by rw [e] at hl; cases hl
theorem VrE.dry {p a : A} {fp : List Nat} (hd : p.dry = true) : VrE st p a fp → a = p ∧ fp = []
  | .inl h => h.dry hd
  | .inr (.inl ⟨ps, as, e, e1, h⟩) => by rw [e] at hd; cases hd
  | .inr (.inr ⟨_, e, _⟩) => by rw [e] at hd; cases hd
theorem VrE.int {i : Int} {a : A} {fp : List Nat} (h : VrE st (.int i) a fp) : a = .int i := (h.dry rfl).1
theorem VrE.str {i : Str} {a : A} {fp : List Nat} (h : VrE st (.str i) a fp) : a = .str i := (h.dry rfl).1
theorem VrE.bl {i : Bool} {a : A} {fp : List Nat} (h : VrE st (.bl i) a fp) : a = .bl i := (h.dry rfl).1
theorem VrE.tup {ps : List A} {a : A} {fp : List Nat} (h : VrE st (.tup ps) a fp) : ∃ as, a = .tup as ∧ VrL st ps as fp := by
  rcases h with h | ⟨_, _, e, _⟩ | ⟨_, e, _⟩
  · exact h
  · cases e
  · cases e
/-- lists -/
theorem VrE.lstOf {p a : A} {fp : List Nat} {xs : List A} (h : VrE st p a fp) (e : lstOf p [] = some xs) : ∃ ys fq, lstOf a st = some ys ∧ VrL st xs ys fq ∧ Sub fq fp := by
  cases p with
  | tmp ps =>
    cases e
    rcases h with ⟨l, as, fq, e1, e2, e3, h⟩ | ⟨qs, as, e1, e2, h⟩ | ⟨_, e1, _⟩
    · subst e1
      exact ⟨as, fq, by simp only [Ev.lstOf, e2], h, by rw [e3]; exact Sub.refl.tail⟩
    · cases e1
      subst e2
      exact ⟨as, fp, rfl, h, Sub.refl⟩
    · cases e1
  | frz ps =>
    cases e
    rcases h with ⟨e1, e2, e3⟩ | ⟨qs, as, e1, e2, h⟩ | ⟨_, e1, _⟩
    · subst e1
      exact ⟨_, [], rfl, VrL.of_dry e2, Sub.nil⟩
    · cases e1
    · cases e1
  | loc l => cases e
  | non => cases e
  | bl _ => cases e
  | int _ => cases e
  | str _ => cases e
  | tup _ => cases e
  | pr _ _ => cases e
  | dtm _ => cases e
theorem VrE.lstM {p a : A} {fp : List Nat} {xs : List A} (h : VrE st p a fp) (e : lstM p [] = some xs) : ∃ ys fq, lstM a st = some ys ∧ VrL st xs ys fq ∧ Sub fq fp := by
  cases p with
  | tmp ps =>
    cases e
    rcases h with ⟨l, as, fq, e1, e2, e3, h⟩ | ⟨qs, as, e1, e2, h⟩ | ⟨_, e1, _⟩
    · subst e1
      exact ⟨as, fq, by simp only [Ev.lstM, e2], h, by rw [e3]; exact Sub.refl.tail⟩
    · cases e1
      subst e2
      exact ⟨as, fp, rfl, h, Sub.refl⟩
    · cases e1
  | frz ps => cases e
  | loc l => cases e
  | non => cases e
  | bl _ => cases e
  | int _ => cases e
  | str _ => cases e
  | tup _ => cases e
  | pr _ _ => cases e
  | dtm _ => cases e
theorem VrE.seqOf {p a : A} {fp : List Nat} {xs : List A} (h : VrE st p a fp) (e : seqOf p [] = some xs) : ∃ ys fq, seqOf a st = some ys ∧ VrL st xs ys fq ∧ Sub fq fp := by
  cases p with
  | tup ps =>
    cases e
    obtain ⟨as, e1, h1⟩ := h.tup
    subst e1
    exact ⟨as, fp, rfl, h1, Sub.refl⟩
  | tmp ps =>
    obtain ⟨ys, fq, h1, h2⟩ := h.lstOf (xs := xs) e
    refine ⟨ys, fq, ?_, h2⟩
    rcases h with ⟨l, as, fq, e1, e2, e3, h⟩ | ⟨qs, as, e1, e2, h⟩ | ⟨_, e1, _⟩
    · subst e1; exact h1
    · subst e2; exact h1
    · cases e1
  | frz ps =>
    obtain ⟨ys, fq, h1, h2⟩ := h.lstOf (xs := xs) e
    refine ⟨ys, fq, ?_, h2⟩
    rcases h with ⟨e1, e2, e3⟩ | ⟨qs, as, e1, e2, h⟩ | ⟨_, e1, _⟩
    · subst e1; exact h1
    · cases e1
    · cases e1
  | pr x y =>
    cases e
    rcases h with ⟨x', y', f1, f2, e1, e2, h1, h2⟩ | ⟨_, _, e, _⟩ | ⟨_, e, _⟩
    · subst e1
      exact ⟨[x', y'], f1 ++ (f2 ++ []), rfl, ⟨x', [y'], f1, f2 ++ [], rfl, rfl, h1, y', [], f2, [], rfl, rfl, h2, rfl, rfl⟩, by rw [e2, List.append_nil]; exact Sub.refl⟩
    · cases e
    · cases e
  | loc l => cases e
  | non => cases e
  | bl _ => cases e
  | int _ => cases e
  | str _ => cases e
  | dtm _ => cases e
theorem VrE.dicOf {p a : A} {fp : List Nat} {kvs : List (Key × A)} (h : VrE st p a fp) (e : dicOf p [] = some kvs) : dicOf a st = some kvs ∧ dryD kvs = true := by
  cases p with
  | dtm ps =>
    cases e
    rcases h with ⟨l, e1, e2, e3, h⟩ | ⟨qs, as, e1, e2, h⟩ | ⟨_, e1, e2, _, h⟩
    · subst e1
      exact ⟨by simp only [Ev.dicOf, e2], h⟩
    · cases e1
    · cases e1
      subst e2
      exact ⟨rfl, h⟩
  | tmp ps => cases e
  | frz ps => cases e
  | loc l => cases e
  | non => cases e
  | bl _ => cases e
  | int _ => cases e
  | str _ => cases e
  | tup _ => cases e
  | pr _ _ => cases e
theorem intsOf_eq : ∀ {xs : List A} {ns : List Int}, intsOf xs = some ns → xs = ns.map A.int
  | [], ns, h => by cases h; rfl
  | a :: xs, ns, h => by
    cases a with
    | int i =>
      have h' : (intsOf xs).map (i :: ·) = some ns := h
      obtain ⟨ms, h3, rfl⟩ := Option.map_eq_some_iff.mp h'
      rw [intsOf_eq h3]
      rfl
    | _ => cases h
theorem dry_of_ints {xs : List A} {ns : List Int} (h : intsOf xs = some ns) : dryL xs = true := by
  rw [intsOf_eq h]
  exact dryL_ints ns
end
end Vs
/-! slots by value; what an expression gives -/
namespace Vs
open PySem PySem.Spec PyProof.Rows L2 Gd Ev
/-- a slot: its own value; a value that belongs to others -/
inductive Ent where
  | own (p : A) | bor (S : List Nat) (p : A)
abbrev PEnv := List (Option Ent)
abbrev Fp := Nat → List Nat
structure ER (st : Sto) (ρ : Rho) (e : PEnv) (F : Fp) : Prop where
  len : ρ.length = e.length
  own : ∀ (i : Nat) (p : A), e[i]? = some (some (Ent.own p)) → ∃ a, ρ[i]? = some (some a) ∧ Vr st p a (F i)
  bor : ∀ (i : Nat) (S : List Nat) (p : A), e[i]? = some (some (Ent.bor S p)) → ∃ a fb, ρ[i]? = some (some a) ∧ Vr st p a fb ∧ ∀ l ∈ fb, ∃ j ∈ S, l ∈ F j
  nd : ∀ i, (F i).Nodup
  dj : ∀ i j l, i ≠ j → l ∈ F i → l ∉ F j
  lt : ∀ i l, l ∈ F i → l < st.length
  em : ∀ i, i < e.length → (∀ p : A, e[i]? ≠ some (some (Ent.own p))) → F i = []
/-- the slots T may have been touched -/
structure Stp (T : List Nat) (st : Sto) (F : Fp) (st' : Sto) (F' : Fp) : Prop where
  le : st.length ≤ st'.length
  fr : ∀ l, l < st.length → (∀ i ∈ T, l ∉ F i) → st'[l]? = st[l]?
  kp : ∀ i, i ∉ T → F' i = F i
  nw : ∀ i l, l ∈ F' i → l ∈ F i ∨ (∃ j ∈ T, l ∈ F j) ∨ st.length ≤ l
section
variable {T T1 T2 : List Nat} {st st' st1 st2 : Sto} {F F' F1 F2 : Fp}
theorem Stp.refl : Stp T st F st F := ⟨Nat.le_refl _, fun _ _ _ => rfl, fun _ _ => rfl, fun _ _ h => .inl h⟩
theorem Stp.trans (a : Stp T1 st F st1 F1) (b : Stp T2 st1 F1 st2 F2) : Stp (T1 ++ T2) st F st2 F2 where
  le := Nat.le_trans a.le b.le
  fr := fun l hl h => by
    have h1 : ∀ i ∈ T1, l ∉ F i := fun i hi => h i (List.mem_append_left _ hi)
    have h2 : ∀ i ∈ T2, l ∉ F1 i := fun i hi z => by
      rcases a.nw i l z with q | ⟨j, hj, q⟩ | q
      · exact h i (List.mem_append_right _ hi) q
      · exact h1 j hj q
      · omega
    rw [b.fr l (Nat.lt_of_lt_of_le hl a.le) h2, a.fr l hl h1]
  kp := fun i hi => by rw [b.kp i fun z => hi (List.mem_append_right _ z), a.kp i fun z => hi (List.mem_append_left _ z)]
  nw := fun i l h => by
    have up : ∀ k, l ∈ F1 k → k = i ∨ k ∈ T2 → l ∈ F i ∨ (∃ j ∈ T1 ++ T2, l ∈ F j) ∨ st.length ≤ l := fun k hk hk2 => by
      rcases a.nw k l hk with q | ⟨j, hj, q⟩ | q
      · rcases hk2 with rfl | hk2
        · exact .inl q
        · exact .inr (.inl ⟨k, List.mem_append_right _ hk2, q⟩)
      · exact .inr (.inl ⟨j, List.mem_append_left _ hj, q⟩)
      · exact .inr (.inr q)
    rcases b.nw i l h with q | ⟨j, hj, q⟩ | q
    · exact up i q (.inl rfl)
    · exact up j q (.inr hj)
    · exact .inr (.inr (Nat.le_trans a.le q))
theorem Stp.mono (h : Stp T1 st F st' F') (s : ∀ i ∈ T1, i ∈ T2) : Stp T2 st F st' F' where
  le := h.le
  fr := fun l hl q => h.fr l hl fun i hi => q i (s i hi)
  kp := fun i hi => h.kp i fun z => hi (s i z)
  nw := fun i l z => (h.nw i l z).imp id (Or.imp (fun ⟨j, hj, q⟩ => ⟨j, s j hj, q⟩) id)
/-- where the places of a value are -/
structure Fro (S T : List Nat) (st : Sto) (F F' : Fp) (fa : List Nat) : Prop where
  at_ : ∀ l ∈ fa, (∃ j ∈ S, l ∈ F' j) ∨ ((∀ i, l ∉ F' i) ∧ ((∃ j ∈ T, l ∈ F j) ∨ st.length ≤ l))
  nd : S = [] → fa.Nodup
theorem Fro.nil {S : List Nat} : Fro S T st F F' [] := ⟨fun _ h => (List.not_mem_nil h).elim, fun _ => List.nodup_nil⟩
theorem Fro.own {fa : List Nat} (h : Fro [] T st F F' fa) {l : Nat} (hl : l ∈ fa) : (∀ i, l ∉ F' i) ∧ ((∃ j ∈ T, l ∈ F j) ∨ st.length ≤ l) := by
  rcases h.at_ l hl with ⟨j, hj, _⟩ | h
  · exact (List.not_mem_nil hj).elim
  · exact h
theorem Fro.sub {S : List Nat} {fa fb : List Nat} (h : Fro S T st F F' fb) (s : Sub fa fb) : Fro S T st F F' fa := ⟨fun l hl => h.at_ l (s.1 l hl), fun e => s.2 (h.nd e)⟩
theorem Fro.weak {S S' : List Nat} {fa : List Nat} (h : Fro S T1 st F F' fa) (s : ∀ i ∈ S, i ∈ S') (e : S' = [] → S = []) (t : ∀ i ∈ T1, i ∈ T2) : Fro S' T2 st F F' fa :=
  ⟨fun l hl => (h.at_ l hl).imp (fun ⟨j, hj, q⟩ => ⟨j, s j hj, q⟩) fun ⟨a, b⟩ => ⟨a, b.imp (fun ⟨j, hj, q⟩ => ⟨j, t j hj, q⟩) id⟩, fun z => h.nd (e z)⟩
abbrev dsj (S T : List Nat) : Bool := S.all fun i => !T.contains i
theorem dsj_not {S T : List Nat} (h : dsj S T = true) {i : Nat} (hi : i ∈ S) : i ∉ T := fun z => by
  have := List.all_eq_true.mp h i hi
  rw [Bool.not_eq_true', ← Bool.not_eq_true] at this
  exact this (List.contains_iff_mem.mpr z)
/-- a value stays while others are touched -/
theorem Fro.later {S : List Nat} {fa : List Nat} {ρ : Rho} {e : PEnv} (h : Fro S T1 st F F1 fa) (hlt : ∀ l ∈ fa, l < st1.length) (E : ER st1 ρ e F1) (b : Stp T2 st1 F1 st2 F2) (hd : dsj S T2 = true) :
    (∀ l ∈ fa, st2[l]? = st1[l]?) ∧ Fro S (T1 ++ T2) st F F2 fa := by
  refine ⟨fun l hl => b.fr l (hlt l hl) fun i hi z => ?_, ⟨fun l hl => ?_, h.nd⟩⟩
  · rcases h.at_ l hl with ⟨j, hj, q⟩ | ⟨q, _⟩
    · have : j ≠ i := fun y => dsj_not hd hj (y ▸ hi)
      exact E.dj j i l this q z
    · exact q i z
  · rcases h.at_ l hl with ⟨j, hj, q⟩ | ⟨q, q2⟩
    · exact .inl ⟨j, hj, by rw [b.kp j (dsj_not hd hj)]; exact q⟩
    · refine .inr ⟨fun i z => ?_, q2.imp (fun ⟨j, hj, z⟩ => ⟨j, List.mem_append_left _ hj, z⟩) id⟩
      rcases b.nw i l z with y | ⟨j, _, y⟩ | y
      · exact q i y
      · exact q j y
      · have := hlt l hl; omega
/-- .. and what comes later is not in it -/
theorem Fro.apart {fa fb : List Nat} {S : List Nat} (h : Fro [] T1 st F F1 fa) (hlt : ∀ l ∈ fa, l < st1.length) (h2 : Fro [] T2 st1 F1 F2 fb) : ∀ a ∈ fa, ∀ b ∈ fb, a ≠ b := by
  rintro a ha b hb rfl
  have h1 := h.own ha
  rcases (h2.own hb).2 with ⟨j, _, q⟩ | q
  · exact h1.1 j q
  · have := hlt a ha; omega
/-- what comes in a later step, seen from the beginning -/
theorem Fro.from {S : List Nat} {fa : List Nat} (a : Stp T1 st F st1 F1) (h : Fro S T2 st1 F1 F2 fa) : Fro S (T1 ++ T2) st F F2 fa := by
  refine ⟨fun l hl => (h.at_ l hl).imp id fun ⟨q, q2⟩ => ⟨q, ?_⟩, h.nd⟩
  rcases q2 with ⟨j, hj, z⟩ | z
  · rcases a.nw j l z with y | ⟨k, hk, y⟩ | y
    · exact .inl ⟨j, List.mem_append_right _ hj, y⟩
    · exact .inl ⟨k, List.mem_append_left _ hk, y⟩
    · exact .inr y
  · exact .inr (Nat.le_trans a.le z)
end
/-! expressions -/
abbrev VE := PEnv → Option (A × PEnv)
abbrev VT := PEnv → Option (Bool × PEnv)
abbrev VA := PEnv → Option (List A × PEnv)
def SE (S T : List Nat) (f : FE) (g : VE) : Prop := ∀ {st : Sto} {ρ : Rho} {e : PEnv} {F : Fp} {p : A} {e' : PEnv}, ER st ρ e F → g e = some (p, e') →
  ∃ a st' F' fa, f ρ st = .ok a st' ∧ ER st' ρ e' F' ∧ Stp T st F st' F' ∧ VrE st' p a fa ∧ Fro S T st F F' fa
def ST (T : List Nat) (f : FT) (g : VT) : Prop := ∀ {st : Sto} {ρ : Rho} {e : PEnv} {F : Fp} {b : Bool} {e' : PEnv}, ER st ρ e F → g e = some (b, e') →
  ∃ st' F', f ρ st = .ok b st' ∧ ER st' ρ e' F' ∧ Stp T st F st' F'
/-- some values, one after another; as they are (new ones among them) -/
inductive VrEL (st : Sto) : List A → List A → List Nat → Prop where
  | nil : VrEL st [] [] []
  | cons {p a : A} {ps as : List A} {fa fs : List Nat} : VrE st p a fa → VrEL st ps as fs → VrEL st (p :: ps) (a :: as) (fa ++ fs)
def SA (S T : List Nat) (f : FA) (g : VA) : Prop := ∀ {st : Sto} {ρ : Rho} {e : PEnv} {F : Fp} {ps : List A} {e' : PEnv}, ER st ρ e F → g e = some (ps, e') →
  ∃ as st' F' fa, f ρ st = .ok as st' ∧ ER st' ρ e' F' ∧ Stp T st F st' F' ∧ VrEL st' ps as fa ∧ Fro S T st F F' fa
/-- .. none of them new -/
def SB (S T : List Nat) (f : FA) (g : VA) : Prop := ∀ {st : Sto} {ρ : Rho} {e : PEnv} {F : Fp} {ps : List A} {e' : PEnv}, ER st ρ e F → g e = some (ps, e') →
  ∃ as st' F' fa, f ρ st = .ok as st' ∧ ER st' ρ e' F' ∧ Stp T st F st' F' ∧ VrL st' ps as fa ∧ Fro S T st F F' fa
section
variable {S S1 S2 T T1 T2 : List Nat} {st st' st1 st2 : Sto} {F F' F1 F2 : Fp}
theorem SE.weak {f : FE} {g : VE} (h : SE S1 T1 f g) (s : ∀ i ∈ S1, i ∈ S2) (e : S2 = [] → S1 = []) (t : ∀ i ∈ T1, i ∈ T2) : SE S2 T2 f g := fun E q =>
  let ⟨a, st', F', fa, h1, h2, h3, h4, h5⟩ := h E q
  ⟨a, st', F', fa, h1, h2, h3.mono t, h4, h5.weak s e t⟩
/-! names, constants -/
def rd (S : List Nat) (i : Nat) : VE := fun e => match e[i]? with
  | some (some (.own p)) => if (p.dry || S.contains i) = true then some (p, e) else none
  | some (some (.bor B p)) => if (p.dry || B.all fun j => S.contains j) = true then some (p, e) else none
  | _ => none
theorem fVar_of {ρ : Rho} {i : Nat} {a : A} (h : ρ[i]? = some (some a)) : fVar i ρ st = .ok a st := by unfold fVar; rw [h]
theorem s_rd {S : List Nat} {i : Nat} : SE S [] (fVar i) (rd S i) := by
  intro st ρ e F p e' E h
  unfold rd at h
  split at h
  · rename_i q h1
    split at h
    · rename_i h2
      cases h
      obtain ⟨a, h3, h4⟩ := E.own i _ h1
      refine ⟨a, st, F, F i, fVar_of h3, E, Stp.refl, .inl h4, ⟨fun l hl => ?_, fun _ => E.nd i⟩⟩
      rw [Bool.or_eq_true] at h2
      rcases h2 with h2 | h2
      · rw [(h4.dry h2).2] at hl; cases hl
      · exact .inl ⟨i, List.contains_iff_mem.mp h2, hl⟩
    · cases h
  · rename_i B q h1
    split at h
    · rename_i h2
      cases h
      obtain ⟨a, fb, h3, h4, h5⟩ := E.bor i _ _ h1
      refine ⟨a, st, F, fb, fVar_of h3, E, Stp.refl, .inl h4, ⟨fun l hl => ?_, fun z => ?_⟩⟩
      · rw [Bool.or_eq_true] at h2
        rcases h2 with h2 | h2
        · rw [(h4.dry h2).2] at hl; cases hl
        · obtain ⟨j, hj, q⟩ := h5 l hl
          exact .inl ⟨j, List.contains_iff_mem.mp (List.all_eq_true.mp h2 j hj), q⟩
      · rw [Bool.or_eq_true] at h2
        rcases h2 with h2 | h2
        · rw [(h4.dry h2).2]; exact List.nodup_nil
        · have : fb = [] := List.eq_nil_iff_forall_not_mem.mpr fun l hl => by
            obtain ⟨j, hj, _⟩ := h5 l hl
            have := List.all_eq_true.mp h2 j hj
            rw [z] at this
            cases this
          rw [this]; exact List.nodup_nil
    · cases h
  · cases h
/-- a slot changes -/
def upF (F : Fp) (i : Nat) (f : List Nat) : Fp := fun j => if j = i then f else F j
/-- what is borrowed from slot i is forgotten -/
def kill (i : Nat) (e : PEnv) : PEnv := e.map fun z => match z with
  | some (.bor B q) => if B.contains i = true then none else some (.bor B q)
  | z => z
/-- its value is moved away -/
def mv (i : Nat) : VE := fun e => match e[i]? with
  | some (some (.own p)) => if p.dry = true then some (p, e) else some (p, (kill i e).set i none)
  | some (some (.bor _ p)) => if p.dry = true then some (p, e) else none
  | _ => none
theorem kill_own {i k : Nat} {e : PEnv} {p : A} (h : (kill i e)[k]? = some (some (.own p))) : e[k]? = some (some (.own p)) := by
  unfold kill at h
  rw [List.getElem?_map] at h
  obtain ⟨z, h1, h2⟩ := Option.map_eq_some_iff.mp h
  rw [h1]
  split at h2
  · split at h2
    · cases h2
    · cases h2
  · rw [h2]
theorem own_kill {i k : Nat} {e : PEnv} {p : A} (h : e[k]? = some (some (.own p))) : (kill i e)[k]? = some (some (.own p)) := by
  unfold kill
  rw [List.getElem?_map, h]
  rfl
theorem kill_bor {i k : Nat} {e : PEnv} {B : List Nat} {p : A} (h : (kill i e)[k]? = some (some (.bor B p))) : e[k]? = some (some (.bor B p)) ∧ i ∉ B := by
  unfold kill at h
  rw [List.getElem?_map] at h
  obtain ⟨z, h1, h2⟩ := Option.map_eq_some_iff.mp h
  rw [h1]
  split at h2
  · split at h2
    · cases h2
    · rename_i h3
      cases h2
      exact ⟨rfl, fun hc => h3 (List.contains_iff_mem.mpr hc)⟩
  · subst h2
    rename_i hz
    exact absurd rfl (hz B p)
theorem kill_len {i : Nat} {e : PEnv} : (kill i e).length = e.length := List.length_map _
/-- slot i gets another value of its own; its places f were its own or nobody's -/
theorem ER.put {ρ ρ' : Rho} {e : PEnv} {i : Nat} {en : Option Ent} {f : List Nat} (E : ER st ρ e F) (hle : st.length ≤ st'.length) (hs : ∀ l, l < st.length → l ∉ F i → st'[l]? = st[l]?)
    (hr : ρ'.length = ρ.length) (hr2 : ∀ j, j ≠ i → ρ'[j]? = ρ[j]?) (hf : f.Nodup) (hf2 : ∀ l ∈ f, ∀ j, j ≠ i → l ∉ F j) (hf3 : ∀ l ∈ f, l < st'.length)
    (hv : ∀ p, en = some (.own p) → i < e.length → ∃ a, ρ'[i]? = some (some a) ∧ Vr st' p a f) (hb : ∀ B p, en ≠ some (.bor B p)) (hem : (∀ p, en ≠ some (.own p)) → i < e.length → f = []) (hout : e.length ≤ i → False) : ER st' ρ' ((kill i e).set i en) (upF F i f) := by
  have old : ∀ j, j ≠ i → ∀ l ∈ F j, st'[l]? = st[l]? := fun j hj l hl => hs l (E.lt j l hl) fun z => E.dj j i l hj hl z
  refine ⟨by rw [List.length_set, kill_len, hr, E.len], fun k p h => ?_, fun k B p h => ?_, fun k => ?_, fun k j l hkj hl z => ?_, fun k l hl => ?_, fun k hk h => ?_⟩
  · by_cases hki : i = k
    · subst hki
      have hi : i < e.length := by have := (List.getElem?_eq_some_iff.mp h).1; rw [List.length_set, kill_len] at this; exact this
      rw [List.getElem?_set_self (by rw [kill_len]; exact hi)] at h
      obtain ⟨a, h1, h2⟩ := hv p (Option.some.inj h) hi
      exact ⟨a, h1, by simp only [upF, if_pos]; exact h2⟩
    · rw [List.getElem?_set_ne hki] at h
      obtain ⟨a, h1, h2⟩ := E.own k p (kill_own h)
      have hk : k ≠ i := fun z => hki z.symm
      exact ⟨a, by rw [hr2 k hk]; exact h1, by simp only [upF, if_neg hk]; exact h2.mono (old k hk)⟩
  · by_cases hki : i = k
    · subst hki
      have hi : i < e.length := by have := (List.getElem?_eq_some_iff.mp h).1; rw [List.length_set, kill_len] at this; exact this
      rw [List.getElem?_set_self (by rw [kill_len]; exact hi)] at h
      exact absurd (Option.some.inj h) (hb B p)
    · rw [List.getElem?_set_ne hki] at h
      obtain ⟨h1, h2⟩ := kill_bor h
      obtain ⟨a, fb, h3, h4, h5⟩ := E.bor k B p h1
      have hk : k ≠ i := fun z => hki z.symm
      refine ⟨a, fb, by rw [hr2 k hk]; exact h3, h4.mono fun l hl => ?_, fun l hl => ?_⟩
      · obtain ⟨j, hj, q⟩ := h5 l hl
        exact old j (fun z => h2 (z ▸ hj)) l q
      · obtain ⟨j, hj, q⟩ := h5 l hl
        exact ⟨j, hj, by simp only [upF, if_neg (fun z : j = i => h2 (z ▸ hj))]; exact q⟩
  · unfold upF
    split
    · exact hf
    · exact E.nd k
  · unfold upF at hl z
    split at hl
    · rename_i h1
      split at z
      · rename_i h2
        exact hkj (h1.trans h2.symm)
      · rename_i h2
        exact hf2 l hl j h2 z
    · rename_i h1
      split at z
      · exact hf2 l z k h1 hl
      · exact E.dj k j l hkj hl z
  · unfold upF at hl
    split at hl
    · exact hf3 l hl
    · exact Nat.lt_of_lt_of_le (E.lt k l hl) hle
  · rw [List.length_set, kill_len] at hk
    unfold upF
    split
    · rename_i hki
      subst hki
      refine hem (fun p z => h p ?_) hk
      rw [List.getElem?_set_self (by rw [kill_len]; exact hk), z]
    · rename_i hki
      refine E.em k hk fun p z => h p ?_
      rw [List.getElem?_set_ne (fun y => hki y.symm)]
      exact own_kill z
theorem Stp.put {i : Nat} {f : List Nat} (hle : st.length ≤ st'.length) (hs : ∀ l, l < st.length → l ∉ F i → st'[l]? = st[l]?) (hn : ∀ l ∈ f, l ∈ F i ∨ st.length ≤ l) : Stp [i] st F st' (upF F i f) where
  le := hle
  fr := fun l hl h => hs l hl (h i (List.mem_singleton.mpr rfl))
  kp := fun j hj => if_neg fun z => hj (List.mem_singleton.mpr z)
  nw := fun j l h => by
    unfold upF at h
    split at h
    · rename_i e
      subst e
      rcases hn l h with q | q
      · exact .inl q
      · exact .inr (.inr q)
    · exact .inl h
theorem s_mv {i : Nat} : SE [] [i] (fVar i) (mv i) := by
  intro st ρ e F p e' E h
  unfold mv at h
  split at h
  · rename_i q h1
    obtain ⟨a, h3, h4⟩ := E.own i _ h1
    have hi : i < e.length := (List.getElem?_eq_some_iff.mp h1).1
    split at h
    · rename_i h2
      cases h
      exact ⟨a, st, F, [], fVar_of h3, E, Stp.refl, .inl (by obtain ⟨e1, e2⟩ := h4.dry h2; rw [e1]; exact Vr.of_dry h2), Fro.nil⟩
    · cases h
      refine ⟨a, st, upF F i [], F i, fVar_of h3, E.put (Nat.le_refl _) (fun _ _ _ => rfl) rfl (fun _ _ => rfl) List.nodup_nil (fun _ h => (List.not_mem_nil h).elim) (fun _ h => (List.not_mem_nil h).elim) (fun _ h => nomatch h) (fun _ _ h => nomatch h) (fun _ _ => rfl) (fun h => by omega),
        Stp.put (Nat.le_refl _) (fun _ _ _ => rfl) (fun _ h => (List.not_mem_nil h).elim), .inl h4, ⟨fun l hl => .inr ⟨fun k z => ?_, .inl ⟨i, List.mem_singleton.mpr rfl, hl⟩⟩, fun _ => E.nd i⟩⟩
      unfold upF at z
      split at z
      · cases z
      · rename_i hk
        exact E.dj k i l hk z hl
  · rename_i B q h1
    split at h
    · rename_i h2
      cases h
      obtain ⟨a, fb, h3, h4, h5⟩ := E.bor i _ _ h1
      exact ⟨a, st, F, [], fVar_of h3, E, Stp.refl, .inl (by obtain ⟨e1, e2⟩ := h4.dry h2; rw [e1]; exact Vr.of_dry h2), Fro.nil⟩
    · cases h
  · cases h
/-- a value without places -/
def fl (g : VE) : VE := fun e => match g e with
  | some (p, e1) => if p.dry = true then some (p, e1) else none
  | none => none
theorem s_fl {f : FE} {g : VE} (h : SE S T f g) : SE [] T f (fl g) := by
  intro st ρ e F p e' E q
  unfold fl at q
  split at q
  · rename_i p1 e1 h1
    split at q
    · rename_i h2
      cases q
      obtain ⟨a, st', F', fa, h3, h4, h5, h6, h7⟩ := h E h1
      refine ⟨a, st', F', [], h3, h4, h5, ?_, Fro.nil⟩
      obtain ⟨e1, e2⟩ := h6.dry h2
      rw [e1]
      exact .inl (Vr.of_dry h2)
    · cases q
  · cases q
def vc (a : A) : VE := fun e => some (a, e)
theorem s_c {a : A} (h : a.dry = true := by rfl) : SE [] [] (fC a) (vc a) := by
  intro st ρ e F p e' E q
  cases q
  exact ⟨a, st, F, [], rfl, E, Stp.refl, .inl (Vr.of_dry h), Fro.nil⟩
/-- a new dict -/
theorem s_dnew : SE [] [] (fC (.dtm [])) (vc (.dtm [])) := by
  intro st ρ e F p e' E q
  cases q
  exact ⟨_, st, F, [], rfl, E, Stp.refl, .inr (.inr ⟨_, rfl, rfl, rfl, rfl⟩), Fro.nil⟩
/-! two values -/
def Of2 (gg hh : Ev.F2) : Prop := ∀ {st : Sto} {p q a b c : A} {fa fb : List Nat} {s' : Sto}, VrE st p a fa → VrE st q b fb → hh p q [] = .ok c s' → c.dry = true ∧ gg a b st = .ok c st
def Os2 (gg hh : Ev.F2) : Prop := ∀ {st : Sto} {p q a b c : A} {fa fb : List Nat} {s' : Sto}, VrE st p a fa → VrE st q b fb → hh p q [] = .ok c s' → ∃ r fc, gg a b st = .ok r st ∧ VrE st c r fc ∧ Sub fc (fa ++ fb)
def v2 (gg : Ev.F2) (ga gb : VE) : VE := fun e => match ga e with
  | some (p, e1) => (match gb e1 with
    | some (q, e2) => (match gg p q [] with
      | .ok c _ => some (c, e2)
      | .no => none)
    | none => none)
  | none => none
theorem Fro.pair {fa fb : List Nat} {ρ : Rho} {e : PEnv} (x1 : Stp T1 st F st1 F1) (h : Fro S1 T1 st F F1 fa) (hlt : ∀ l ∈ fa, l < st1.length) (E : ER st1 ρ e F1) (x2 : Stp T2 st1 F1 st2 F2) (hd : dsj S1 T2 = true) (h2 : Fro S2 T2 st1 F1 F2 fb) :
    Fro (S1 ++ S2) (T1 ++ T2) st F F2 (fa ++ fb) := by
  obtain ⟨k1, k2⟩ := h.later hlt E x2 hd
  have k3 := h2.from x1
  refine ⟨fun l hl => ?_, fun z => ?_⟩
  · rcases List.mem_append.mp hl with q | q
    · exact (k2.at_ l q).imp (fun ⟨j, hj, y⟩ => ⟨j, List.mem_append_left _ hj, y⟩) id
    · exact (k3.at_ l q).imp (fun ⟨j, hj, y⟩ => ⟨j, List.mem_append_right _ hj, y⟩) id
  · obtain ⟨rfl, rfl⟩ := List.append_eq_nil_iff.mp z
    exact List.nodup_append.mpr ⟨h.nd rfl, h2.nd rfl, Fro.apart (S := []) h hlt h2⟩
theorem s_2 {gg hh : Ev.F2} {fa fb : FE} {ga gb : VE} (ho : Os2 gg hh) (ha : SE S1 T1 fa ga) (hb : SE S2 T2 fb gb) (hd : dsj S1 T2 = true := by rfl) : SE (S1 ++ S2) (T1 ++ T2) (f2 gg fa fb) (v2 hh ga gb) := by
  intro st ρ e F p e' E q
  unfold v2 at q
  split at q
  · rename_i p1 e1 h1
    split at q
    · rename_i p2 e2 h2
      split at q
      · rename_i c s' h3
        cases q
        obtain ⟨a, st1, F1, fa1, a1, E1, x1, r1, k1⟩ := ha E h1
        obtain ⟨b, st2, F2, fb1, a2, E2, x2, r2, k2⟩ := hb E1 h2
        obtain ⟨u, _⟩ := k1.later r1.lt E1 x2 hd
        obtain ⟨r, fc, h4, h5, h6⟩ := ho (r1.mono u) r2 h3
        exact ⟨r, st2, F2, fc, by unfold f2; rw [a1]; simp only; rw [a2]; exact h4, E2, x1.trans x2, h5, (Fro.pair x1 k1 r1.lt E1 x2 hd k2).sub h6⟩
      · cases q
    · cases q
  · cases q
theorem s_2f {gg hh : Ev.F2} {fa fb : FE} {ga gb : VE} (ho : Of2 gg hh) (ha : SE S1 T1 fa ga) (hb : SE S2 T2 fb gb) (hd : dsj S1 T2 = true := by rfl) : SE [] (T1 ++ T2) (f2 gg fa fb) (v2 hh ga gb) := by
  intro st ρ e F p e' E q
  unfold v2 at q
  split at q
  · rename_i p1 e1 h1
    split at q
    · rename_i p2 e2 h2
      split at q
      · rename_i c s' h3
        cases q
        obtain ⟨a, st1, F1, fa1, a1, E1, x1, r1, k1⟩ := ha E h1
        obtain ⟨b, st2, F2, fb1, a2, E2, x2, r2, k2⟩ := hb E1 h2
        obtain ⟨u, _⟩ := k1.later r1.lt E1 x2 hd
        obtain ⟨h5, h4⟩ := ho (r1.mono u) r2 h3
        exact ⟨_, st2, F2, [], by unfold f2; rw [a1]; simp only; rw [a2]; exact h4, E2, x1.trans x2, .inl (Vr.of_dry h5), Fro.nil⟩
      · cases q
    · cases q
  · cases q
/-! some values -/
def vN : VA := fun e => some ([], e)
def vC (g : VE) (gs : VA) : VA := fun e => match g e with
  | some (p, e1) => (match gs e1 with
    | some (ps, e2) => some (p :: ps, e2)
    | none => none)
  | none => none
theorem VrEL.mono {ps as : List A} {fp : List Nat} (h : VrEL st ps as fp) (hs : ∀ l ∈ fp, st'[l]? = st[l]?) : VrEL st' ps as fp := by
  induction h with
  | nil => exact .nil
  | cons h1 h2 ih => exact .cons (h1.mono fun l hl => hs l (List.mem_append_left _ hl)) (ih fun l hl => hs l (List.mem_append_right _ hl))
theorem VrEL.lt {ps as : List A} {fp : List Nat} (h : VrEL st ps as fp) : ∀ l ∈ fp, l < st.length := by
  induction h with
  | nil => intro l hl; cases hl
  | cons h1 h2 ih =>
    intro l hl
    rcases List.mem_append.mp hl with q | q
    · exact h1.lt l q
    · exact ih l q
theorem s_aN : SA [] [] aN vN := by
  intro st ρ e F ps e' E q
  cases q
  exact ⟨[], st, F, [], rfl, E, Stp.refl, .nil, Fro.nil⟩
theorem s_aC {f : FE} {g : VE} {fs : FA} {gs : VA} (ha : SE S1 T1 f g) (hb : SA S2 T2 fs gs) (hd : dsj S1 T2 = true := by rfl) : SA (S1 ++ S2) (T1 ++ T2) (aC f fs) (vC g gs) := by
  intro st ρ e F ps e' E q
  unfold vC at q
  split at q
  · rename_i p1 e1 h1
    split at q
    · rename_i p2 e2 h2
      cases q
      obtain ⟨a, st1, F1, fa1, a1, E1, x1, r1, k1⟩ := ha E h1
      obtain ⟨as, st2, F2, fb1, a2, E2, x2, r2, k2⟩ := hb E1 h2
      obtain ⟨u, _⟩ := k1.later r1.lt E1 x2 hd
      exact ⟨a :: as, st2, F2, _, by unfold aC; rw [a1]; simp only; rw [a2], E2, x1.trans x2, .cons (r1.mono u) r2, Fro.pair x1 k1 r1.lt E1 x2 hd k2⟩
    · cases q
  · cases q
/-- a value that is kept -/
theorem locd_of {p a : A} {fa : List Nat} {ρ : Rho} {e : PEnv} (E : ER st ρ e F) (r : VrE st p a fa) : ∃ b more fb, locd a st = .ok b (st ++ more) ∧ ER (st ++ more) ρ e F ∧ Vr (st ++ more) p b fb ∧ (∀ l ∈ fb, l ∈ fa ∨ (st.length ≤ l ∧ l < (st ++ more).length)) ∧ (fa.Nodup → fb.Nodup) := by
  have up : ∀ {more : Sto}, ER (st ++ more) ρ e F := fun {more} => ⟨E.len, fun i p h => let ⟨a, h1, h2⟩ := E.own i p h; ⟨a, h1, h2.mono fun l hl => List.getElem?_append_left (E.lt i l hl)⟩,
    fun i S p h => let ⟨a, fb, h1, h2, h3⟩ := E.bor i S p h; ⟨a, fb, h1, h2.mono fun l hl => List.getElem?_append_left (h2.lt l hl), h3⟩, E.nd, E.dj, fun i l hl => by have := E.lt i l hl; rw [List.length_append]; omega, E.em⟩
  rcases r with r | ⟨ps, as, e1, e2, h⟩ | ⟨kvs, e1, e2, e3, h⟩
  · refine ⟨a, [], fa, ?_, up, by rw [List.append_nil]; exact r, fun l hl => .inl hl, id⟩
    have := r.nt
    rw [List.append_nil]
    cases a with
    | tmp _ => exact this.elim
    | dtm _ => exact this.elim
    | _ => rfl
  · subst e1 e2
    refine ⟨.loc st.length, [.lst as], st.length :: fa, rfl, up, ⟨st.length, as, fa, rfl, by simp, rfl, h.mono fun l hl => List.getElem?_append_left (h.lt l hl)⟩, fun l hl => ?_, fun nd => List.nodup_cons.mpr ⟨fun z => by have := h.lt _ z; omega, nd⟩⟩
    rcases List.mem_cons.mp hl with rfl | q
    · exact .inr ⟨Nat.le_refl _, by rw [List.length_append]; simp⟩
    · exact .inl q
  · subst e1 e2 e3
    refine ⟨.loc st.length, [.dic kvs], [st.length], rfl, up, ⟨st.length, rfl, by simp, rfl, h⟩, fun l hl => ?_, fun _ => by simp⟩
    rw [List.mem_singleton.mp hl]
    exact .inr ⟨Nat.le_refl _, by rw [List.length_append]; simp⟩
theorem Stp.more {more : Sto} : Stp T st F (st ++ more) F := ⟨by rw [List.length_append]; omega, fun l hl _ => List.getElem?_append_left hl, fun _ _ => rfl, fun _ _ h => .inl h⟩
def SEb (S T : List Nat) (f : FE) (g : VE) : Prop := ∀ {st : Sto} {ρ : Rho} {e : PEnv} {F : Fp} {p : A} {e' : PEnv}, ER st ρ e F → g e = some (p, e') →
  ∃ a st' F' fa, f ρ st = .ok a st' ∧ ER st' ρ e' F' ∧ Stp T st F st' F' ∧ Vr st' p a fa ∧ Fro S T st F F' fa
theorem s_B {f : FE} {g : VE} (h : SE S T f g) : SEb S T (fB f) g := by
  intro st ρ e F p e' E q
  obtain ⟨a, st1, F1, fa, a1, E1, x1, r1, k1⟩ := h E q
  obtain ⟨b, more, fb, h1, h2, h3, h4, h5⟩ := locd_of E1 r1
  refine ⟨b, st1 ++ more, F1, fb, by unfold fB; rw [a1]; exact h1, h2, by have := x1.trans (T2 := []) (Stp.more (F := F1) (more := more)); rw [List.append_nil] at this; exact this, h3, ⟨fun l hl => ?_, fun z => h5 (k1.nd z)⟩⟩
  rcases h4 l hl with q | ⟨q, _⟩
  · exact k1.at_ l q
  · exact .inr ⟨fun i z => by have := E1.lt i l z; omega, .inr (Nat.le_trans x1.le q)⟩
theorem s_bN : SB [] [] aN vN := by
  intro st ρ e F ps e' E q
  cases q
  exact ⟨[], st, F, [], rfl, E, Stp.refl, ⟨rfl, rfl⟩, Fro.nil⟩
theorem s_bC {f : FE} {g : VE} {fs : FA} {gs : VA} (ha : SE S1 T1 f g) (hb : SB S2 T2 fs gs) (hd : dsj S1 T2 = true := by rfl) : SB (S1 ++ S2) (T1 ++ T2) (aC (fB f) fs) (vC g gs) := by
  intro st ρ e F ps e' E q
  unfold vC at q
  split at q
  · rename_i p1 e1 h1
    split at q
    · rename_i p2 e2 h2
      cases q
      obtain ⟨a, st1, F1, fa1, a1, E1, x1, r1, k1⟩ := s_B ha E h1
      obtain ⟨as, st2, F2, fb1, a2, E2, x2, r2, k2⟩ := hb E1 h2
      obtain ⟨u, _⟩ := k1.later r1.lt E1 x2 hd
      exact ⟨a :: as, st2, F2, _, by unfold aC; rw [a1]; simp only; rw [a2], E2, x1.trans x2, ⟨a, as, fa1, fb1, rfl, rfl, r1.mono u, r2⟩, Fro.pair x1 k1 r1.lt E1 x2 hd k2⟩
    · cases q
  · cases q
/-! builtins -/
def OfN (gg hh : FN) : Prop := ∀ {st : Sto} {ps as : List A} {c : A} {fa : List Nat} {s' : Sto}, VrEL st ps as fa → hh ps [] = .ok c s' → c.dry = true ∧ gg as st = .ok c st
def OsN (gg hh : FN) : Prop := ∀ {st : Sto} {ps as : List A} {c : A} {fa : List Nat} {s' : Sto}, VrEL st ps as fa → hh ps [] = .ok c s' → ∃ r fc, gg as st = .ok r st ∧ VrE st c r fc ∧ Sub fc fa
def ObN (gg hh : FN) : Prop := ∀ {st : Sto} {ps as : List A} {c : A} {fa : List Nat} {s' : Sto}, VrL st ps as fa → hh ps [] = .ok c s' → ∃ r fc, gg as st = .ok r st ∧ VrE st c r fc ∧ Sub fc fa
def vN1 (gg : FN) (gs : VA) : VE := fun e => match gs e with
  | some (ps, e1) => (match gg ps [] with
    | .ok c _ => some (c, e1)
    | .no => none)
  | none => none
theorem s_Nf {gg hh : FN} {f : FA} {g : VA} (ho : OfN gg hh) (h : SA S T f g) : SE [] T (fN gg f) (vN1 hh g) := by
  intro st ρ e F p e' E q
  unfold vN1 at q
  split at q
  · rename_i p1 e1 h1
    split at q
    · rename_i c s' h3
      cases q
      obtain ⟨a, st1, F1, fa1, a1, E1, x1, r1, k1⟩ := h E h1
      obtain ⟨h5, h4⟩ := ho r1 h3
      exact ⟨_, st1, F1, [], by unfold fN; rw [a1]; exact h4, E1, x1, .inl (Vr.of_dry h5), Fro.nil⟩
    · cases q
  · cases q
theorem s_N {gg hh : FN} {f : FA} {g : VA} (ho : OsN gg hh) (h : SA S T f g) : SE S T (fN gg f) (vN1 hh g) := by
  intro st ρ e F p e' E q
  unfold vN1 at q
  split at q
  · rename_i p1 e1 h1
    split at q
    · rename_i c s' h3
      cases q
      obtain ⟨a, st1, F1, fa1, a1, E1, x1, r1, k1⟩ := h E h1
      obtain ⟨r, fc, h4, h5, h6⟩ := ho r1 h3
      exact ⟨_, st1, F1, fc, by unfold fN; rw [a1]; exact h4, E1, x1, h5, k1.sub h6⟩
    · cases q
  · cases q
theorem s_Nb {gg hh : FN} {f : FA} {g : VA} (ho : ObN gg hh) (h : SB S T f g) : SE S T (fN gg f) (vN1 hh g) := by
  intro st ρ e F p e' E q
  unfold vN1 at q
  split at q
  · rename_i p1 e1 h1
    split at q
    · rename_i c s' h3
      cases q
      obtain ⟨a, st1, F1, fa1, a1, E1, x1, r1, k1⟩ := h E h1
      obtain ⟨r, fc, h4, h5, h6⟩ := ho r1 h3
      exact ⟨_, st1, F1, fc, by unfold fN; rw [a1]; exact h4, E1, x1, h5, k1.sub h6⟩
    · cases q
  · cases q
end
end Vs
/-! operations on values -/
namespace Vs
open PySem PySem.Spec PyProof.Rows L2 Gd Ev
section
variable {st : Sto}
theorem of_int {C : Int → Int → Prop} [∀ i j, Decidable (C i j)] {f : Int → Int → Int} : Of2 (opInt C f) (opInt C f) := by
  intro st p q a b c fa fb s' ra rb h
  unfold opInt at h
  split at h
  · split at h
    · rename_i i j hc
      cases h
      rw [ra.int, rb.int]
      exact ⟨rfl, if_pos hc⟩
    · cases h
  · cases h
theorem of_sub : Of2 opSub opSub := by
  intro st p q a b c fa fb s' ra rb h
  unfold opSub at h
  split at h
  · cases h
    rw [ra.int, rb.int]
    exact ⟨rfl, rfl⟩
  · cases h
theorem of_lt : Of2 opLt opLt := by
  intro st p q a b c fa fb s' ra rb h
  unfold opLt at h
  split at h
  · cases h
    rw [ra.int, rb.int]
    exact ⟨rfl, rfl⟩
  · cases h
theorem of_le : Of2 opLe opLe := by
  intro st p q a b c fa fb s' ra rb h
  unfold opLe at h
  split at h
  · cases h
    rw [ra.int, rb.int]
    exact ⟨rfl, rfl⟩
  · cases h
theorem of_gt : Of2 opGt opGt := by
  intro st p q a b c fa fb s' ra rb h
  unfold opGt at h
  split at h
  · cases h
    rw [ra.int, rb.int]
    exact ⟨rfl, rfl⟩
  · cases h
theorem of_ge : Of2 opGe opGe := by
  intro st p q a b c fa fb s' ra rb h
  unfold opGe at h
  split at h
  · cases h
    rw [ra.int, rb.int]
    exact ⟨rfl, rfl⟩
  · cases h
theorem VrE.isNon {p a : A} {fp : List Nat} (h : VrE st p a fp) : isNon a = isNon p := by
  cases p with
  | non => rw [(h.dry rfl).1]
  | bl _ => rw [(h.dry rfl).1]
  | int _ => rw [(h.dry rfl).1]
  | str _ => rw [(h.dry rfl).1]
  | tup ps => obtain ⟨as, e, _⟩ := h.tup; rw [e]; rfl
  | pr x y =>
    rcases h with ⟨_, _, _, _, e, _⟩ | ⟨_, _, e, _⟩ | ⟨_, e, _⟩
    · rw [e]; rfl
    · cases e
    · cases e
  | tmp ps =>
    rcases h with ⟨l, as, fq, e, _⟩ | ⟨_, _, _, e, _⟩ | ⟨_, e, _⟩
    · rw [e]; rfl
    · rw [e]; rfl
    · cases e
  | frz ps =>
    rcases h with ⟨e, _⟩ | ⟨_, _, e, _⟩ | ⟨_, e, _⟩
    · rw [e]
    · cases e
    · cases e
  | dtm ps =>
    rcases h with ⟨l, e, _⟩ | ⟨_, _, e, _⟩ | ⟨_, _, e, _⟩
    · rw [e]; rfl
    · cases e
    · rw [e]; rfl
  | loc l =>
    rcases h with h | ⟨_, _, e, _⟩ | ⟨_, e, _⟩
    · exact h.elim
    · cases e
    · cases e
theorem of_is : Of2 opIs opIs := by
  intro st p q a b c fa fb s' ra rb h
  unfold opIs at h
  split at h
  · cases h
    rw [(rb.dry rfl).1]
    exact ⟨rfl, by show R.ok (A.bl (Ev.isNon a)) st = _; rw [ra.isNon]⟩
  · split at h
    · cases h
      rw [ra.bl, rb.bl]
      exact ⟨rfl, rfl⟩
    · cases h
  · cases h
theorem of_isn : Of2 opIsN opIsN := by
  intro st p q a b c fa fb s' ra rb h
  unfold opIsN at h
  split at h
  · cases h
    rw [(rb.dry rfl).1]
    exact ⟨rfl, by show R.ok (A.bl (!Ev.isNon a)) st = _; rw [ra.isNon]⟩
  · split at h
    · cases h
      rw [ra.bl, rb.bl]
      exact ⟨rfl, rfl⟩
    · cases h
  · cases h
/-! == -/
mutual
/-- lists within lists, so deep at most -/
def lv : Nat → A → Bool
  | k, .tup xs => lvL k xs
  | k, .pr a b => lv k a && lv k b
  | k, .frz xs => true
  | k, .tmp xs => match k with
    | 0 => false
    | k + 1 => lvL k xs
  | _, .dtm _ => false
  | _, .loc _ => false
  | _, _ => true
def lvL : Nat → List A → Bool
  | _, [] => true
  | k, a :: r => lv k a && lvL k r
end
/-- what a look at the places of lists gives -/
def GetD (st : Sto) (k : Nat) (g : Nat → Option PyData) : Prop := match k with
  | 0 => True
  | k + 1 => ∃ g', GetD st k g' ∧ ∀ l xs, st[l]? = some (.lst xs) → g l = (dWs g' xs).map .list
mutual
theorem dW_pure : ∀ {k : Nat} {g g0 : Nat → Option PyData} {p a : A} {fp : List Nat} {d : PyData}, GetD st k g → Vr st p a fp → lv k p = true → dW g0 p = some d → dW g a = some d
  | k, g, g0, .non, a, fp, d, G, r, hl, h => by rw [r.1]; exact h
  | k, g, g0, .bl _, a, fp, d, G, r, hl, h => by rw [r.1]; exact h
  | k, g, g0, .int _, a, fp, d, G, r, hl, h => by rw [r.1]; exact h
  | k, g, g0, .str _, a, fp, d, G, r, hl, h => by rw [r.1]; exact h
  | k, g, g0, .frz xs, a, fp, d, G, r, hl, h => by
    rw [r.1]
    have h' : (dWs g0 xs).map PyData.list = some d := h
    obtain ⟨ds, h3, rfl⟩ := Option.map_eq_some_iff.mp h'
    show (dWs g xs).map PyData.list = _
    rw [dWs_dry r.2.1 h3]
    rfl
  | k, g, g0, .tup ps, a, fp, d, G, ⟨as, e, r⟩, hl, h => by
    have h' : (dWs g0 ps).map PyData.tuple = some d := h
    obtain ⟨ds, h3, rfl⟩ := Option.map_eq_some_iff.mp h'
    rw [e]
    show (dWs g as).map PyData.tuple = _
    have hl' : lvL k ps = true := by cases k <;> exact hl
    rw [dWs_pure G r hl' h3]
    rfl
  | k, g, g0, .pr p q, a, fp, d, G, ⟨x, y, f1, f2, e, e1, h1, h2⟩, hl, h => by
    have hl' : (lv k p && lv k q) = true := by cases k <;> exact hl
    rw [Bool.and_eq_true] at hl'
    unfold dW at h
    split at h
    · rename_i d1 d2 h3 h4
      cases h
      rw [e]
      unfold dW
      rw [dW_pure G h1 hl'.1 h3, dW_pure G h2 hl'.2 h4]
    · cases h
  | 0, g, g0, .tmp ps, a, fp, d, G, r, hl, h => by cases hl
  | k + 1, g, g0, .tmp ps, a, fp, d, ⟨g', G, hg⟩, ⟨l, as, fq, e, e1, e2, r⟩, hl, h => by
    have h' : (dWs g0 ps).map PyData.list = some d := h
    obtain ⟨ds, h3, rfl⟩ := Option.map_eq_some_iff.mp h'
    rw [e]
    show g l = _
    rw [hg l as e1, dWs_pure G r hl h3]
    rfl
  | k, g, g0, .dtm _, a, fp, d, G, r, hl, h => by cases k <;> cases hl
  | k, g, g0, .loc _, a, fp, d, G, r, hl, h => by cases k <;> cases hl
theorem dWs_pure : ∀ {k : Nat} {g g0 : Nat → Option PyData} {ps as : List A} {fp : List Nat} {ds : List PyData}, GetD st k g → VrL st ps as fp → lvL k ps = true → dWs g0 ps = some ds → dWs g as = some ds
  | k, g, g0, [], as, fp, ds, G, r, hl, h => by rw [r.1]; exact h
  | k, g, g0, p :: ps, as, fp, ds, G, ⟨a, r, f1, f2, e, e1, h1, h2⟩, hl, h => by
    have hl' : (lv k p && lvL k ps) = true := by cases k <;> exact hl
    rw [Bool.and_eq_true] at hl'
    unfold dWs at h
    split at h
    · rename_i d1 d2 h3 h4
      cases h
      rw [e]
      unfold dWs
      rw [dW_pure G h1 hl'.1 h3, dWs_pure G h2 hl'.2 h4]
    · cases h
theorem dWs_dry {g g0 : Nat → Option PyData} : ∀ {ps : List A} {ds : List PyData}, dryL ps = true → dWs g0 ps = some ds → dWs g ps = some ds
  | [], ds, _, h => h
  | p :: ps, ds, hd, h => by
    have hd' : (p.dry && dryL ps) = true := hd
    rw [Bool.and_eq_true] at hd'
    unfold dWs at h
    split at h
    · rename_i d1 d2 h3 h4
      cases h
      unfold dWs
      rw [dW_dry hd'.1 h3, dWs_dry hd'.2 h4]
    · cases h
theorem dW_dry {g g0 : Nat → Option PyData} : ∀ {p : A} {d : PyData}, p.dry = true → dW g0 p = some d → dW g p = some d
  | .non, _, _, h => h
  | .bl _, _, _, h => h
  | .int _, _, _, h => h
  | .str _, _, _, h => h
  | .tup ps, d, hd, h => by
    have h' : (dWs g0 ps).map PyData.tuple = some d := h
    obtain ⟨ds, h3, rfl⟩ := Option.map_eq_some_iff.mp h'
    show (dWs g ps).map PyData.tuple = _
    rw [dWs_dry (show dryL ps = true from hd) h3]
    rfl
  | .pr p q, d, hd, h => by
    have hd' : (p.dry && q.dry) = true := hd
    rw [Bool.and_eq_true] at hd'
    unfold dW at h
    split at h
    · rename_i d1 d2 h3 h4
      cases h
      unfold dW
      rw [dW_dry hd'.1 h3, dW_dry hd'.2 h4]
    · cases h
  | .tmp _, _, hd, _ => by cases hd
  | .frz _, _, hd, _ => by cases hd
  | .dtm _, _, hd, _ => by cases hd
  | .loc _, _, hd, _ => by cases hd
end
/-- the data of a pure value -/
def dP (p : A) : Option PyData := if lv 2 p = true then dW (fun _ => none) p else none
def gS (st : Sto) : Nat → Option PyData := fun l => match st[l]? with
    | some (.lst xs) => (dWs (fun l => match st[l]? with
      | some (.lst ys) => (dWs (fun _ => none) ys).map .list
      | _ => none) xs).map .list
    | _ => none
theorem getD2 : GetD st 2 (gS st) := ⟨fun l => match st[l]? with
      | some (.lst ys) => (dWs (fun _ => none) ys).map .list
      | _ => none, ⟨fun _ => none, trivial, fun l xs h => by simp only [h]⟩, fun l xs h => by simp only [gS, h]⟩
theorem toD_pure {p a : A} {fp : List Nat} {d : PyData} (r : VrE st p a fp) (h : dP p = some d) : toD st a = some d := by
  unfold dP at h
  split at h
  · rename_i hl
    show dW (gS st) a = some d
    rcases r with r | ⟨ps, as, e1, e2, r⟩ | ⟨kvs, e1, _⟩
    · exact dW_pure getD2 r hl h
    · subst e1 e2
      have h' : (dWs (fun _ => none) ps).map PyData.list = some d := h
      obtain ⟨ds, h3, rfl⟩ := Option.map_eq_some_iff.mp h'
      show (dWs (gS st) as).map PyData.list = _
      obtain ⟨g', _, hg⟩ := getD2 (st := st)
      rw [dWs_pure (k := 1) ⟨g', trivial, hg⟩ r hl h3]
      rfl
    · subst e1; cases hl
  · cases h
/-- == of pure values -/
def pEq : F2 := fun a b st => match a, b with
  | .str x, .str y => .ok (.bl (decide (x = y))) st
  | a, b => (match dP a, dP b with
    | some d, some e => if (SeqAt.shaped d && SeqAt.shaped e) = true then .ok (.bl (PyData.eqv d e)) st else .no
    | _, _ => .no)
def pNe : F2 := fun a b st => match a, b with
  | .str x, .str y => .ok (.bl (!decide (x = y))) st
  | a, b => (match dP a, dP b with
    | some d, some e => if (SeqAt.shaped d && SeqAt.shaped e) = true then .ok (.bl (!PyData.eqv d e)) st else .no
    | _, _ => .no)
theorem VrE.nstr {p a : A} {fp : List Nat} (h : VrE st p a fp) {x : Str} (e : a = .str x) : p = .str x := by
  cases p with
  | non => rw [(h.dry rfl).1] at e; cases e
  | bl _ => rw [(h.dry rfl).1] at e; cases e
  | int _ => rw [(h.dry rfl).1] at e; cases e
  | str _ => rw [(h.dry rfl).1] at e; exact e
  | tup ps => obtain ⟨as, e1, _⟩ := h.tup; rw [e1] at e; cases e
  | pr x y =>
    rcases h with ⟨_, _, _, _, e1, _⟩ | ⟨_, _, e1, _⟩ | ⟨_, e1, _⟩
    · rw [e1] at e; cases e
    · cases e1
    · cases e1
  | tmp ps =>
    rcases h with ⟨l, as, fq, e1, _⟩ | ⟨_, _, _, e1, _⟩ | ⟨_, e1, _⟩
    · rw [e1] at e; cases e
    · rw [e1] at e; cases e
    · cases e1
  | frz ps =>
    rcases h with ⟨e1, _⟩ | ⟨_, _, e1, _⟩ | ⟨_, e1, _⟩
    · rw [e1] at e; cases e
    · cases e1
    · cases e1
  | dtm ps =>
    rcases h with ⟨l, e1, _⟩ | ⟨_, _, e1, _⟩ | ⟨_, _, e1, _⟩
    · rw [e1] at e; cases e
    · cases e1
    · rw [e1] at e; cases e
  | loc l =>
    rcases h with h | ⟨_, _, e1, _⟩ | ⟨_, e1, _⟩
    · exact h.elim
    · cases e1
    · cases e1
theorem of_eq : Of2 opEq pEq := by
  intro st p q a b c fa fb s' ra rb h
  unfold pEq at h
  split at h
  · cases h
    rw [ra.str, rb.str]
    exact ⟨rfl, rfl⟩
  · rename_i hn
    split at h
    · rename_i d e h1 h2
      split at h
      · rename_i hs
        cases h
        refine ⟨rfl, ?_⟩
        unfold opEq
        split
        · rename_i x y
          exact (hn _ _ (ra.nstr rfl) (rb.nstr rfl)).elim
        · rw [toD_pure ra h1, toD_pure rb h2]
          exact if_pos hs
      · cases h
    · cases h
theorem of_ne : Of2 opNe pNe := by
  intro st p q a b c fa fb s' ra rb h
  unfold pNe at h
  split at h
  · cases h
    rw [ra.str, rb.str]
    exact ⟨rfl, rfl⟩
  · rename_i hn
    split at h
    · rename_i d e h1 h2
      split at h
      · rename_i hs
        cases h
        refine ⟨rfl, ?_⟩
        unfold opNe
        split
        · rename_i x y
          exact (hn _ _ (ra.nstr rfl) (rb.nstr rfl)).elim
        · rw [toD_pure ra h1, toD_pure rb h2]
          exact if_pos hs
      · cases h
    · cases h
/-! in -/
def pInA (a b : A) : Option Bool := match seqOf b [] with
  | some xs => if (a.dry && dryL xs && flatA a && xs.all flatA) = true then some (xs.any fun y => eqFA y a) else if (flatA a && xs.all flatA) = true then none else (match dP a, dP b with
    | some d, some (.list ds) => if (SeqAt.shaped d && SeqAt.shaped (.list ds)) = true then some (ds.any fun z => PyData.eqv z d) else none
    | _, _ => none)
  | none => none
def pIn : F2 := fun a b st => match pInA a b with
  | some c => .ok (.bl c) st
  | none => .no
def pNotIn : F2 := fun a b st => match pInA a b with
  | some c => .ok (.bl (!c)) st
  | none => .no
theorem flatA_eq {p a : A} {fp : List Nat} (h : Vr st p a fp) : flatA a = flatA p := by
  cases p with
  | non => rw [h.1]
  | bl _ => rw [h.1]
  | int _ => rw [h.1]
  | str _ => rw [h.1]
  | tup ps => obtain ⟨as, e, _⟩ := h; rw [e]; rfl
  | pr x y => obtain ⟨_, _, _, _, e, _⟩ := h; rw [e]; rfl
  | tmp ps => obtain ⟨l, as, fq, e, _⟩ := h; rw [e]; rfl
  | frz ps => rw [h.1]
  | dtm ps => obtain ⟨l, e, _⟩ := h; rw [e]; rfl
  | loc l => exact h.elim
theorem flatA_eqE {p a : A} {fp : List Nat} (h : VrE st p a fp) : flatA a = flatA p := by
  rcases h with h | ⟨_, _, e, e1, _⟩ | ⟨_, e, e1, _⟩
  · exact flatA_eq h
  · rw [e, e1]; rfl
  · rw [e, e1]
theorem allFlat : ∀ {ps as : List A} {fp : List Nat}, VrL st ps as fp → as.all flatA = ps.all flatA
  | [], _, _, h => by rw [h.1]
  | p :: ps, as, fp, ⟨a, r, f1, f2, e, e1, h1, h2⟩ => by rw [e, List.all_cons, List.all_cons, flatA_eq h1, allFlat h2]
theorem inA_pure {p q a b : A} {fa fb : List Nat} {c : Bool} (ra : VrE st p a fa) (rb : VrE st q b fb) (h : pInA p q = some c) : inA a b st = some c := by
  unfold pInA at h
  split at h
  · rename_i xs hx
    obtain ⟨ys, fq, h1, h2, h3⟩ := rb.seqOf hx
    unfold inA
    rw [h1]
    simp only
    rw [flatA_eqE ra, allFlat h2]
    split at h
    · rename_i hc
      rw [Bool.and_eq_true, Bool.and_eq_true, Bool.and_eq_true] at hc
      rw [(ra.dry hc.1.1.1).1, (h2.dry hc.1.1.2).1]
      rw [if_pos (by rw [hc.1.2, hc.2]; rfl)]
      exact h
    · split at h
      · cases h
      · rename_i hc
        rw [if_neg hc]
        split at h
        · rename_i d ds h4 h5
          rw [toD_pure ra h4, toD_pure rb h5]
          exact h
        · cases h
  · cases h
theorem of_in : Of2 opIn pIn := by
  intro st p q a b c fa fb s' ra rb h
  unfold pIn at h
  split at h
  · rename_i k hk
    cases h
    refine ⟨rfl, ?_⟩
    unfold opIn
    rw [inA_pure ra rb hk]
  · cases h
theorem of_notin : Of2 opNotIn pNotIn := by
  intro st p q a b c fa fb s' ra rb h
  unfold pNotIn at h
  split at h
  · rename_i k hk
    cases h
    refine ⟨rfl, ?_⟩
    unfold opNotIn
    rw [inA_pure ra rb hk]
  · cases h
/-! +, *, [] -/
theorem os_add : Os2 opAdd opAdd := by
  intro st p q a b c fa fb s' ra rb h
  unfold opAdd at h
  split at h
  · cases h
    rw [ra.int, rb.int]
    exact ⟨_, [], rfl, .inl ⟨rfl, rfl⟩, Sub.nil⟩
  · split at h
    · rename_i hc
      cases h
      rw [ra.str, rb.str]
      exact ⟨_, [], if_pos hc, .inl ⟨rfl, rfl⟩, Sub.nil⟩
    · cases h
  · split at h
    · rename_i hc
      cases h
      obtain ⟨as, e1, h1⟩ := ra.tup
      obtain ⟨bs, e2, h2⟩ := rb.tup
      subst e1 e2
      exact ⟨_, fa ++ fb, if_pos (by rw [h1.len, h2.len]; exact hc), .inl ⟨_, rfl, h1.append h2⟩, Sub.refl⟩
    · cases h
  · split at h
    · rename_i xs ys h1 h2
      split at h
      · rename_i hc
        cases h
        obtain ⟨as, f1, e1, r1, s1⟩ := ra.lstM h1
        obtain ⟨bs, f2, e2, r2, s2⟩ := rb.lstM h2
        refine ⟨.tmp (as ++ bs), f1 ++ f2, ?_, .inr (.inl ⟨_, _, rfl, rfl, r1.append r2⟩), ⟨fun l hl => ?_, fun nd => ?_⟩⟩
        · unfold opAdd
          split
          · cases e1
          · cases e1
          · cases e1
          · rw [e1, e2]
            exact if_pos (by rw [r1.len, r2.len]; exact hc)
        · rcases List.mem_append.mp hl with z | z
          · exact List.mem_append_left _ (s1.1 l z)
          · exact List.mem_append_right _ (s2.1 l z)
        · obtain ⟨n1, n2, n3⟩ := List.nodup_append.mp nd
          exact List.nodup_append.mpr ⟨s1.2 n1, s2.2 n2, fun x hx y hy => n3 x (s1.1 x hx) y (s2.1 y hy)⟩
      · cases h
    · cases h
def pMul : F2 := fun a b st => match a, b with
  | .int i, .int j => if CMulW i j then .ok (.int (i * j)) st else .no
  | .tup xs, .int k => if dryL xs = true ∧ xs.length ≠ 0 ∧ 1 ≤ k ∧ k ≤ 1000 ∧ xs.length ≤ 1000 then .ok (.tup (List.replicate k.toNat xs).flatten) st else .no
  | .tmp xs, .int k => if dryL xs = true ∧ -(2 ^ 63) ≤ k ∧ k < 2 ^ 63 ∧ xs.length * k.toNat ≤ sizeLine then .ok (.tmp (List.replicate k.toNat xs).flatten) st else .no
  | _, _ => .no
theorem dryL_rep {xs : List A} (h : dryL xs = true) : ∀ n, dryL (List.replicate n xs).flatten = true
  | 0 => rfl
  | n + 1 => by rw [List.replicate_succ, List.flatten_cons]; exact dryL_append h (dryL_rep h n)
theorem os_mul : Os2 opMul pMul := by
  intro st p q a b c fa fb s' ra rb h
  unfold pMul at h
  split at h
  · split at h
    · rename_i hc
      cases h
      rw [ra.int, rb.int]
      exact ⟨_, [], if_pos hc, .inl ⟨rfl, rfl⟩, Sub.nil⟩
    · cases h
  · split at h
    · rename_i hc
      cases h
      obtain ⟨as, e1, r1⟩ := ra.tup
      subst e1
      obtain ⟨e2, e3⟩ := r1.dry hc.1
      subst e2
      rw [rb.int]
      exact ⟨_, [], if_pos hc.2, .inl (Vr.of_dry (show dryL _ = true from dryL_rep hc.1 _)), Sub.nil⟩
    · cases h
  · rename_i xs k
    split at h
    · rename_i hc
      cases h
      obtain ⟨as, f1, e1, r1, s1⟩ := ra.lstM (xs := xs) rfl
      rw [rb.int]
      obtain ⟨e2, e3⟩ := r1.dry hc.1
      subst e2
      refine ⟨.tmp (List.replicate k.toNat as).flatten, [], ?_, .inr (.inl ⟨_, _, rfl, rfl, VrL.of_dry (dryL_rep hc.1 _)⟩), Sub.nil⟩
      unfold opMul
      split
      · cases e1
      · cases e1
      · rename_i hk; cases hk
        rw [e1]
        exact if_pos hc.2
      · rename_i hk _ _; exact (hk _ rfl).elim
    · cases h
  · cases h
theorem VrL.at {xs ys : List A} {fp : List Nat} {i : Int} {p : A} (h : VrL st xs ys fp) (e : atI xs i = some p) : ∃ a fq, atI ys i = some a ∧ Vr st p a fq ∧ Sub fq fp := by
  unfold atI at e ⊢
  rw [h.len]
  obtain ⟨k, h1, h2⟩ := Option.bind_eq_some_iff.mp e
  rw [h1]
  obtain ⟨a, fq, h3, h4, h5⟩ := h.get h2
  exact ⟨a, fq, h3, h4, h5⟩
theorem os_ix : Os2 opIx opIx := by
  intro st p q a b c fa fb s' ra rb h
  unfold opIx at h
  split at h
  · split at h
    · rename_i hc
      split at h
      · rename_i cc h2
        cases h
        rw [ra.str, rb.int]
        refine ⟨.str ⟨#[cc]⟩, [], ?_, .inl ⟨rfl, rfl⟩, Sub.nil⟩
        unfold opIx
        simp only
        rw [if_pos hc, h2]
      · cases h
    · cases h
  · rename_i i hn
    split at h
    · rename_i xs h1
      split at h
      · rename_i x h2
        cases h
        obtain ⟨ys, fq, h3, h4, h5⟩ := ra.seqOf h1
        obtain ⟨r, fr, h6, h7, h8⟩ := h4.at h2
        rw [rb.int]
        refine ⟨r, fr, ?_, .inl h7, ⟨fun l hl => List.mem_append_left _ (h5.1 l (h8.1 l hl)), fun nd => h8.2 (h5.2 (List.nodup_append.mp nd).1)⟩⟩
        unfold opIx
        split
        · rename_i z _ e
          exact (hn _ (ra.nstr rfl)).elim
        · rename_i e
          cases e
          rw [h3]
          simp only
          rw [h6]
        · rename_i h9 _; exact (h9 _ rfl).elim
      · cases h
    · cases h
  · cases h
/-! builtins -/
theorem VrEL.one {ps as : List A} {fp : List Nat} {p : A} (h : VrEL st ps as fp) (e : ps = [p]) : ∃ a, as = [a] ∧ VrE st p a fp := by
  subst e
  cases h with
  | cons h1 h2 =>
    cases h2
    exact ⟨_, rfl, by rw [List.append_nil]; exact h1⟩
theorem VrEL.two {ps as : List A} {fp : List Nat} {p q : A} (h : VrEL st ps as fp) (e : ps = [p, q]) : ∃ a b f g, as = [a, b] ∧ VrE st p a f ∧ VrE st q b g := by
  subst e
  cases h with
  | cons h1 h2 =>
    cases h2 with
    | cons h3 h4 =>
      cases h4
      exact ⟨_, _, _, _, rfl, h1, h3⟩
theorem of_len : OfN bLen bLen := by
  intro st ps as c fa s' r h
  unfold bLen at h
  split at h
  · split at h
    · rename_i hc
      cases h
      obtain ⟨a, e, h1⟩ := r.one rfl
      rw [e, h1.str]
      exact ⟨rfl, if_pos hc⟩
    · cases h
  · rename_i hn
    split at h
    · rename_i xs h1
      cases h
      obtain ⟨a, e, h2⟩ := r.one rfl
      obtain ⟨ys, fq, h3, h4, h5⟩ := h2.seqOf h1
      rw [e, ← h4.len]
      refine ⟨rfl, ?_⟩
      unfold bLen
      split
      · rename_i e; cases e; exact (hn _ (h2.nstr rfl)).elim
      · rename_i e; cases e
        rw [h3]
      · rename_i h9; exact (h9 _ rfl).elim
    · cases h
  · cases h
theorem of_abs : OfN bAbs bAbs := by
  intro st ps as c fa s' r h
  unfold bAbs at h
  split at h
  · cases h
    obtain ⟨a, e, h1⟩ := r.one rfl
    rw [e, h1.int]
    exact ⟨rfl, rfl⟩
  · cases h
theorem of_bint : OfN bInt bInt := by
  intro st ps as c fa s' r h
  unfold bInt at h
  split at h
  · cases h
    obtain ⟨a, e, h1⟩ := r.one rfl
    rw [e, h1.int]
    exact ⟨rfl, rfl⟩
  · cases h
    obtain ⟨a, e, h1⟩ := r.one rfl
    rw [e, h1.bl]
    exact ⟨rfl, rfl⟩
  · cases h
theorem os_tup : OsN bTup bTup := by
  intro st ps as c fa s' r h
  unfold bTup at h
  split at h
  · cases h
    obtain ⟨a, e, h1⟩ := r.one rfl
    obtain ⟨bs, e1, h2⟩ := h1.tup
    rw [e, e1]
    exact ⟨_, fa, rfl, .inl ⟨_, rfl, h2⟩, Sub.refl⟩
  · rename_i hn
    split at h
    · rename_i xs h1
      cases h
      obtain ⟨a, e, h2⟩ := r.one rfl
      obtain ⟨ys, fq, h3, h4, h5⟩ := h2.lstOf h1
      rw [e]
      refine ⟨.tup ys, fq, ?_, .inl ⟨_, rfl, h4⟩, h5⟩
      unfold bTup
      split
      · rename_i e; cases e; cases h3
      · rename_i e; cases e
        rw [h3]
      · rename_i h9; exact (h9 _ rfl).elim
    · cases h
  · cases h
theorem os_lst : OsN bLst bLst := by
  intro st ps as c fa s' r h
  unfold bLst at h
  split at h
  · split at h
    · rename_i xs h1
      cases h
      obtain ⟨a, e, h2⟩ := r.one rfl
      obtain ⟨ys, fq, h3, h4, h5⟩ := h2.seqOf h1
      rw [e]
      refine ⟨.tmp ys, fq, ?_, .inr (.inl ⟨_, _, rfl, rfl, h4⟩), h5⟩
      unfold bLst
      simp only
      rw [h3]
    · cases h
  · cases h
theorem of_sum : OfN bSum bSum := by
  intro st ps as c fa s' r h
  unfold bSum at h
  split at h
  · split at h
    · rename_i xs h1
      split at h
      · rename_i ns h6
        cases h
        obtain ⟨a, e, h2⟩ := r.one rfl
        obtain ⟨ys, fq, h3, h4, h5⟩ := h2.seqOf h1
        obtain ⟨e2, _⟩ := h4.dry (dry_of_ints h6)
        subst e2
        rw [e]
        refine ⟨rfl, ?_⟩
        unfold bSum
        simp only
        rw [h3]
        simp only
        rw [h6]
      · cases h
    · cases h
  · cases h
theorem os_srt : OsN bSrt bSrt := by
  intro st ps as c fa s' r h
  unfold bSrt at h
  split at h
  · split at h
    · rename_i xs h1
      split at h
      · rename_i ns h6
        cases h
        obtain ⟨a, e, h2⟩ := r.one rfl
        obtain ⟨ys, fq, h3, h4, h5⟩ := h2.seqOf h1
        obtain ⟨e2, _⟩ := h4.dry (dry_of_ints h6)
        subst e2
        rw [e]
        refine ⟨.tmp ((srtI ns).map A.int), [], ?_, .inr (.inl ⟨_, _, rfl, rfl, VrL.of_dry (dryL_ints _)⟩), Sub.nil⟩
        unfold bSrt
        simp only
        rw [h3]
        simp only
        rw [h6]
      · cases h
    · cases h
  · cases h
theorem of_min : OfN bMin bMin := by
  intro st ps as c fa s' r h
  unfold bMin at h
  split at h
  · cases h
    obtain ⟨a, b, f, g, e, h1, h2⟩ := r.two rfl
    rw [e, h1.int, h2.int]
    exact ⟨rfl, rfl⟩
  · split at h
    · rename_i xs h1
      split at h
      · rename_i ns h6
        split at h
        · rename_i m h7
          cases h
          obtain ⟨a, e, h2⟩ := r.one rfl
          obtain ⟨ys, fq, h3, h4, h5⟩ := h2.lstOf h1
          obtain ⟨e2, _⟩ := h4.dry (dry_of_ints h6)
          subst e2
          rw [e]
          refine ⟨rfl, ?_⟩
          unfold bMin
          simp only
          rw [h3]
          simp only
          rw [h6]
          simp only
          rw [h7]
        · cases h
      · cases h
    · cases h
  · cases h
theorem of_max : OfN bMax bMax := by
  intro st ps as c fa s' r h
  unfold bMax at h
  split at h
  · cases h
    obtain ⟨a, b, f, g, e, h1, h2⟩ := r.two rfl
    rw [e, h1.int, h2.int]
    exact ⟨rfl, rfl⟩
  · split at h
    · rename_i xs h1
      split at h
      · rename_i ns h6
        split at h
        · rename_i m h7
          cases h
          obtain ⟨a, e, h2⟩ := r.one rfl
          obtain ⟨ys, fq, h3, h4, h5⟩ := h2.lstOf h1
          obtain ⟨e2, _⟩ := h4.dry (dry_of_ints h6)
          subst e2
          rw [e]
          refine ⟨rfl, ?_⟩
          unfold bMax
          simp only
          rw [h3]
          simp only
          rw [h6]
          simp only
          rw [h7]
        · cases h
      · cases h
    · cases h
  · cases h
theorem of_maxT : OfN bMaxT bMaxT := by
  intro st ps as c fa s' r h
  unfold bMaxT at h
  split at h
  · split at h
    · rename_i xs n rr h1
      cases h
      obtain ⟨a, e, h2⟩ := r.one rfl
      obtain ⟨bs, e1, h3⟩ := h2.tup
      obtain ⟨e2, _⟩ := h3.dry (dry_of_ints h1)
      rw [e, e1, e2]
      refine ⟨rfl, ?_⟩
      unfold bMaxT
      simp only
      rw [h1]
    · cases h
  · cases h
open Classical in
noncomputable def pRepr : FN := fun as st => match as with
  | [a] => (match dP a with
    | some d => if ReprOk d then .ok (.str d.shown) st else .no
    | none => .no)
  | _ => .no
theorem of_repr : OfN bRepr pRepr := by
  intro st ps as c fa s' r h
  unfold pRepr at h
  split at h
  · split at h
    · rename_i d h1
      split at h
      · rename_i hc
        cases h
        obtain ⟨a, e, h2⟩ := r.one rfl
        rw [e]
        refine ⟨rfl, ?_⟩
        unfold bRepr
        simp only
        rw [toD_pure h2 h1]
        exact if_pos hc
      · cases h
    · cases h
  · cases h
theorem of_lenD : OfN bLenD bLenD := by
  intro st ps as c fa s' r h
  unfold bLenD at h
  split at h
  · split at h
    · rename_i kvs h1
      cases h
      obtain ⟨a, e, h2⟩ := r.one rfl
      rw [e]
      refine ⟨rfl, ?_⟩
      unfold bLenD
      simp only
      rw [(h2.dicOf h1).1]
    · cases h
  · cases h
theorem ob_tup : ObN mkTup mkTup := by
  intro st ps as c fa s' r h
  unfold mkTup at h
  split at h
  · rename_i hc
    cases h
    exact ⟨_, fa, if_pos (by rw [r.len]; exact hc), .inl ⟨_, rfl, r⟩, Sub.refl⟩
  · cases h
theorem ob_lst : ObN mkLst mkLst := by
  intro st ps as c fa s' r h
  unfold mkLst at h
  split at h
  · rename_i hc
    cases h
    exact ⟨_, fa, if_pos (by rw [r.len]; exact hc), .inr (.inl ⟨_, _, rfl, rfl, r⟩), Sub.refl⟩
  · cases h
/-! truth, types -/
theorem VrL.emp {ps as : List A} {fp : List Nat} (h : VrL st ps as fp) : as.isEmpty = ps.isEmpty := by
  have := h.len
  cases ps <;> cases as <;> first | rfl | simp at this
theorem VrE.cases {p a : A} {fp : List Nat} (h : VrE st p a fp) : (p.dry = true ∧ a = p) ∨ (∃ xs, p = .frz xs ∧ a = .frz xs) ∨ (∃ ps as, p = .tup ps ∧ a = .tup as ∧ VrL st ps as fp) ∨ (∃ x y x' y', p = .pr x y ∧ a = .pr x' y') ∨
    (∃ ps as, p = .tmp ps ∧ a = .tmp as ∧ VrL st ps as fp) ∨ (∃ ps l as fq, p = .tmp ps ∧ a = .loc l ∧ st[l]? = some (.lst as) ∧ VrL st ps as fq) ∨ (∃ kvs, p = .dtm kvs ∧ a = .dtm kvs) ∨ (∃ kvs l, p = .dtm kvs ∧ a = .loc l ∧ st[l]? = some (.dic kvs)) := by
  cases p with
  | non => exact .inl ⟨rfl, (h.dry rfl).1⟩
  | bl _ => exact .inl ⟨rfl, (h.dry rfl).1⟩
  | int _ => exact .inl ⟨rfl, (h.dry rfl).1⟩
  | str _ => exact .inl ⟨rfl, (h.dry rfl).1⟩
  | tup ps =>
    obtain ⟨as, e1, r⟩ := h.tup
    exact .inr (.inr (.inl ⟨ps, as, rfl, e1, r⟩))
  | pr x y =>
    rcases h with ⟨_, _, _, _, e1, _⟩ | ⟨_, _, e1, _⟩ | ⟨_, e1, _⟩
    · exact .inr (.inr (.inr (.inl ⟨_, _, _, _, rfl, e1⟩)))
    · cases e1
    · cases e1
  | tmp ps =>
    rcases h with ⟨l, as, fq, e1, e2, e3, r⟩ | ⟨_, as, e1, e2, r⟩ | ⟨_, e1, _⟩
    · exact .inr (.inr (.inr (.inr (.inr (.inl ⟨ps, l, as, fq, rfl, e1, e2, r⟩)))))
    · cases e1
      exact .inr (.inr (.inr (.inr (.inl ⟨ps, as, rfl, e2, r⟩))))
    · cases e1
  | frz ps =>
    rcases h with ⟨e1, _⟩ | ⟨_, _, e1, _⟩ | ⟨_, e1, _⟩
    · exact .inr (.inl ⟨ps, rfl, e1⟩)
    · cases e1
    · cases e1
  | dtm ps =>
    rcases h with ⟨l, e1, e2, _⟩ | ⟨_, _, e1, _⟩ | ⟨_, e1, e2, _⟩
    · exact .inr (.inr (.inr (.inr (.inr (.inr (.inr ⟨ps, l, rfl, e1, e2⟩))))))
    · cases e1
    · cases e1
      exact .inr (.inr (.inr (.inr (.inr (.inr (.inl ⟨ps, rfl, e2⟩))))))
  | loc l =>
    rcases h with h | ⟨_, _, e1, _⟩ | ⟨_, e1, _⟩
    · exact h.elim
    · cases e1
    · cases e1
theorem tru_pure {p a : A} {fp : List Nat} {k : Bool} (h : VrE st p a fp) (e : tru p [] = some k) : tru a st = some k := by
  rcases h.cases with ⟨hd, h⟩ | ⟨xs, rfl, rfl⟩ | ⟨ps, as, rfl, rfl, r⟩ | ⟨_, _, _, _, rfl, rfl⟩ | ⟨ps, as, rfl, rfl, r⟩ | ⟨ps, l, as, fq, rfl, rfl, e1, r⟩ | ⟨kvs, rfl, rfl⟩ | ⟨kvs, l, rfl, rfl, e1⟩
  · subst h
    cases a <;> first | exact e | cases hd
  · exact e
  · cases e
    show some (!as.isEmpty) = _
    rw [r.emp]
  · exact e
  · cases e
    show some (!as.isEmpty) = _
    rw [r.emp]
  · cases e
    unfold tru
    simp only [e1, r.emp]
  · exact e
  · cases e
    unfold tru
    simp only [e1]
theorem ty_pure {p a : A} {fp : List Nat} {k : Ty} (h : VrE st p a fp) (e : tyA p [] = some k) : tyA a st = some k := by
  rcases h.cases with ⟨hd, h⟩ | ⟨xs, rfl, rfl⟩ | ⟨ps, as, rfl, rfl, r⟩ | ⟨_, _, _, _, rfl, rfl⟩ | ⟨ps, as, rfl, rfl, r⟩ | ⟨ps, l, as, fq, rfl, rfl, e1, r⟩ | ⟨kvs, rfl, rfl⟩ | ⟨kvs, l, rfl, rfl, e1⟩
  · subst h
    cases a <;> first | exact e | cases hd
  · exact e
  · exact e
  · exact e
  · exact e
  · cases e
    unfold tyA
    simp only [e1]
  · exact e
  · cases e
    unfold tyA
    simp only [e1]
/-! dicts -/
theorem key_pure {p a : A} {fp : List Nat} {k : Key} (h : VrE st p a fp) (e : keyOf p = some k) : keyOf a = some k := by
  cases p with
  | int _ => rw [h.int]; exact e
  | str _ => rw [h.str]; exact e
  | _ => cases e
theorem get_pure {p q a b : A} {fa fb : List Nat} {o : Option A} (h : VrE st p a fa) (h2 : VrE st q b fb) (e : getA p q [] = some o) : getA a b st = some o ∧ (∀ x, o = some x → x.dry = true) := by
  unfold getA at e
  split at e
  · rename_i kvs k h3 h4
    cases e
    obtain ⟨h5, h6⟩ := h.dicOf h3
    unfold getA
    rw [h5, key_pure h2 h4]
    refine ⟨rfl, fun x hx => ?_⟩
    unfold valA at hx
    obtain ⟨kv, h7, rfl⟩ := Option.map_eq_some_iff.mp hx
    have := List.mem_of_find?_eq_some h7
    clear h7 hx h5 h3 h4
    induction kvs with
    | nil => cases this
    | cons y r ih =>
      have h6' : (y.2.dry && dryD r) = true := by obtain ⟨k, v⟩ := y; exact h6
      rw [Bool.and_eq_true] at h6'
      rcases List.mem_cons.mp this with e | e
      · rw [e]; exact h6'.1
      · exact ih h6'.2 e
  · cases e
theorem of_dget : Of2 opDGet opDGet := by
  intro st p q a b c fa fb s' ra rb h
  unfold opDGet at h
  split at h
  · rename_i x h1
    cases h
    obtain ⟨h2, h3⟩ := get_pure ra rb h1
    refine ⟨h3 _ rfl, ?_⟩
    unfold opDGet
    rw [h2]
  · cases h
end
end Vs
/-! tests, and what else stands in expressions -/
namespace Vs
open PySem PySem.Spec PyProof.Rows L2 Gd Ev
section
variable {S S0 S1 S2 S3 T T0 T1 T2 T3 : List Nat} {st st' st1 st2 : Sto} {F F' F1 F2 : Fp}
def qB (g : VE) : VT := fun e => match g e with
  | some (.bl b, e1) => some (b, e1)
  | _ => none
theorem s_uB {f : FE} {g : VE} (h : SE S T f g) : ST T (uB f) (qB g) := by
  intro st ρ e F b e' E q
  unfold qB at q
  split at q
  · rename_i b1 e1 h1
    cases q
    obtain ⟨a, st1, F1, fa, a1, E1, x1, r1, k1⟩ := h E h1
    exact ⟨st1, F1, by unfold uB; rw [a1, r1.bl], E1, x1⟩
  · cases q
def qT (g : VE) : VT := fun e => match g e with
  | some (p, e1) => (match tru p [] with
    | some b => some (b, e1)
    | none => none)
  | none => none
theorem s_uT {f : FE} {g : VE} (h : SE S T f g) : ST T (uT f) (qT g) := by
  intro st ρ e F b e' E q
  unfold qT at q
  split at q
  · rename_i p1 e1 h1
    split at q
    · rename_i b1 h2
      cases q
      obtain ⟨a, st1, F1, fa, a1, E1, x1, r1, k1⟩ := h E h1
      exact ⟨st1, F1, by unfold uT; rw [a1]; simp only; rw [tru_pure r1 h2], E1, x1⟩
    · cases q
  · cases q
def qNot (u : VT) : VT := fun e => match u e with
  | some (b, e1) => some (!b, e1)
  | none => none
theorem s_uNot {f : FT} {g : VT} (h : ST T f g) : ST T (uNot f) (qNot g) := by
  intro st ρ e F b e' E q
  unfold qNot at q
  split at q
  · rename_i b1 e1 h1
    cases q
    obtain ⟨st1, F1, a1, E1, x1⟩ := h E h1
    exact ⟨st1, F1, by unfold uNot; rw [a1], E1, x1⟩
  · cases q
theorem Stp.inl (h : Stp T1 st F st' F') : Stp (T1 ++ T2) st F st' F' := h.mono fun i hi => List.mem_append_left _ hi
theorem Stp.inr (h : Stp T2 st F st' F') : Stp (T1 ++ T2) st F st' F' := h.mono fun i hi => List.mem_append_right _ hi
def qAnd (u v : VT) : VT := fun e => match u e with
  | some (true, e1) => v e1
  | some (false, e1) => some (false, e1)
  | none => none
theorem s_uAnd {f f' : FT} {g g' : VT} (h : ST T1 f g) (h' : ST T2 f' g') : ST (T1 ++ T2) (uAnd f f') (qAnd g g') := by
  intro st ρ e F b e' E q
  unfold qAnd at q
  split at q
  · rename_i e1 h1
    obtain ⟨st1, F1, a1, E1, x1⟩ := h E h1
    obtain ⟨st2, F2, a2, E2, x2⟩ := h' E1 q
    exact ⟨st2, F2, by unfold uAnd; rw [a1]; exact a2, E2, x1.trans x2⟩
  · rename_i e1 h1
    cases q
    obtain ⟨st1, F1, a1, E1, x1⟩ := h E h1
    exact ⟨st1, F1, by unfold uAnd; rw [a1], E1, x1.inl⟩
  · cases q
def qOr (u v : VT) : VT := fun e => match u e with
  | some (true, e1) => some (true, e1)
  | some (false, e1) => v e1
  | none => none
theorem s_uOr {f f' : FT} {g g' : VT} (h : ST T1 f g) (h' : ST T2 f' g') : ST (T1 ++ T2) (uOr f f') (qOr g g') := by
  intro st ρ e F b e' E q
  unfold qOr at q
  split at q
  · rename_i e1 h1
    cases q
    obtain ⟨st1, F1, a1, E1, x1⟩ := h E h1
    exact ⟨st1, F1, by unfold uOr; rw [a1], E1, x1.inl⟩
  · rename_i e1 h1
    obtain ⟨st1, F1, a1, E1, x1⟩ := h E h1
    obtain ⟨st2, F2, a2, E2, x2⟩ := h' E1 q
    exact ⟨st2, F2, by unfold uOr; rw [a1]; exact a2, E2, x1.trans x2⟩
  · cases q
def vIf (u : VT) (g h : VE) : VE := fun e => match u e with
  | some (true, e1) => g e1
  | some (false, e1) => h e1
  | none => none
theorem Fro.inT (h : Fro S T1 st F F' fa) : Fro S (T1 ++ T2) st F F' fa := h.weak (fun _ h => h) id fun i hi => List.mem_append_left _ hi
theorem s_fIf {u : FT} {w : VT} {f f' : FE} {g g' : VE} (h : ST T0 u w) (h1 : SE S1 T1 f g) (h2 : SE S2 T2 f' g') : SE (S1 ++ S2) (T0 ++ (T1 ++ T2)) (fIf u f f') (vIf w g g') := by
  intro st ρ e F p e' E q
  unfold vIf at q
  split at q
  · rename_i e1 h3
    obtain ⟨st1, F1, a1, E1, x1⟩ := h E h3
    obtain ⟨a, st2, F2, fa, a2, E2, x2, r2, k2⟩ := h1 E1 q
    refine ⟨a, st2, F2, fa, by unfold fIf; rw [a1]; exact a2, E2, x1.trans x2.inl, r2, ?_⟩
    exact ((k2.weak (T2 := T1 ++ T2) (S' := S1 ++ S2) (fun i hi => List.mem_append_left _ hi) (fun z => (List.append_eq_nil_iff.mp z).1) fun i hi => List.mem_append_left _ hi).from x1)
  · rename_i e1 h3
    obtain ⟨st1, F1, a1, E1, x1⟩ := h E h3
    obtain ⟨a, st2, F2, fa, a2, E2, x2, r2, k2⟩ := h2 E1 q
    refine ⟨a, st2, F2, fa, by unfold fIf; rw [a1]; exact a2, E2, x1.trans x2.inr, r2, ?_⟩
    exact ((k2.weak (T2 := T1 ++ T2) (S' := S1 ++ S2) (fun i hi => List.mem_append_right _ hi) (fun z => (List.append_eq_nil_iff.mp z).2) fun i hi => List.mem_append_right _ hi).from x1)
  · cases q
def vAnd (g h : VE) : VE := fun e => match g e with
  | some (.bl true, e1) => h e1
  | some (.bl false, e1) => some (.bl false, e1)
  | _ => none
theorem s_fAnd {f f' : FE} {g g' : VE} (h1 : SE S1 T1 f g) (h2 : SE S2 T2 f' g') : SE S2 (T1 ++ T2) (fAnd f f') (vAnd g g') := by
  intro st ρ e F p e' E q
  unfold vAnd at q
  split at q
  · rename_i e1 h3
    obtain ⟨a, st1, F1, fa, a1, E1, x1, r1, k1⟩ := h1 E h3
    obtain ⟨b, st2, F2, fb, a2, E2, x2, r2, k2⟩ := h2 E1 q
    exact ⟨b, st2, F2, fb, by unfold fAnd; rw [a1, r1.bl]; exact a2, E2, x1.trans x2, r2, k2.from x1⟩
  · rename_i e1 h3
    cases q
    obtain ⟨a, st1, F1, fa, a1, E1, x1, r1, k1⟩ := h1 E h3
    exact ⟨.bl false, st1, F1, [], by unfold fAnd; rw [a1, r1.bl], E1, x1.inl, .inl ⟨rfl, rfl⟩, Fro.nil⟩
  · cases q
def vOr (g h : VE) : VE := fun e => match g e with
  | some (.bl true, e1) => some (.bl true, e1)
  | some (.bl false, e1) => h e1
  | _ => none
theorem s_fOr {f f' : FE} {g g' : VE} (h1 : SE S1 T1 f g) (h2 : SE S2 T2 f' g') : SE S2 (T1 ++ T2) (fOr f f') (vOr g g') := by
  intro st ρ e F p e' E q
  unfold vOr at q
  split at q
  · rename_i e1 h3
    cases q
    obtain ⟨a, st1, F1, fa, a1, E1, x1, r1, k1⟩ := h1 E h3
    exact ⟨.bl true, st1, F1, [], by unfold fOr; rw [a1, r1.bl], E1, x1.inl, .inl ⟨rfl, rfl⟩, Fro.nil⟩
  · rename_i e1 h3
    obtain ⟨a, st1, F1, fa, a1, E1, x1, r1, k1⟩ := h1 E h3
    obtain ⟨b, st2, F2, fb, a2, E2, x2, r2, k2⟩ := h2 E1 q
    exact ⟨b, st2, F2, fb, by unfold fOr; rw [a1, r1.bl]; exact a2, E2, x1.trans x2, r2, k2.from x1⟩
  · cases q
def vNot (g : VE) : VE := fun e => match g e with
  | some (.bl b, e1) => some (.bl (!b), e1)
  | _ => none
theorem s_fNot {f : FE} {g : VE} (h : SE S T f g) : SE [] T (fNot f) (vNot g) := by
  intro st ρ e F p e' E q
  unfold vNot at q
  split at q
  · rename_i b1 e1 h1
    cases q
    obtain ⟨a, st1, F1, fa, a1, E1, x1, r1, k1⟩ := h E h1
    exact ⟨_, st1, F1, [], by unfold fNot; rw [a1, r1.bl], E1, x1, .inl ⟨rfl, rfl⟩, Fro.nil⟩
  · cases q
def vNeg (g : VE) : VE := fun e => match g e with
  | some (.int b, e1) => some (.int (-b), e1)
  | _ => none
theorem s_fNeg {f : FE} {g : VE} (h : SE S T f g) : SE [] T (fNeg f) (vNeg g) := by
  intro st ρ e F p e' E q
  unfold vNeg at q
  split at q
  · rename_i b1 e1 h1
    cases q
    obtain ⟨a, st1, F1, fa, a1, E1, x1, r1, k1⟩ := h E h1
    exact ⟨_, st1, F1, [], by unfold fNeg; rw [a1, r1.int], E1, x1, .inl ⟨rfl, rfl⟩, Fro.nil⟩
  · cases q
def vIsi (t : Ty) (g : VE) : VE := fun e => match g e with
  | some (p, e1) => (match tyA p [] with
    | some k => some (.bl (k.is t), e1)
    | none => none)
  | none => none
theorem s_fIsi {t : Ty} {f : FE} {g : VE} (h : SE S T f g) : SE [] T (fIsi t f) (vIsi t g) := by
  intro st ρ e F p e' E q
  unfold vIsi at q
  split at q
  · rename_i p1 e1 h1
    split at q
    · rename_i k h2
      cases q
      obtain ⟨a, st1, F1, fa, a1, E1, x1, r1, k1⟩ := h E h1
      exact ⟨_, st1, F1, [], by unfold fIsi; rw [a1]; simp only; rw [ty_pure r1 h2], E1, x1, .inl ⟨rfl, rfl⟩, Fro.nil⟩
    · cases q
  · cases q
def vChain (g h : Ev.F2) (ga gb gc : VE) : VE := fun e => match ga e with
  | some (p, e1) => (match gb e1 with
    | some (q, e2) => (match g p q [] with
      | .ok (.bl true) _ => (match gc e2 with
        | some (r, e3) => (match h q r [] with
          | .ok c _ => some (c, e3)
          | .no => none)
        | none => none)
      | .ok (.bl false) _ => some (.bl false, e2)
      | _ => none)
    | none => none)
  | none => none
theorem s_chain {g h g' h' : Ev.F2} {fa fb fc : FE} {ga gb gc : VE} (hg : Of2 g g') (hh : Of2 h h') (ha : SE S1 T1 fa ga) (hb : SE S2 T2 fb gb) (hc : SE S3 T3 fc gc) (d1 : dsj S1 T2 = true := by rfl) (d2 : dsj S2 T3 = true := by rfl) :
    SE [] (T1 ++ (T2 ++ T3)) (fChain g h fa fb fc) (vChain g' h' ga gb gc) := by
  intro st ρ e F p e' E q
  unfold vChain at q
  split at q
  · rename_i p1 e1 h1
    obtain ⟨a, st1, F1, fa1, a1, E1, x1, r1, k1⟩ := ha E h1
    split at q
    · rename_i p2 e2 h2
      obtain ⟨b, st2, F2, fb1, a2, E2, x2, r2, k2⟩ := hb E1 h2
      obtain ⟨u, _⟩ := k1.later r1.lt E1 x2 d1
      split at q
      · rename_i h3
        obtain ⟨_, h4⟩ := hg (r1.mono u) r2 h3
        split at q
        · rename_i p3 e3 h5
          obtain ⟨c, st3, F3, fc1, a3, E3, x3, r3, k3⟩ := hc E2 h5
          obtain ⟨u2, _⟩ := k2.later r2.lt E2 x3 d2
          split at q
          · rename_i c' s' h6
            cases q
            obtain ⟨h7, h8⟩ := hh (r2.mono u2) r3 h6
            exact ⟨_, st3, F3, [], by unfold fChain; rw [a1]; simp only; rw [a2]; simp only; rw [h4]; simp only; rw [a3]; exact h8, E3, x1.trans (x2.trans x3), .inl (Vr.of_dry h7), Fro.nil⟩
          · cases q
        · cases q
      · rename_i h3
        cases q
        obtain ⟨_, h4⟩ := hg (r1.mono u) r2 h3
        exact ⟨.bl false, st2, F2, [], by unfold fChain; rw [a1]; simp only; rw [a2]; simp only; rw [h4], E2, x1.trans x2.inl, .inl ⟨rfl, rfl⟩, Fro.nil⟩
      · cases q
    · cases q
  · cases q
/-! slices -/
abbrev VO := PEnv → Option (Option Int × PEnv)
def SO (T : List Nat) (f : FO) (g : VO) : Prop := ∀ {st : Sto} {ρ : Rho} {e : PEnv} {F : Fp} {b : Option Int} {e' : PEnv}, ER st ρ e F → g e = some (b, e') →
  ∃ st' F', f ρ st = .ok b st' ∧ ER st' ρ e' F' ∧ Stp T st F st' F'
def voN : VO := fun e => some (none, e)
theorem s_oN : SO [] oN voN := by
  intro st ρ e F b e' E q
  cases q
  exact ⟨st, F, rfl, E, Stp.refl⟩
def voS (g : VE) : VO := fun e => match g e with
  | some (.int i, e1) => some (some i, e1)
  | _ => none
theorem s_oS {f : FE} {g : VE} (h : SE S T f g) : SO T (oS f) (voS g) := by
  intro st ρ e F b e' E q
  unfold voS at q
  split at q
  · rename_i i e1 h1
    cases q
    obtain ⟨a, st1, F1, fa, a1, E1, x1, r1, k1⟩ := h E h1
    exact ⟨st1, F1, by unfold oS; rw [a1, r1.int], E1, x1⟩
  · cases q
def pCut (p : A) (lo hi : Option Int) : Option A := match p with
  | .str z => if z.length ≤ sizeLine then some (.str (cutS z lo hi)) else none
  | .tup xs => if dryL xs = true then some (.tup (cutA xs lo hi)) else none
  | .tmp xs => if dryL xs = true then some (.tmp (cutA xs lo hi)) else none
  | .frz xs => if dryL xs = true then some (.tmp (cutA xs lo hi)) else none
  | _ => none
theorem dryL_sub : ∀ {xs ys : List A}, dryL xs = true → (∀ y ∈ ys, y ∈ xs) → dryL ys = true
  | xs, [], _, _ => rfl
  | xs, y :: ys, h, s => by
    show (y.dry && dryL ys) = true
    rw [Bool.and_eq_true]
    refine ⟨?_, dryL_sub h fun z hz => s z (List.mem_cons_of_mem _ hz)⟩
    have hy := s y List.mem_cons_self
    clear s
    induction xs with
    | nil => cases hy
    | cons x xs ih =>
      have h' : (x.dry && dryL xs) = true := h
      rw [Bool.and_eq_true] at h'
      rcases List.mem_cons.mp hy with e | e
      · rw [e]; exact h'.1
      · exact ih h'.2 e
theorem dryL_cut {xs : List A} {lo hi : Option Int} (h : dryL xs = true) : dryL (cutA xs lo hi) = true := dryL_sub h fun y hy => List.mem_of_mem_drop (List.mem_of_mem_take hy)
theorem cut_pure {p a c : A} {fp : List Nat} {lo hi : Option Int} (r : VrE st p a fp) (h : pCut p lo hi = some c) : cut a lo hi st = .ok c st ∧ VrE st c c [] := by
  unfold pCut at h
  split at h
  · split at h
    · rename_i hc
      cases h
      rw [r.str]
      exact ⟨if_pos hc, .inl ⟨rfl, rfl⟩⟩
    · cases h
  · split at h
    · rename_i hc
      cases h
      obtain ⟨as, e, h1⟩ := r.tup
      obtain ⟨e2, _⟩ := h1.dry hc
      subst e e2
      exact ⟨rfl, .inl (Vr.of_dry (show dryL _ = true from dryL_cut hc))⟩
    · cases h
  · rename_i xs
    split at h
    · rename_i hc
      cases h
      obtain ⟨as, fq, h1, h2, _⟩ := r.lstOf (xs := xs) rfl
      obtain ⟨e2, _⟩ := h2.dry hc
      subst e2
      refine ⟨?_, .inr (.inl ⟨_, _, rfl, rfl, VrL.of_dry (dryL_cut hc)⟩)⟩
      unfold cut
      split
      · cases h1
      · cases h1
      · rw [h1]
    · cases h
  · rename_i xs
    split at h
    · rename_i hc
      cases h
      obtain ⟨as, fq, h1, h2, _⟩ := r.lstOf (xs := xs) rfl
      obtain ⟨e2, _⟩ := h2.dry hc
      subst e2
      refine ⟨?_, .inr (.inl ⟨_, _, rfl, rfl, VrL.of_dry (dryL_cut hc)⟩)⟩
      unfold cut
      split
      · cases h1
      · cases h1
      · rw [h1]
    · cases h
  · cases h
def vSl (g : VE) (lo hi : VO) : VE := fun e => match g e with
  | some (p, e1) => (match lo e1 with
    | some (l, e2) => (match hi e2 with
      | some (u, e3) => (match pCut p l u with
        | some c => some (c, e3)
        | none => none)
      | none => none)
    | none => none)
  | none => none
theorem s_fSl {f : FE} {g : VE} {fl fh : FO} {gl gh : VO} (h : SE S T f g) (hl : SO T1 fl gl) (hh : SO T2 fh gh) (d1 : dsj S (T1 ++ T2) = true := by rfl) : SE [] (T ++ (T1 ++ T2)) (fSl f fl fh) (vSl g gl gh) := by
  intro st ρ e F p e' E q
  unfold vSl at q
  split at q
  · rename_i p1 e1 h1
    split at q
    · rename_i l e2 h2
      split at q
      · rename_i u e3 h3
        split at q
        · rename_i c h4
          cases q
          obtain ⟨a, st1, F1, fa, a1, E1, x1, r1, k1⟩ := h E h1
          obtain ⟨st2, F2, a2, E2, x2⟩ := hl E1 h2
          obtain ⟨st3, F3, a3, E3, x3⟩ := hh E2 h3
          obtain ⟨v, _⟩ := k1.later r1.lt E1 (x2.trans x3) d1
          obtain ⟨h5, h6⟩ := cut_pure (r1.mono v) h4
          exact ⟨_, st3, F3, [], by unfold fSl; rw [a1]; simp only; rw [a2]; simp only; rw [a3]; exact h5, E3, x1.trans (x2.trans x3), h6, Fro.nil⟩
        · cases q
      · cases q
    · cases q
  · cases q
/-- x[::-1] -/
def pRev : A → Option A
  | .tmp xs => if dryL xs = true then some (.tmp xs.reverse) else none
  | .frz xs => if dryL xs = true then some (.tmp xs.reverse) else none
  | _ => none
def vRev (g : VE) : VE := fun e => match g e with
  | some (p, e1) => (match pRev p with
    | some c => some (c, e1)
    | none => none)
  | none => none
theorem s_fRev {f : FE} {g : VE} (h : SE S T f g) : SE [] T (fRev f) (vRev g) := by
  intro st ρ e F p e' E q
  unfold vRev at q
  split at q
  · rename_i p1 e1 h1
    split at q
    · rename_i c h2
      cases q
      obtain ⟨a, st1, F1, fa, a1, E1, x1, r1, k1⟩ := h E h1
      have main : ∀ xs, lstOf p1 [] = some xs → dryL xs = true → p = .tmp xs.reverse → fRev f ρ st = .ok p st1 ∧ VrE st1 p p [] := fun xs h3 hc ep => by
        obtain ⟨as, fq, h4, h5, _⟩ := r1.lstOf h3
        obtain ⟨e2, _⟩ := h5.dry hc
        subst e2 ep
        refine ⟨?_, .inr (.inl ⟨_, _, rfl, rfl, VrL.of_dry (dryL_sub hc fun y hy => List.mem_reverse.mp hy)⟩)⟩
        unfold fRev
        rw [a1]
        simp only
        rw [h4]
      unfold pRev at h2
      split at h2
      · split at h2
        · rename_i hc
          cases h2
          obtain ⟨m1, m2⟩ := main _ rfl hc rfl
          exact ⟨_, st1, F1, [], m1, E1, x1, m2, Fro.nil⟩
        · cases h2
      · split at h2
        · rename_i hc
          cases h2
          obtain ⟨m1, m2⟩ := main _ rfl hc rfl
          exact ⟨_, st1, F1, [], m1, E1, x1, m2, Fro.nil⟩
        · cases h2
      · cases h2
    · cases q
  · cases q
def vRevT (g : VE) : VE := fun e => match g e with
  | some (.tup xs, e1) => if dryL xs = true then some (.tup xs.reverse, e1) else none
  | _ => none
theorem s_fRevT {f : FE} {g : VE} (h : SE S T f g) : SE [] T (fRevT f) (vRevT g) := by
  intro st ρ e F p e' E q
  unfold vRevT at q
  split at q
  · rename_i xs e1 h1
    split at q
    · rename_i hc
      cases q
      obtain ⟨a, st1, F1, fa, a1, E1, x1, r1, k1⟩ := h E h1
      obtain ⟨as, e2, h2⟩ := r1.tup
      obtain ⟨e3, _⟩ := h2.dry hc
      subst e2 e3
      exact ⟨_, st1, F1, [], by unfold fRevT; rw [a1], E1, x1, .inl (Vr.of_dry (show dryL _ = true from dryL_sub hc fun y hy => List.mem_reverse.mp hy)), Fro.nil⟩
    · cases q
  · cases q
/-- list(range(n)), tuple(range(n)) -/
def vLRg1 (g : VE) : VE := fun e => match g e with
  | some (.int j, e1) => if rgOk 0 j then some (.tmp (rgA 0 j), e1) else none
  | _ => none
def vTRg1 (g : VE) : VE := fun e => match g e with
  | some (.int j, e1) => if rgOk 0 j then some (.tup (rgA 0 j), e1) else none
  | _ => none
theorem dryL_rg (i j : Int) : dryL (rgA i j) = true := dryL_map fun _ _ => rfl
theorem s_fLRg1 {f : FE} {g : VE} (h : SE S T f g) : SE [] T (fLRg1 f) (vLRg1 g) := by
  intro st ρ e F p e' E q
  unfold vLRg1 at q
  split at q
  · rename_i j e1 h1
    split at q
    · rename_i hc
      cases q
      obtain ⟨a, st1, F1, fa, a1, E1, x1, r1, k1⟩ := h E h1
      exact ⟨_, st1, F1, [], by unfold fLRg1; rw [a1, r1.int]; exact if_pos hc, E1, x1, .inr (.inl ⟨_, _, rfl, rfl, VrL.of_dry (dryL_rg _ _)⟩), Fro.nil⟩
    · cases q
  · cases q
theorem s_fTRg1 {f : FE} {g : VE} (h : SE S T f g) : SE [] T (fTRg1 f) (vTRg1 g) := by
  intro st ρ e F p e' E q
  unfold vTRg1 at q
  split at q
  · rename_i j e1 h1
    split at q
    · rename_i hc
      cases q
      obtain ⟨a, st1, F1, fa, a1, E1, x1, r1, k1⟩ := h E h1
      exact ⟨_, st1, F1, [], by unfold fTRg1; rw [a1, r1.int]; exact if_pos hc, E1, x1, .inl (Vr.of_dry (show dryL _ = true from dryL_rg _ _)), Fro.nil⟩
    · cases q
  · cases q
/-! asking dicts -/
def vDIn (gk gd : VE) : VE := fun e => match gk e with
  | some (k, e1) => (match gd e1 with
    | some (d, e2) => (match getA d k [] with
      | some o => some (.bl o.isSome, e2)
      | none => none)
    | none => none)
  | none => none
def vDInNot (gk gd : VE) : VE := fun e => match gk e with
  | some (k, e1) => (match gd e1 with
    | some (d, e2) => (match getA d k [] with
      | some o => some (.bl (!o.isSome), e2)
      | none => none)
    | none => none)
  | none => none
theorem s_fDIn {fk fd : FE} {gk gd : VE} (ha : SE S1 T1 fk gk) (hb : SE S2 T2 fd gd) (hd : dsj S1 T2 = true := by rfl) : SE [] (T1 ++ T2) (fDIn fk fd) (vDIn gk gd) := by
  intro st ρ e F p e' E q
  unfold vDIn at q
  split at q
  · rename_i p1 e1 h1
    split at q
    · rename_i p2 e2 h2
      split at q
      · rename_i o h3
        cases q
        obtain ⟨a, st1, F1, fa1, a1, E1, x1, r1, k1⟩ := ha E h1
        obtain ⟨b, st2, F2, fb1, a2, E2, x2, r2, k2⟩ := hb E1 h2
        obtain ⟨u, _⟩ := k1.later r1.lt E1 x2 hd
        exact ⟨_, st2, F2, [], by unfold fDIn; rw [a1]; simp only; rw [a2]; simp only; rw [(get_pure r2 (r1.mono u) h3).1], E2, x1.trans x2, .inl ⟨rfl, rfl⟩, Fro.nil⟩
      · cases q
    · cases q
  · cases q
theorem s_fDInNot {fk fd : FE} {gk gd : VE} (ha : SE S1 T1 fk gk) (hb : SE S2 T2 fd gd) (hd : dsj S1 T2 = true := by rfl) : SE [] (T1 ++ T2) (fDInNot fk fd) (vDInNot gk gd) := by
  intro st ρ e F p e' E q
  unfold vDInNot at q
  split at q
  · rename_i p1 e1 h1
    split at q
    · rename_i p2 e2 h2
      split at q
      · rename_i o h3
        cases q
        obtain ⟨a, st1, F1, fa1, a1, E1, x1, r1, k1⟩ := ha E h1
        obtain ⟨b, st2, F2, fb1, a2, E2, x2, r2, k2⟩ := hb E1 h2
        obtain ⟨u, _⟩ := k1.later r1.lt E1 x2 hd
        exact ⟨_, st2, F2, [], by unfold fDInNot; rw [a1]; simp only; rw [a2]; simp only; rw [(get_pure r2 (r1.mono u) h3).1], E2, x1.trans x2, .inl ⟨rfl, rfl⟩, Fro.nil⟩
      · cases q
    · cases q
  · cases q
def vDGet1 (gd gk : VE) : VE := fun e => match gd e with
  | some (d, e1) => (match gk e1 with
    | some (k, e2) => (match dicOf d [], getA d k [] with
      | some _, some o => some (o.getD .non, e2)
      | _, _ => none)
    | none => none)
  | none => none
theorem s_fDGet1 {fk fd : FE} {gk gd : VE} (ha : SE S1 T1 fd gd) (hb : SE S2 T2 fk gk) (hd : dsj S1 T2 = true := by rfl) : SE [] (T1 ++ T2) (fDGet1 fd fk) (vDGet1 gd gk) := by
  intro st ρ e F p e' E q
  unfold vDGet1 at q
  split at q
  · rename_i p1 e1 h1
    split at q
    · rename_i p2 e2 h2
      split at q
      · rename_i kvs o h0 h3
        cases q
        obtain ⟨a, st1, F1, fa1, a1, E1, x1, r1, k1⟩ := ha E h1
        obtain ⟨b, st2, F2, fb1, a2, E2, x2, r2, k2⟩ := hb E1 h2
        obtain ⟨u, _⟩ := k1.later r1.lt E1 x2 hd
        obtain ⟨h5, h6⟩ := get_pure (r1.mono u) r2 h3
        have hdry : (o.getD .non).dry = true := by cases o with | none => rfl | some x => exact h6 x rfl
        exact ⟨_, st2, F2, [], by unfold fDGet1; rw [a1]; simp only; rw [if_pos (by rw [(r1.dicOf h0).1]; rfl), a2]; simp only; rw [h5], E2, x1.trans x2, .inl (Vr.of_dry hdry), Fro.nil⟩
      · cases q
    · cases q
  · cases q
def vDGet2 (gd gk gx : VE) : VE := fun e => match gd e with
  | some (d, e1) => (match gk e1 with
    | some (k, e2) => (match gx e2 with
      | some (x, e3) => (match dicOf d [], getA d k [] with
        | some _, some o => if x.dry = true then some (o.getD x, e3) else none
        | _, _ => none)
      | none => none)
    | none => none)
  | none => none
theorem s_fDGet2 {fk fd fx : FE} {gk gd gx : VE} (ha : SE S1 T1 fd gd) (hb : SE S2 T2 fk gk) (hx : SE S3 T3 fx gx) (hd : dsj S1 (T2 ++ T3) = true := by rfl) (hd2 : dsj S2 T3 = true := by rfl) : SE [] (T1 ++ (T2 ++ T3)) (fDGet2 fd fk fx) (vDGet2 gd gk gx) := by
  intro st ρ e F p e' E q
  unfold vDGet2 at q
  split at q
  · rename_i p1 e1 h1
    split at q
    · rename_i p2 e2 h2
      split at q
      · rename_i p3 e3 h3
        split at q
        · rename_i kvs o h0 h4
          split at q
          · rename_i hdx
            cases q
            obtain ⟨a, st1, F1, fa1, a1, E1, x1, r1, k1⟩ := ha E h1
            obtain ⟨b, st2, F2, fb1, a2, E2, x2, r2, k2⟩ := hb E1 h2
            obtain ⟨c, st3, F3, fc1, a3, E3, x3, r3, k3⟩ := s_B hx E2 h3
            obtain ⟨u, _⟩ := k1.later r1.lt E1 (x2.trans x3) hd
            obtain ⟨u2, _⟩ := k2.later r2.lt E2 x3 hd2
            obtain ⟨h5, h6⟩ := get_pure (r1.mono u) (r2.mono u2) h4
            obtain ⟨e5, _⟩ := r3.dry hdx
            subst e5
            have hdry : (o.getD c).dry = true := by cases o with | none => exact hdx | some x => exact h6 x rfl
            exact ⟨_, st3, F3, [], by unfold fDGet2; rw [a1]; simp only; rw [if_pos (by rw [(r1.dicOf h0).1]; rfl), a2]; simp only; rw [a3]; simp only; rw [h5], E3, x1.trans (x2.trans x3), .inl (Vr.of_dry hdry), Fro.nil⟩
          · cases q
        · cases q
      · cases q
    · cases q
  · cases q
end
end Vs
/-! lists that are changed -/
namespace Vs
open PySem PySem.Spec PyProof.Rows L2 Gd Ev
section
variable {S S0 S1 S2 S3 T T0 T1 T2 T3 : List Nat} {st st' st0 st1 st2 : Sto} {F F' F0 F1 F2 : Fp}
theorem Stp.put2 {i : Nat} {f : List Nat} (x : Stp T st0 F0 st1 F1) (hle : st1.length ≤ st2.length) (hs : ∀ l, l < st1.length → l ∉ F1 i → st2[l]? = st1[l]?)
    (hn : ∀ l ∈ f, l ∈ F1 i ∨ ((∃ j ∈ T, l ∈ F0 j) ∨ st0.length ≤ l)) : Stp (T ++ [i]) st0 F0 st2 (upF F1 i f) where
  le := Nat.le_trans x.le hle
  fr := fun l hl h => by
    have h1 : ∀ j ∈ T, l ∉ F0 j := fun j hj => h j (List.mem_append_left _ hj)
    rw [hs l (Nat.lt_of_lt_of_le hl x.le) fun z => ?_, x.fr l hl h1]
    rcases x.nw i l z with q | ⟨j, hj, q⟩ | q
    · exact h i (List.mem_append_right _ (List.mem_singleton.mpr rfl)) q
    · exact h1 j hj q
    · omega
  kp := fun j hj => by
    have : j ≠ i := fun z => hj (List.mem_append_right _ (List.mem_singleton.mpr z))
    show (if j = i then f else F1 j) = F0 j
    rw [if_neg this]
    exact x.kp j fun z => hj (List.mem_append_left _ z)
  nw := fun j l h => by
    have big : ∀ k, l ∈ F1 k → k = j ∨ k = i → l ∈ F0 j ∨ (∃ j ∈ T ++ [i], l ∈ F0 j) ∨ st0.length ≤ l := fun k hk hki => by
      rcases x.nw k l hk with q | ⟨m, hm, q⟩ | q
      · rcases hki with rfl | rfl
        · exact .inl q
        · exact .inr (.inl ⟨k, List.mem_append_right _ (List.mem_singleton.mpr rfl), q⟩)
      · exact .inr (.inl ⟨m, List.mem_append_left _ hm, q⟩)
      · exact .inr (.inr q)
    unfold upF at h
    split at h
    · rcases hn l h with q | ⟨m, hm, q⟩ | q
      · exact big i q (.inr rfl)
      · exact .inr (.inl ⟨m, List.mem_append_left _ hm, q⟩)
      · exact .inr (.inr q)
    · exact big j h (.inl rfl)
/-- a list that belongs to slot i, and what the slots are when it changes -/
structure Plc (st : Sto) (ρ : Rho) (e : PEnv) (F : Fp) (i l : Nat) (ps as : List A) (fq : List Nat) (up : List A → PEnv) : Prop where
  at_ : st[l]? = some (.lst as)
  vr : VrL st ps as fq
  li : l ∈ F i
  lq : l ∉ fq
  sub : ∀ x ∈ fq, x ∈ F i
  nd : fq.Nodup
  upd : ∀ {ps' as' : List A} {fq' : List Nat}, VrL st ps' as' fq' → l ∉ fq' → fq'.Nodup → (∀ x ∈ fq', x ∈ fq ∨ ∀ j, x ∉ F j) → ∃ f, ER (st.set l (.lst as')) ρ (up ps') (upF F i f) ∧ ∀ x ∈ f, x ∈ fq' ∨ (x ∈ F i ∧ x ∉ fq)
theorem ER.slotL {ρ : Rho} {e : PEnv} {i : Nat} {ps : List A} (E : ER st ρ e F) (h : e[i]? = some (some (.own (.tmp ps)))) : ∃ l as fq, ρ[i]? = some (some (.loc l)) ∧ st[l]? = some (.lst as) ∧ F i = l :: fq ∧ VrL st ps as fq := by
  obtain ⟨a, h1, l, as, fq, e1, e2, e3, r⟩ := E.own i _ h
  exact ⟨l, as, fq, by rw [h1, e1], e2, e3, r⟩
theorem set_ne {l k : Nat} {o : O} (h : l ≠ k) : (st.set l o)[k]? = st[k]? := List.getElem?_set_ne h
theorem Plc.zero {ρ : Rho} {e : PEnv} {i : Nat} {ps : List A} (E : ER st ρ e F) (h : e[i]? = some (some (.own (.tmp ps)))) : ∃ l as fq, ρ[i]? = some (some (.loc l)) ∧ Plc st ρ e F i l ps as fq fun ps' => (kill i e).set i (some (.own (.tmp ps'))) := by
  obtain ⟨l, as, fq, h1, h2, h3, h4⟩ := E.slotL h
  have nd := E.nd i
  rw [h3, List.nodup_cons] at nd
  have hl : l < st.length := (List.getElem?_eq_some_iff.mp h2).1
  have hi : i < e.length := (List.getElem?_eq_some_iff.mp h).1
  refine ⟨l, as, fq, h1, h2, h4, by rw [h3]; exact List.mem_cons_self, nd.1, fun x hx => by rw [h3]; exact List.mem_cons_of_mem _ hx, nd.2, fun {ps' as' fq'} r nl nd' hq => ⟨l :: fq', ?_, fun x hx => ?_⟩⟩
  · have ne : ∀ x ∈ fq', x ≠ l := fun x hx e => nl (e ▸ hx)
    refine E.put (by rw [List.length_set]; exact Nat.le_refl _) (fun x hx hn => set_ne fun z => hn (by rw [h3, z]; exact List.mem_cons_self)) rfl (fun _ _ => rfl) (List.nodup_cons.mpr ⟨nl, nd'⟩) (fun x hx j hj z => ?_) (fun x hx => ?_) (fun p hp _ => ?_) (fun _ _ z => nomatch z) (fun z => (z _ rfl).elim) (fun z => by omega)
    · rcases List.mem_cons.mp hx with rfl | hx
      · exact E.dj j i x hj z (by rw [h3]; exact List.mem_cons_self)
      · rcases hq x hx with q | q
        · exact E.dj j i x hj z (by rw [h3]; exact List.mem_cons_of_mem _ q)
        · exact q j z
    · rw [List.length_set]
      rcases List.mem_cons.mp hx with rfl | hx
      · exact hl
      · exact r.lt x hx
    · cases hp
      exact ⟨.loc l, h1, l, as', fq', rfl, List.getElem?_set_self hl, rfl, r.mono fun x hx => set_ne fun z => ne x hx z.symm⟩
  · rcases List.mem_cons.mp hx with rfl | hx
    · exact .inr ⟨by rw [h3]; exact List.mem_cons_self, nd.1⟩
    · exact .inl hx
/-- a list within a list -/
theorem Plc.one {ρ : Rho} {e : PEnv} {i k : Nat} {ps qs : List A} (E : ER st ρ e F) (h : e[i]? = some (some (.own (.tmp ps)))) (hk : ps[k]? = some (.tmp qs)) : ∃ l as l1 bs fq, ρ[i]? = some (some (.loc l)) ∧ st[l]? = some (.lst as) ∧ as.length = ps.length ∧ as[k]? = some (.loc l1) ∧
    Plc st ρ e F i l1 qs bs fq fun qs' => (kill i e).set i (some (.own (.tmp (ps.set k (.tmp qs'))))) := by
  obtain ⟨l, as, fq, h1, h2, h3, h4⟩ := E.slotL h
  have nd := E.nd i
  rw [h3, List.nodup_cons] at nd
  have hl : l < st.length := (List.getElem?_eq_some_iff.mp h2).1
  have hi : i < e.length := (List.getElem?_eq_some_iff.mp h).1
  obtain ⟨a, f1, fa, f2, h5, ⟨l1, bs, fb, e1, e2, e3, r⟩, h6, h7⟩ := h4.split hk
  subst e1 e3 h6
  have hl1 : l1 < st.length := (List.getElem?_eq_some_iff.mp e2).1
  have n1 := List.nodup_append.mp nd.2
  have n2 := List.nodup_append.mp n1.2.1
  have n3 := List.nodup_cons.mp n2.1
  have m1 : ∀ x, x ∈ f1 ∨ x ∈ l1 :: fb ∨ x ∈ f2 → x ∈ F i := fun x hx => by
    rw [h3]
    refine List.mem_cons_of_mem _ ?_
    rcases hx with q | q | q
    · exact List.mem_append_left _ q
    · exact List.mem_append_right _ (List.mem_append_left _ q)
    · exact List.mem_append_right _ (List.mem_append_right _ q)
  have l_ne : l ≠ l1 := fun z => nd.1 (by rw [z]; exact List.mem_append_right _ (List.mem_append_left _ List.mem_cons_self))
  refine ⟨l, as, l1, bs, fb, h1, h2, h4.len, h5, e2, r, m1 _ (.inr (.inl List.mem_cons_self)), n3.1, fun x hx => m1 x (.inr (.inl (List.mem_cons_of_mem _ hx))), n3.2, fun {qs' bs' fq'} r' nl nd' hq => ⟨l :: (f1 ++ ((l1 :: fq') ++ f2)), ?_, fun x hx => ?_⟩⟩
  · have out : ∀ x ∈ fq', x ≠ l ∧ x ∉ f1 ∧ x ∉ f2 := fun x hx => by
      rcases hq x hx with q | q
      · exact ⟨fun z => nd.1 (by rw [← z]; exact List.mem_append_right _ (List.mem_append_left _ (List.mem_cons_of_mem _ q))), fun z => n1.2.2 x z x (List.mem_append_left _ (List.mem_cons_of_mem _ q)) rfl, fun z => n2.2.2 x (List.mem_cons_of_mem _ q) x z rfl⟩
      · exact ⟨fun z => q i (by rw [h3, z]; exact List.mem_cons_self), fun z => q i (m1 x (.inl z)), fun z => q i (m1 x (.inr (.inr z)))⟩
    have newnd : (l :: (f1 ++ ((l1 :: fq') ++ f2))).Nodup := by
      refine List.nodup_cons.mpr ⟨fun z => ?_, List.nodup_append.mpr ⟨n1.1, List.nodup_append.mpr ⟨List.nodup_cons.mpr ⟨nl, nd'⟩, n2.2.1, fun x hx y hy e => ?_⟩, fun x hx y hy e => ?_⟩⟩
      · rcases List.mem_append.mp z with q | q
        · exact nd.1 (List.mem_append_left _ q)
        · rcases List.mem_append.mp q with q | q
          · rcases List.mem_cons.mp q with q | q
            · exact l_ne q
            · exact (out l q).1 rfl
          · exact nd.1 (List.mem_append_right _ (List.mem_append_right _ q))
      · subst e
        rcases List.mem_cons.mp hx with q | q
        · exact n2.2.2 x (by rw [q]; exact List.mem_cons_self) x hy rfl
        · exact (out x q).2.2 hy
      · subst e
        rcases List.mem_append.mp hy with q | q
        · rcases List.mem_cons.mp q with q | q
          · exact n1.2.2 x hx x (by rw [q]; exact List.mem_append_left _ List.mem_cons_self) rfl
          · exact (out x q).2.1 hx
        · exact n1.2.2 x hx x (List.mem_append_right _ q) rfl
    have cases4 : ∀ x ∈ (l :: (f1 ++ ((l1 :: fq') ++ f2))), x ∈ F i ∨ x ∈ fq' := fun x hx => by
      rcases List.mem_cons.mp hx with q | q
      · exact .inl (by rw [h3, q]; exact List.mem_cons_self)
      · rcases List.mem_append.mp q with q | q
        · exact .inl (m1 x (.inl q))
        · rcases List.mem_append.mp q with q | q
          · rcases List.mem_cons.mp q with q | q
            · exact .inl (m1 x (.inr (.inl (by rw [q]; exact List.mem_cons_self))))
            · exact .inr q
          · exact .inl (m1 x (.inr (.inr q)))
    refine E.put (by rw [List.length_set]; exact Nat.le_refl _) (fun x hx hn => set_ne fun z => hn (by rw [← z]; exact m1 _ (.inr (.inl List.mem_cons_self)))) rfl (fun _ _ => rfl) newnd (fun x hx j hj z => ?_) (fun x hx => ?_) (fun p hp _ => ?_) (fun _ _ z => nomatch z) (fun z => (z _ rfl).elim) (fun z => by omega)
    · rcases cases4 x hx with q | q
      · exact E.dj j i x hj z q
      · rcases hq x q with q | q
        · exact E.dj j i x hj z (m1 x (.inr (.inl (List.mem_cons_of_mem _ q))))
        · exact q j z
    · rw [List.length_set]
      rcases cases4 x hx with q | q
      · exact E.lt i x q
      · exact r'.lt x q
    · cases hp
      refine ⟨.loc l, h1, l, as, f1 ++ ((l1 :: fq') ++ f2), rfl, by rw [set_ne l_ne.symm]; exact h2, rfl, ?_⟩
      have h8 := h7 (st' := st.set l1 (.lst bs')) (p' := .tmp qs') (a' := .loc l1) (fq' := l1 :: fq') (fun x hx => set_ne fun z => ?_) ⟨l1, bs', fq', rfl, List.getElem?_set_self hl1, rfl, r'.mono fun x hx => set_ne fun z => nl (z ▸ hx)⟩
      · rw [show as.set k (.loc l1) = as from List.ext_getElem? fun m => by
          by_cases hm : k = m
          · subst hm
            rw [List.getElem?_set_self (List.getElem?_eq_some_iff.mp h5).1, h5]
          · rw [List.getElem?_set_ne hm]] at h8
        exact h8
      · subst z
        rcases hx with q | q
        · exact n1.2.2 _ q _ (List.mem_append_left _ List.mem_cons_self) rfl
        · exact n2.2.2 _ List.mem_cons_self _ q rfl
  · rcases List.mem_cons.mp hx with q | q
    · exact .inr ⟨by rw [h3, q]; exact List.mem_cons_self, fun z => nd.1 (by rw [← q]; exact List.mem_append_right _ (List.mem_append_left _ (List.mem_cons_of_mem _ z)))⟩
    · rcases List.mem_append.mp q with q | q
      · exact .inr ⟨m1 x (.inl q), fun z => n1.2.2 x q x (List.mem_append_left _ (List.mem_cons_of_mem _ z)) rfl⟩
      · rcases List.mem_append.mp q with q | q
        · rcases List.mem_cons.mp q with q | q
          · exact .inr ⟨m1 x (.inr (.inl (by rw [q]; exact List.mem_cons_self))), by rw [q]; exact n3.1⟩
          · exact .inl q
        · exact .inr ⟨m1 x (.inr (.inr q)), fun z => n2.2.2 x (List.mem_cons_of_mem _ z) x q rfl⟩
/-- what a method does with a list -/
abbrev Act := List A → List A → Option (List A × A)
def MA (gg : A → FN) (act : Act) : Prop := ∀ {st : Sto} {l : Nat} {ps as qs bs ps' : List A} {r : A} {fq fb : List Nat}, st[l]? = some (.lst as) → VrL st ps as fq → VrL st qs bs fb → act ps qs = some (ps', r) →
  ∃ as' a fq' fr, gg (.loc l) bs st = .ok a (st.set l (.lst as')) ∧ VrL st ps' as' fq' ∧ Vr st r a fr ∧ (∀ x, x ∈ fq' ∨ x ∈ fr → x ∈ fq ∨ x ∈ fb) ∧ ((fq ++ fb).Nodup → (fq' ++ fr).Nodup)
def aApp : Act := fun ps qs => match qs with
  | [q] => if ps.length < sizeLine then some (ps ++ [q], .non) else none
  | _ => none
theorem ma_app : MA mApp aApp := by
  intro st l ps as qs bs ps' r fq fb h1 h2 h3 h
  unfold aApp at h
  split at h
  · split at h
    · rename_i q hc
      cases h
      obtain ⟨b, r', f1, f2, e1, e2, h4, e3, e4⟩ := h3
      subst e1 e2 e3 e4
      refine ⟨as ++ [b], .non, fq ++ f1, [], ?_, h2.snoc h4, ⟨rfl, rfl⟩, fun x hx => ?_, fun nd => by simpa using nd⟩
      · unfold mApp
        simp only [h1]
        exact if_pos (by rw [h2.len]; exact hc)
      · rcases hx with q | q
        · rcases List.mem_append.mp q with q | q
          · exact .inl q
          · exact .inr (List.mem_append_left _ q)
        · cases q
    · cases h
  · cases h
def aPop : Act := fun ps qs => match qs with
  | [] => (match ps[ps.length - 1]? with
    | some y => some (ps.dropLast, y)
    | none => none)
  | _ => none
theorem VrL.last : ∀ {ps as : List A} {fq : List Nat} {y : A}, VrL st ps as fq → ps[ps.length - 1]? = some y → ∃ a f1 f2, as[as.length - 1]? = some a ∧ fq = f1 ++ f2 ∧ VrL st ps.dropLast as.dropLast f1 ∧ Vr st y a f2
  | [], _, _, _, _, e => by simp at e
  | [p], as, fq, y, ⟨a, r, f1, f2, e, e1, h1, h2⟩, h => by
    have : p = y := by simpa using h
    subst this
    obtain ⟨rfl, rfl⟩ := h2
    subst e e1
    exact ⟨a, [], f1, by simp, by simp, ⟨rfl, rfl⟩, h1⟩
  | p :: q :: ps, as, fq, y, ⟨a, r, f1, f2, e, e1, h1, h2⟩, h => by
    obtain ⟨b, g1, g2, h3, h4, h5, h6⟩ := h2.last (y := y) (by simpa using h)
    have hl := h2.len
    subst e e1 h4
    cases r with
    | nil => simp at hl
    | cons c r =>
      refine ⟨b, f1 ++ g1, g2, by simpa using h3, by rw [List.append_assoc], ?_, h6⟩
      exact ⟨a, (c :: r).dropLast, f1, g1, by simp, rfl, h1, h5⟩
theorem ma_pop : MA mPop aPop := by
  intro st l ps as qs bs ps' r fq fb h1 h2 h3 h
  unfold aPop at h
  split at h
  · split at h
    · rename_i y hy
      cases h
      obtain ⟨rfl, rfl⟩ := h3
      obtain ⟨a, f1, f2, h4, h5, h6, h7⟩ := h2.last hy
      subst h5
      refine ⟨as.dropLast, a, f1, f2, ?_, h6, h7, fun x hx => .inl (List.mem_append.mpr hx), fun nd => by simpa using nd⟩
      unfold mPop
      simp only [h1, h4]
    · cases h
  · cases h
def aPopAt : Act := fun ps qs => match qs with
  | [.int i] => if -(2 ^ 63) ≤ i ∧ i < 2 ^ 63 then (match ixN ps.length i with
      | some k => (match ps[k]? with
        | some y => some (ps.eraseIdx k, y)
        | none => none)
      | none => none) else none
  | _ => none
theorem VrL.erase : ∀ {ps as : List A} {fq : List Nat} {k : Nat} {y : A}, VrL st ps as fq → ps[k]? = some y → ∃ a f1 f2, as[k]? = some a ∧ VrL st (ps.eraseIdx k) (as.eraseIdx k) f1 ∧ Vr st y a f2 ∧ (∀ x, x ∈ f1 ∨ x ∈ f2 ↔ x ∈ fq) ∧ (fq.Nodup → (f1 ++ f2).Nodup)
  | [], _, _, _, _, _, e => by simp at e
  | p :: ps, as, fq, 0, y, ⟨a, r, f1, f2, e, e1, h1, h2⟩, h => by
    have : p = y := by simpa using h
    subst this e e1
    exact ⟨a, f2, f1, rfl, h2, h1, fun x => by rw [List.mem_append]; exact Or.comm, fun nd => by
      obtain ⟨n1, n2, n3⟩ := List.nodup_append.mp nd
      exact List.nodup_append.mpr ⟨n2, n1, fun x hx y hy e => n3 y hy x hx e.symm⟩⟩
  | p :: ps, as, fq, k + 1, y, ⟨a, r, f1, f2, e, e1, h1, h2⟩, h => by
    obtain ⟨b, g1, g2, h3, h4, h5, h6, h7⟩ := h2.erase (k := k) (y := y) (by simpa using h)
    subst e e1
    refine ⟨b, f1 ++ g1, g2, by simpa using h3, ⟨a, r.eraseIdx k, f1, g1, by simp, rfl, h1, h4⟩, h5, fun x => ?_, fun nd => ?_⟩
    · rw [List.mem_append, List.mem_append, or_assoc, h6 x]
    · obtain ⟨n1, n2, n3⟩ := List.nodup_append.mp nd
      rw [List.append_assoc]
      exact List.nodup_append.mpr ⟨n1, h7 n2, fun x hx y hy => n3 x hx y ((h6 y).mp (List.mem_append.mp hy))⟩
theorem ma_popAt : MA mPopAt aPopAt := by
  intro st l ps as qs bs ps' r fq fb h1 h2 h3 h
  unfold aPopAt at h
  split at h
  · rename_i i
    split at h
    · rename_i hc
      split at h
      · rename_i k hk
        split at h
        · rename_i y hy
          cases h
          obtain ⟨b, r', g1, g2, e1, e2, h8, e3, e4⟩ := h3
          cases (h8.dry rfl).1
          subst e1 e3
          obtain ⟨a, f1, f2, h4, h5, h6, h7, h9⟩ := h2.erase hy
          refine ⟨as.eraseIdx k, a, f1, f2, ?_, h5, h6, fun x hx => .inl ((h7 x).mp hx), fun nd => h9 (List.nodup_append.mp nd).1⟩
          unfold mPopAt
          simp only [h1]
          rw [if_pos hc, h2.len, hk]
          simp only
          rw [h4]
        · cases h
      · cases h
    · cases h
  · cases h
def aExt : Act := fun ps qs => match qs with
  | [.tmp ys] => if ps.length + ys.length ≤ sizeLine ∧ dryL ys = true then some (ps ++ ys, .non) else none
  | _ => none
theorem ma_ext : MA mExt aExt := by
  intro st l ps as qs bs ps' r fq fb h1 h2 h3 h
  unfold aExt at h
  split at h
  · rename_i ys
    split at h
    · rename_i hc
      cases h
      obtain ⟨b, r', g1, g2, e1, e2, h8, e3, e4⟩ := h3
      subst e1 e3
      obtain ⟨cs, fc, h4, h5, h6⟩ := (show VrE st (.tmp ys) b g1 from .inl h8).lstM (xs := ys) rfl
      obtain ⟨e5, _⟩ := h5.dry hc.2
      subst e5
      refine ⟨as ++ cs, .non, fq, [], ?_, by have := h2.append (VrL.of_dry (st := st) hc.2); rw [List.append_nil] at this; exact this, ⟨rfl, rfl⟩, fun x hx => .inl (hx.elim id fun z => by cases z), fun nd => by rw [List.append_nil]; exact (List.nodup_append.mp nd).1⟩
      unfold mExt
      simp only [h1, h4]
      exact if_pos (by rw [h2.len]; exact hc.1)
    · cases h
  · cases h
/-- x.m(..) -/
def vM0 (i : Nat) (act : Act) (gs : VA) : VE := fun e => match e[i]? with
  | some (some (.own (.tmp _))) => (match gs e with
    | some (qs, e1) => (match e1[i]? with
      | some (some (.own (.tmp ps))) => (match act ps qs with
        | some (ps', r) => some (r, (kill i e1).set i (some (.own (.tmp ps'))))
        | none => none)
      | _ => none)
    | none => none)
  | _ => none
theorem plc_act {gg : A → FN} {act : Act} {ρ : Rho} {e1 : PEnv} {i l : Nat} {ps as qs bs ps' : List A} {r : A} {fq fb : List Nat} {up : List A → PEnv} (hm : MA gg act) (E1 : ER st1 ρ e1 F1) (x1 : Stp T st0 F0 st1 F1) (P : Plc st1 ρ e1 F1 i l ps as fq up) (rb : VrL st1 qs bs fb) (kb : Fro [] T st0 F0 F1 fb) (h : act ps qs = some (ps', r)) :
    ∃ a as' f fr, gg (.loc l) bs st1 = .ok a (st1.set l (.lst as')) ∧ ER (st1.set l (.lst as')) ρ (up ps') (upF F1 i f) ∧ Stp (T ++ [i]) st0 F0 (st1.set l (.lst as')) (upF F1 i f) ∧ Vr (st1.set l (.lst as')) r a fr ∧ Fro [] (T ++ [i]) st0 F0 (upF F1 i f) fr := by
  obtain ⟨as', a, fq', fr, g1, g2, g3, g4, g5⟩ := hm P.at_ P.vr rb h
  have dis : (fq ++ fb).Nodup := List.nodup_append.mpr ⟨P.nd, kb.nd rfl, fun x hx y hy e => (kb.own (e ▸ hy)).1 i (P.sub x hx)⟩
  have nd2 := List.nodup_append.mp (g5 dis)
  have nl : ∀ x, x ∈ fq' ∨ x ∈ fr → x ≠ l := fun x hx e => by
    rcases g4 x hx with q | q
    · exact P.lq (e ▸ q)
    · exact (kb.own q).1 i (e ▸ P.li)
  obtain ⟨f, E2, hf⟩ := P.upd g2 (fun z => nl l (.inl z) rfl) nd2.1 (fun x hx => (g4 x (.inl hx)).imp id fun q => (kb.own q).1)
  refine ⟨a, as', f, fr, g1, E2, x1.put2 (by rw [List.length_set]; exact Nat.le_refl _) (fun x hx hn => set_ne fun z => hn (z ▸ P.li)) (fun x hx => ?_), g3.mono fun x hx => set_ne fun z => nl x (.inr hx) z.symm, ⟨fun x hx => .inr ⟨fun j z => ?_, ?_⟩, fun _ => nd2.2.1⟩⟩
  · rcases hf x hx with q | q
    · rcases g4 x (.inl q) with q | q
      · exact .inl (P.sub x q)
      · exact .inr (kb.own q).2
    · exact .inl q.1
  · unfold upF at z
    split at z
    · rcases hf x z with q | q
      · exact nd2.2.2 x q x hx rfl
      · rcases g4 x (.inr hx) with y | y
        · exact q.2 y
        · exact (kb.own y).1 i q.1
    · rename_i hj
      rcases g4 x (.inr hx) with y | y
      · exact E1.dj j i x hj z (P.sub x y)
      · exact (kb.own y).1 j z
  · rcases g4 x (.inr hx) with y | y
    · rcases x1.nw i x (P.sub x y) with q | ⟨j, hj, q⟩ | q
      · exact .inl ⟨i, List.mem_append_right _ (List.mem_singleton.mpr rfl), q⟩
      · exact .inl ⟨j, List.mem_append_left _ hj, q⟩
      · exact .inr q
    · exact (kb.own y).2.imp (fun ⟨j, hj, q⟩ => ⟨j, List.mem_append_left _ hj, q⟩) id
theorem s_M0 {gg : A → FN} {act : Act} {i : Nat} {fs : FA} {gs : VA} (hm : MA gg act) (h : SB [] T fs gs) (hi : T.contains i = false := by rfl) : SE [] (T ++ [i]) (fM gg (fVar i) fs) (vM0 i act gs) := by
  intro st ρ e F p e' E q
  unfold vM0 at q
  split at q
  · rename_i ps0 h0
    split at q
    · rename_i qs e1 h1
      split at q
      · rename_i ps h2
        split at q
        · rename_i ps' r h3
          cases q
          obtain ⟨bs, st1, F1, fb, a1, E1, x1, r1, k1⟩ := h E h1
          obtain ⟨l0, as0, fq0, b1, b2, _, _⟩ := E.slotL h0
          obtain ⟨l, as, fq, b3, P⟩ := Plc.zero E1 h2
          rw [b1] at b3
          cases b3
          obtain ⟨a, as', f, fr, g1, g2, g3, g4, g5⟩ := plc_act hm E1 x1 P r1 k1 h3
          refine ⟨a, _, _, fr, ?_, g2, g3, .inl g4, g5⟩
          unfold fM
          rw [fVar_of b1]
          simp only
          rw [if_pos (by unfold isL Ev.lstOf; simp only [b2]; rfl), a1]
          exact g1
        · cases q
      · cases q
    · cases q
  · cases q
/-- x[k].m(..) -/
def vM1 (i : Nat) (act : Act) (gk : VE) (gs : VA) : VE := fun e => match e[i]?, gk e with
  | some (some (.own (.tmp ps0))), some (.int k, _) => (match ixN ps0.length k with
    | some j0 => (match ps0[j0]? with
      | some (.tmp _) => (match gs e with
        | some (qs, e1) => (match e1[i]? with
          | some (some (.own (.tmp ps))) => (match ixN ps.length k with
            | some j => (match ps[j]? with
              | some (.tmp ys) => (match act ys qs with
                | some (ys', r) => some (r, (kill i e1).set i (some (.own (.tmp (ps.set j (.tmp ys'))))))
                | none => none)
              | _ => none)
            | none => none)
          | _ => none)
        | none => none)
      | _ => none)
    | none => none)
  | _, _ => none
/-- an expression that changes nothing at all -/
def SQ (f : FE) (g : VE) : Prop := ∀ {st : Sto} {ρ : Rho} {e : PEnv} {F : Fp} {p : A} {e' : PEnv}, ER st ρ e F → g e = some (p, e') → e' = e ∧ ∃ a, f ρ st = .ok a st ∧ ∃ fa, VrE st p a fa
theorem q_c {a : A} (h : a.dry = true := by rfl) : SQ (fC a) (vc a) := by
  intro st ρ e F p e' E q
  cases q
  exact ⟨rfl, a, rfl, [], .inl (Vr.of_dry h)⟩
theorem q_rd {S : List Nat} {i : Nat} : SQ (fVar i) (rd S i) := by
  intro st ρ e F p e' E h
  unfold rd at h
  split at h
  · rename_i q h1
    split at h
    · cases h
      obtain ⟨a, h3, h4⟩ := E.own i _ h1
      exact ⟨rfl, a, fVar_of h3, _, .inl h4⟩
    · cases h
  · rename_i B q h1
    split at h
    · cases h
      obtain ⟨a, fb, h3, h4, _⟩ := E.bor i _ _ h1
      exact ⟨rfl, a, fVar_of h3, _, .inl h4⟩
    · cases h
  · cases h
theorem q_2f {gg hh : Ev.F2} {fa fb : FE} {ga gb : VE} (ho : Of2 gg hh) (ha : SQ fa ga) (hb : SQ fb gb) : SQ (f2 gg fa fb) (v2 hh ga gb) := by
  intro st ρ e F p e' E q
  unfold v2 at q
  split at q
  · rename_i p1 e1 h1
    obtain ⟨e2, a, a1, fa1, r1⟩ := ha E h1
    rw [e2] at q
    split at q
    · rename_i p2 e3 h2
      obtain ⟨e4, b, b1, fb1, r2⟩ := hb E h2
      split at q
      · rename_i c s' h3
        cases q
        obtain ⟨h5, h4⟩ := ho r1 r2 h3
        exact ⟨e4, _, by unfold f2; rw [a1]; simp only; rw [b1]; exact h4, [], .inl (Vr.of_dry h5)⟩
      · cases q
    · cases q
  · cases q
theorem q_2 {gg hh : Ev.F2} {fa fb : FE} {ga gb : VE} (ho : Os2 gg hh) (ha : SQ fa ga) (hb : SQ fb gb) : SQ (f2 gg fa fb) (v2 hh ga gb) := by
  intro st ρ e F p e' E q
  unfold v2 at q
  split at q
  · rename_i p1 e1 h1
    obtain ⟨e2, a, a1, fa1, r1⟩ := ha E h1
    rw [e2] at q
    split at q
    · rename_i p2 e3 h2
      obtain ⟨e4, b, b1, fb1, r2⟩ := hb E h2
      split at q
      · rename_i c s' h3
        cases q
        obtain ⟨r, fc, h4, h5, _⟩ := ho r1 r2 h3
        exact ⟨e4, r, by unfold f2; rw [a1]; simp only; rw [b1]; exact h4, fc, h5⟩
      · cases q
    · cases q
  · cases q
theorem q_neg {f : FE} {g : VE} (h : SQ f g) : SQ (fNeg f) (vNeg g) := by
  intro st ρ e F p e' E q
  unfold vNeg at q
  split at q
  · rename_i b1 e1 h1
    cases q
    obtain ⟨e2, a, a1, fa1, r1⟩ := h E h1
    exact ⟨e2, _, by unfold fNeg; rw [a1, r1.int], [], .inl ⟨rfl, rfl⟩⟩
  · cases q
/-- numbers of arguments of builtins -/
def QA (f : FA) (g : VA) : Prop := ∀ {st : Sto} {ρ : Rho} {e : PEnv} {F : Fp} {ps : List A} {e' : PEnv}, ER st ρ e F → g e = some (ps, e') → e' = e ∧ ∃ as, f ρ st = .ok as st ∧ ∃ fa, VrEL st ps as fa
theorem qa_nil : QA aN vN := by
  intro st ρ e F p e' E q
  cases q
  exact ⟨rfl, [], rfl, [], .nil⟩
theorem qa_cons {f : FE} {g : VE} {fs : FA} {gs : VA} (ha : SQ f g) (hb : QA fs gs) : QA (aC f fs) (vC g gs) := by
  intro st ρ e F p e' E q
  unfold vC at q
  split at q
  · rename_i p1 e1 h1
    obtain ⟨e2, a, a1, fa1, r1⟩ := ha E h1
    rw [e2] at q
    split at q
    · rename_i ps e3 h2
      cases q
      obtain ⟨e4, as, b1, fb1, r2⟩ := hb E h2
      exact ⟨e4, a :: as, by unfold aC; rw [a1]; simp only; rw [b1], _, .cons r1 r2⟩
    · cases q
  · cases q
theorem q_Nf {gg hh : FN} {f : FA} {g : VA} (ho : OfN gg hh) (h : QA f g) : SQ (fN gg f) (vN1 hh g) := by
  intro st ρ e F p e' E q
  unfold vN1 at q
  split at q
  · rename_i p1 e1 h1
    split at q
    · rename_i c s' h3
      cases q
      obtain ⟨e2, a, a1, fa1, r1⟩ := h E h1
      obtain ⟨h5, h4⟩ := ho r1 h3
      exact ⟨e2, _, by unfold fN; rw [a1]; exact h4, [], .inl (Vr.of_dry h5)⟩
    · cases q
  · cases q
theorem opIx_loc {l : Nat} {as : List A} {k : Int} {j : Nat} {x : A} (h : st[l]? = some (.lst as)) (hk : ixN as.length k = some j) (hj : as[j]? = some x) : opIx (.loc l) (.int k) st = .ok x st := by
  unfold opIx Ev.seqOf Ev.lstOf
  simp only [h]
  unfold atI
  rw [hk]
  simp only [Option.bind_some, hj]
theorem s_M1 {gg : A → FN} {act : Act} {i : Nat} {fk : FE} {gk : VE} {fs : FA} {gs : VA} (hm : MA gg act) (hq : SQ fk gk) (h : SB [] T fs gs) (hi : T.contains i = false := by rfl) : SE [] (T ++ [i]) (fM gg (f2 opIx (fVar i) fk) fs) (vM1 i act gk gs) := by
  intro st ρ e F p e' E q
  unfold vM1 at q
  split at q
  · rename_i ps0 k ek h0 hk
    split at q
    · rename_i j0 hj0
      split at q
      · rename_i ys0 hy0
        split at q
        · rename_i qs e1 h1
          split at q
          · rename_i ps h2
            split at q
            · rename_i j hj
              split at q
              · rename_i ys hy
                split at q
                · rename_i ys' r h3
                  cases q
                  obtain ⟨_, ka, kv, fk1, kr⟩ := hq E hk
                  cases kr.int
                  obtain ⟨bs, st1, F1, fb, a1, E1, x1, r1, k1⟩ := h E h1
                  obtain ⟨l0, as0, m0, bs0, fq0, b1, b2, b2', b3, P0⟩ := Plc.one E h0 hy0
                  obtain ⟨l, as, m, bs1, fq, c1, c2, c2', c3, P⟩ := Plc.one E1 h2 hy
                  obtain rfl : l0 = l := by rw [b1] at c1; cases c1; rfl
                  have hiT : i ∉ T := fun z => by
                    have := List.contains_iff_mem.mpr z
                    rw [hi] at this
                    cases this
                  obtain ⟨l', as', fq', d1, d2, d3, d4⟩ := E.slotL h0
                  obtain rfl : l0 = l' := by rw [b1] at d1; cases d1; rfl
                  have lF : l0 ∈ F i := by rw [d3]; exact List.mem_cons_self
                  have same : st1[l0]? = st[l0]? := x1.fr l0 (E.lt i l0 lF) fun n hn z => E.dj i n l0 (fun y => hiT (y ▸ hn)) lF z
                  rw [c2, b2] at same
                  cases same
                  have ej : j = j0 := by
                    rw [← c2'] at hj
                    rw [← b2'] at hj0
                    rw [hj] at hj0
                    exact Option.some.inj hj0
                  subst ej
                  rw [c3] at b3
                  cases b3
                  obtain ⟨a, as'', f, fr, g1, g2, g3, g4, g5⟩ := plc_act hm E1 x1 P r1 k1 h3
                  refine ⟨a, _, _, fr, ?_, g2, g3, .inl g4, g5⟩
                  unfold fM f2
                  rw [fVar_of b1]
                  simp only
                  rw [kv]
                  simp only
                  rw [opIx_loc b2 (by rw [b2']; exact hj0) c3]
                  simp only
                  rw [if_pos (by unfold isL Ev.lstOf; simp only [P0.at_]; rfl), a1]
                  exact g1
                · cases q
              · cases q
            · cases q
          · cases q
        · cases q
      · cases q
    · cases q
  · cases q
end
end Vs
/-! statements -/
namespace Vs
open PySem PySem.Spec PyProof.Rows L2 Gd Ev
inductive PF where
  | nx (e : PEnv) | bk (e : PEnv) | ct (e : PEnv) | rt (p : A) (e : PEnv)
abbrev VS := PEnv → Option PF
def Same (M : List Nat) (ρ ρ' : Rho) : Prop := ∀ i ∈ M, ρ'[i]? = ρ[i]?
def Out (M R T : List Nat) (st : Sto) (ρ : Rho) (F : Fp) (sr : SR) : PF → Prop
  | .nx e' => ∃ ρ' st' F', sr = .nx ρ' st' ∧ ER st' ρ' e' F' ∧ Stp T st F st' F' ∧ Same M ρ ρ'
  | .bk e' => ∃ ρ' st' F', sr = .bk ρ' st' ∧ ER st' ρ' e' F' ∧ Stp T st F st' F' ∧ Same M ρ ρ'
  | .ct e' => ∃ ρ' st' F', sr = .ct ρ' st' ∧ ER st' ρ' e' F' ∧ Stp T st F st' F' ∧ Same M ρ ρ'
  | .rt p e' => ∃ a ρ' st' F' fa, sr = .rt a st' ∧ ER st' ρ' e' F' ∧ Stp T st F st' F' ∧ Same M ρ ρ' ∧ VrE st' p a fa ∧ Fro R T st F F' fa
def SS (M R T : List Nat) (s : FS) (h : VS) : Prop := ∀ {st : Sto} {ρ : Rho} {e : PEnv} {F : Fp} {r : PF}, ER st ρ e F → h e = some r → Out M R T st ρ F (s ρ st) r
section
variable {M R S S0 S1 S2 S3 T T0 T1 T2 T3 : List Nat} {st st' st0 st1 st2 : Sto} {F F' F0 F1 F2 : Fp} {ρ ρ' ρ1 ρ2 : Rho} {e : PEnv}
theorem Same.refl : Same M ρ ρ := fun _ _ => rfl
theorem Same.trans (a : Same M ρ ρ1) (b : Same M ρ1 ρ2) : Same M ρ ρ2 := fun i hi => (b i hi).trans (a i hi)
theorem Same.set {i : Nat} {x : Option A} (h : M.contains i = false) : Same M ρ (ρ.set i x) := fun j hj => List.getElem?_set_ne fun z => by
  subst z
  rw [List.contains_iff_mem.mpr hj] at h
  cases h
theorem Out.from {sr : SR} {r : PF} (x : Stp T1 st F st1 F1) (sm : Same M ρ ρ1) (h : Out M R T2 st1 ρ1 F1 sr r) : Out M R (T1 ++ T2) st ρ F sr r := by
  cases r with
  | nx e' => obtain ⟨ρ', st', F', h1, h2, h3, h4⟩ := h; exact ⟨ρ', st', F', h1, h2, x.trans h3, sm.trans h4⟩
  | bk e' => obtain ⟨ρ', st', F', h1, h2, h3, h4⟩ := h; exact ⟨ρ', st', F', h1, h2, x.trans h3, sm.trans h4⟩
  | ct e' => obtain ⟨ρ', st', F', h1, h2, h3, h4⟩ := h; exact ⟨ρ', st', F', h1, h2, x.trans h3, sm.trans h4⟩
  | rt p e' => obtain ⟨a, ρ', st', F', fa, h1, h2, h3, h4, h5, h6⟩ := h; exact ⟨a, ρ', st', F', fa, h1, h2, x.trans h3, sm.trans h4, h5, h6.from x⟩
theorem Out.mono {sr : SR} {r : PF} (h : Out M R T1 st ρ F sr r) (t : ∀ i ∈ T1, i ∈ T2) : Out M R T2 st ρ F sr r := by
  cases r with
  | nx e' => obtain ⟨ρ', st', F', h1, h2, h3, h4⟩ := h; exact ⟨ρ', st', F', h1, h2, h3.mono t, h4⟩
  | bk e' => obtain ⟨ρ', st', F', h1, h2, h3, h4⟩ := h; exact ⟨ρ', st', F', h1, h2, h3.mono t, h4⟩
  | ct e' => obtain ⟨ρ', st', F', h1, h2, h3, h4⟩ := h; exact ⟨ρ', st', F', h1, h2, h3.mono t, h4⟩
  | rt p e' => obtain ⟨a, ρ', st', F', fa, h1, h2, h3, h4, h5, h6⟩ := h; exact ⟨a, ρ', st', F', fa, h1, h2, h3.mono t, h4, h5, h6.weak (fun _ h => h) id t⟩
def vnil : VS := fun e => some (.nx e)
def vbrk : VS := fun e => some (.bk e)
def vcnt : VS := fun e => some (.ct e)
theorem s_nil : SS M R [] sNil vnil := fun {st ρ e F r} E h => by cases h; exact ⟨ρ, st, F, rfl, E, Stp.refl, Same.refl⟩
theorem s_brk : SS M R [] sBrk vbrk := fun {st ρ e F r} E h => by cases h; exact ⟨ρ, st, F, rfl, E, Stp.refl, Same.refl⟩
theorem s_cnt : SS M R [] sCnt vcnt := fun {st ρ e F r} E h => by cases h; exact ⟨ρ, st, F, rfl, E, Stp.refl, Same.refl⟩
def vseq (g h : VS) : VS := fun e => match g e with
  | some (.nx e1) => h e1
  | r => r
theorem s_seq {s s' : FS} {g h : VS} (a : SS M R T1 s g) (b : SS M R T2 s' h) : SS M R (T1 ++ T2) (sSeq s s') (vseq g h) := by
  intro st ρ e F r E q
  unfold vseq at q
  split at q
  · rename_i e1 h1
    obtain ⟨ρ1, st1, F1, a1, E1, x1, m1⟩ := a E h1
    have := (b E1 q).from x1 m1
    unfold sSeq
    rw [a1]
    exact this
  · rename_i hn
    have h1 := (a E q).mono (T2 := T1 ++ T2) fun i hi => List.mem_append_left _ hi
    unfold sSeq
    cases r with
    | nx e' => exact (hn e' q).elim
    | bk e' => obtain ⟨ρ', st', F', h1, h2⟩ := h1; exact ⟨ρ', st', F', by rw [h1], h2⟩
    | ct e' => obtain ⟨ρ', st', F', h1, h2⟩ := h1; exact ⟨ρ', st', F', by rw [h1], h2⟩
    | rt p e' => obtain ⟨a, ρ', st', F', fa, h1, h2⟩ := h1; exact ⟨a, ρ', st', F', fa, by rw [h1], h2⟩
def vexp (g : VE) : VS := fun e => match g e with
  | some (_, e1) => some (.nx e1)
  | none => none
theorem s_exp {f : FE} {g : VE} (h : SE S T f g) : SS M R T (sExp f) (vexp g) := by
  intro st ρ e F r E q
  unfold vexp at q
  split at q
  · rename_i p e1 h1
    cases q
    obtain ⟨a, st1, F1, fa, a1, E1, x1, r1, k1⟩ := h E h1
    exact ⟨ρ, st1, F1, by unfold sExp; rw [a1], E1, x1, Same.refl⟩
  · cases q
def vret (g : VE) : VS := fun e => match g e with
  | some (p, e1) => some (.rt p e1)
  | none => none
theorem s_ret {f : FE} {g : VE} (h : SE S T f g) (hs : S.all (fun i => R.contains i) = true := by rfl) (hr : (R.isEmpty && !S.isEmpty) = false := by rfl) : SS M R T (sRet f) (vret g) := by
  intro st ρ e F r E q
  unfold vret at q
  split at q
  · rename_i p e1 h1
    cases q
    obtain ⟨a, st1, F1, fa, a1, E1, x1, r1, k1⟩ := h E h1
    refine ⟨a, ρ, st1, F1, fa, by unfold sRet; rw [a1], E1, x1, Same.refl, r1, k1.weak (fun i hi => List.contains_iff_mem.mp (List.all_eq_true.mp hs i hi)) (fun z => ?_) fun _ h => h⟩
    subst z
    cases S with
    | nil => rfl
    | cons a b => cases hr
  · cases q
def vretN : VS := fun e => some (.rt .non e)
theorem s_retN : SS M R [] sRetN vretN := fun {st ρ e F r} E h => by cases h; exact ⟨.non, ρ, st, F, [], rfl, E, Stp.refl, Same.refl, .inl ⟨rfl, rfl⟩, Fro.nil⟩
def vif (u : VT) (g h : VS) : VS := fun e => match u e with
  | some (true, e1) => g e1
  | some (false, e1) => h e1
  | none => none
theorem s_if {u : FT} {w : VT} {s s' : FS} {g g' : VS} (h : ST T0 u w) (h1 : SS M R T1 s g) (h2 : SS M R T2 s' g') : SS M R (T0 ++ (T1 ++ T2)) (sIf u s s') (vif w g g') := by
  intro st ρ e F r E q
  unfold vif at q
  split at q
  · rename_i e1 h3
    obtain ⟨st1, F1, a1, E1, x1⟩ := h E h3
    unfold sIf
    rw [a1]
    exact ((h1 E1 q).mono fun i hi => List.mem_append_left _ hi).from x1 Same.refl
  · rename_i e1 h3
    obtain ⟨st1, F1, a1, E1, x1⟩ := h E h3
    unfold sIf
    rw [a1]
    exact ((h2 E1 q).mono fun i hi => List.mem_append_right _ hi).from x1 Same.refl
  · cases q
/-! assignments -/
theorem ER.kill {i : Nat} (E : ER st ρ e F) : ER st ρ (kill i e) F where
  len := by rw [kill_len]; exact E.len
  own := fun k p h => E.own k p (kill_own h)
  bor := fun k S p h => E.bor k S p (kill_bor h).1
  nd := E.nd
  dj := E.dj
  lt := E.lt
  em := fun k hk h => by
    rw [kill_len] at hk
    exact E.em k hk fun p z => h p (own_kill z)
/-- slot i := an own value -/
theorem ER.asg {i : Nat} {p a : A} {fa : List Nat} (x : Stp T st0 F0 st F) (E : ER st ρ e F) (r : Vr st p a fa) (k : Fro [] T st0 F0 F fa) : ∃ F', ER st (ρ.set i (some a)) ((Vs.kill i e).set i (some (.own p))) F' ∧ Stp (T ++ [i]) st0 F0 st F' := by
  by_cases hi : i < e.length
  · refine ⟨upF F i fa, E.put (Nat.le_refl _) (fun _ _ _ => rfl) (List.length_set ..) (fun j hj => List.getElem?_set_ne fun z => hj z.symm) (k.nd rfl) (fun l hl j _ => (k.own hl).1 j) r.lt (fun p' hp _ => ?_) (fun _ _ z => nomatch z) (fun z => (z _ rfl).elim) (fun z => by omega), x.put2 (Nat.le_refl _) (fun _ _ _ => rfl) fun l hl => .inr (k.own hl).2⟩
    cases hp
    exact ⟨a, List.getElem?_set_self (by rw [E.len]; exact hi), r⟩
  · refine ⟨F, ?_, x.inl⟩
    rw [List.set_eq_of_length_le (by rw [E.len]; omega), List.set_eq_of_length_le (by rw [kill_len]; omega)]
    exact E.kill
def vasg (i : Nat) (g : VE) : VS := fun e => match g e with
  | some (p, e1) => some (.nx ((kill i e1).set i (some (.own p))))
  | none => none
theorem s_asg {i : Nat} {f : FE} {g : VE} (h : SE [] T f g) (hm : M.contains i = false := by rfl) : SS M R (T ++ [i]) (sAsg f (gSet i)) (vasg i g) := by
  intro st ρ e F r E q
  unfold vasg at q
  split at q
  · rename_i p e1 h1
    cases q
    obtain ⟨a, st1, F1, fa, a1, E1, x1, r1, k1⟩ := s_B h E h1
    obtain ⟨F', E2, x2⟩ := ER.asg (i := i) x1 E1 r1 k1
    exact ⟨_, st1, F', by unfold sAsg; rw [a1]; rfl, E2, x2, Same.set hm⟩
  · cases q
/-- x op= e -/
theorem s_aug {i : Nat} {op hh : Ev.F2} {f : FE} {g : VE} {S : List Nat} (ho : Of2 op hh) (h : SE S T f g) (hm : M.contains i = false := by rfl) : SS M R (T ++ [i]) (sAug i op f) (vasg i (v2 hh (rd [] i) g)) := by
  intro st ρ e F r E q
  unfold vasg v2 at q
  split at q
  · rename_i p e1 h1
    split at h1
    · rename_i p0 e0 h0
      have hr := s_rd (S := []) (i := i) E h0
      split at h1
      · rename_i q1 e2 h2
        split at h1
        · rename_i c s' h3
          cases h1
          cases q
          obtain ⟨a0, st0, F0, f0, a1, E0, x0, r0, k0⟩ := hr
          obtain ⟨b, st1, F1, fb, b1, E1, x1, r1, k1⟩ := h E0 h2
          have hst : st0 = st := by
            unfold fVar at a1
            split at a1
            · cases a1; rfl
            · cases a1
          subst hst
          have hF : ρ[i]? = some (some a0) := by
            unfold fVar at a1
            split at a1
            · rename_i h9; cases a1; exact h9
            · cases a1
          obtain ⟨u, _⟩ := k0.later r0.lt E0 x1 rfl
          obtain ⟨h5, h6⟩ := ho (r0.mono u) r1 h3
          obtain ⟨F', E2, x2⟩ := ER.asg (i := i) (x0.trans x1) E1 (Vr.of_dry (st := st1) h5) Fro.nil
          exact ⟨_, st1, F', by unfold sAug; rw [hF]; simp only; rw [b1]; simp only; rw [h6], E2, x2, Same.set hm⟩
        · cases h1
      · cases h1
    · cases h1
  · cases q
theorem of_addI : Of2 opAddI opAddI := by
  intro st p q a b c fa fb s' ra rb h
  unfold opAddI at h
  split at h
  · cases h
    rw [ra.int, rb.int]
    exact ⟨rfl, rfl⟩
  · cases h
/-- some slots := own values -/
def setOwn : List Nat → List A → PEnv → PEnv
  | i :: is, p :: ps, e => setOwn is ps ((kill i e).set i (some (.own p)))
  | _, _, e => e
def setR : List Nat → List A → Rho → Rho
  | i :: is, a :: as, ρ => setR is as (ρ.set i (some a))
  | _, _, ρ => ρ
theorem ER.asgs : ∀ {is : List Nat} {ps as : List A} {fa : List Nat} {ρ : Rho} {e : PEnv} {F : Fp} {T : List Nat}, Stp T st0 F0 st F → ER st ρ e F → VrL st ps as fa → Fro [] T st0 F0 F fa → is.length = ps.length → (is.all fun i => !M.contains i) = true →
    ∃ F', ER st (setR is as ρ) (setOwn is ps e) F' ∧ Stp (T ++ is) st0 F0 st F' ∧ Same M ρ (setR is as ρ)
  | [], [], as, fa, ρ, e, F, T, x, E, r, k, hl, hm => by
    cases r.1
    exact ⟨F, E, by rw [List.append_nil]; exact x, Same.refl⟩
  | i :: is, p :: ps, as, fa, ρ, e, F, T, x, E, ⟨a, r, f1, f2, e1, e2, h1, h2⟩, k, hl, hm => by
    subst e1 e2
    have hm' : (!M.contains i && is.all fun i => !M.contains i) = true := hm
    rw [Bool.and_eq_true, Bool.not_eq_true'] at hm'
    have nd := List.nodup_append.mp (k.nd rfl)
    have k1 : Fro [] T st0 F0 F f1 := k.sub ⟨fun l hl => List.mem_append_left _ hl, fun _ => nd.1⟩
    have k2 : Fro [] T st0 F0 F f2 := k.sub ⟨fun l hl => List.mem_append_right _ hl, fun _ => nd.2.1⟩
    by_cases hi : i < e.length
    · have E1 : ER st (ρ.set i (some a)) ((Vs.kill i e).set i (some (.own p))) (upF F i f1) := E.put (Nat.le_refl _) (fun _ _ _ => rfl) (List.length_set ..) (fun j hj => List.getElem?_set_ne fun z => hj z.symm) (k1.nd rfl) (fun l hl j _ => (k1.own hl).1 j) h1.lt (fun p' hp _ => by
        cases hp
        exact ⟨a, List.getElem?_set_self (by rw [E.len]; exact hi), h1⟩) (fun _ _ z => nomatch z) (fun z => (z _ rfl).elim) (fun z => by omega)
      have x1 : Stp (T ++ [i]) st0 F0 st (upF F i f1) := x.put2 (Nat.le_refl _) (fun _ _ _ => rfl) fun l hl => .inr (k1.own hl).2
      have k3 : Fro [] (T ++ [i]) st0 F0 (upF F i f1) f2 := ⟨fun l hl => .inr ⟨fun j z => by
        unfold upF at z
        split at z
        · exact nd.2.2 l z l hl rfl
        · exact (k2.own hl).1 j z, (k2.own hl).2.imp (fun ⟨j, hj, q⟩ => ⟨j, List.mem_append_left _ hj, q⟩) id⟩, fun _ => nd.2.1⟩
      obtain ⟨F', E2, x2, s2⟩ := ER.asgs (is := is) (ps := ps) x1 E1 h2 k3 (by simpa using hl) hm'.2
      exact ⟨F', E2, by rw [List.append_assoc] at x2; exact x2, (Same.set hm'.1).trans s2⟩
    · have E1 : ER st (ρ.set i (some a)) ((Vs.kill i e).set i (some (.own p))) F := by
        rw [List.set_eq_of_length_le (by rw [E.len]; omega), List.set_eq_of_length_le (by rw [kill_len]; omega)]
        exact E.kill
      obtain ⟨F', E2, x2, s2⟩ := ER.asgs (is := is) (ps := ps) x E1 h2 k2 (by simpa using hl) hm'.2
      exact ⟨F', E2, x2.mono fun j hj => by
        rcases List.mem_append.mp hj with q | q
        · exact List.mem_append_left _ q
        · exact List.mem_append_right _ (List.mem_cons_of_mem _ q), (Same.set hm'.1).trans s2⟩
  | [], _ :: _, _, _, _, _, _, _, _, _, _, _, hl, _ => by simp at hl
  | _ :: _, [], _, _, _, _, _, _, _, _, _, _, hl, _ => by simp at hl
/-- x, y = e -/
def vasgT (is : List Nat) (g : VE) : VS := fun e => match g e with
  | some (.tup ps, e1) => if ps.length = is.length then some (.nx (setOwn is ps e1)) else none
  | _ => none
def gNs : List Nat → FGs
  | [] => gN
  | i :: is => gC (gSet i) (gNs is)
theorem gNs_run : ∀ {is : List Nat} {as : List A} {ρ : Rho}, as.length = is.length → gNs is as ρ st = .ok (setR is as ρ) st
  | [], [], ρ, _ => rfl
  | i :: is, a :: as, ρ, h => by
    show gNs is as (ρ.set i (some a)) st = _
    rw [gNs_run (by simpa using h)]
    rfl
  | [], _ :: _, _, h => by simp at h
  | _ :: _, [], _, h => by simp at h
theorem s_asgT {is : List Nat} {gs : FGs} {n : Nat} {f : FE} {g : VE} (h : SE [] T f g) (hg : gs = gNs is := by rfl) (hn : n = is.length := by rfl) (hm : (is.all fun i => !M.contains i) = true := by rfl) : SS M R (T ++ is) (sAsg f (gTupF n gs)) (vasgT is g) := by
  intro st ρ e F r E q
  subst hg hn
  unfold vasgT at q
  split at q
  · rename_i ps e1 h1
    split at q
    · rename_i hl
      cases q
      obtain ⟨a, st1, F1, fa, a1, E1, x1, ⟨as, ea, r1⟩, k1⟩ := s_B h E h1
      subst ea
      obtain ⟨F', E2, x2, s2⟩ := ER.asgs (M := M) x1 E1 r1 k1 hl.symm hm
      have hla : as.length = is.length := by rw [r1.len, hl]
      refine ⟨_, st1, F', ?_, E2, x2, s2⟩
      unfold sAsg
      rw [a1]
      simp only [gTupF]
      rw [if_pos hla, gNs_run hla]
    · cases q
  · cases q
def vpar (is : List Nat) (g : VA) : VS := fun e => match g e with
  | some (ps, e1) => if ps.length = is.length then some (.nx (setOwn is ps e1)) else none
  | none => none
theorem s_par {i j : Nat} {f : FA} {g : VA} (h : SB [] T f g) (hm : ([i, j].all fun i => !M.contains i) = true := by rfl) : SS M R (T ++ [i, j]) (sPar i j f) (vpar [i, j] g) := by
  intro st ρ e F r E q
  unfold vpar at q
  split at q
  · rename_i ps e1 h1
    split at q
    · rename_i hl
      cases q
      obtain ⟨as, st1, F1, fa, a1, E1, x1, r1, k1⟩ := h E h1
      obtain ⟨F', E2, x2, s2⟩ := ER.asgs (M := M) x1 E1 r1 k1 hl.symm hm
      have hla := r1.len
      rw [hl] at hla
      refine ⟨_, st1, F', ?_, E2, x2, s2⟩
      match as, hla with
      | [a, b], _ => unfold sPar; rw [a1]; rfl
    · cases q
  · cases q
theorem s_par3 {i j k : Nat} {f : FA} {g : VA} (h : SB [] T f g) (hm : ([i, j, k].all fun i => !M.contains i) = true := by rfl) : SS M R (T ++ [i, j, k]) (sPar3 i j k f) (vpar [i, j, k] g) := by
  intro st ρ e F r E q
  unfold vpar at q
  split at q
  · rename_i ps e1 h1
    split at q
    · rename_i hl
      cases q
      obtain ⟨as, st1, F1, fa, a1, E1, x1, r1, k1⟩ := h E h1
      obtain ⟨F', E2, x2, s2⟩ := ER.asgs (M := M) x1 E1 r1 k1 hl.symm hm
      have hla := r1.len
      rw [hl] at hla
      refine ⟨_, st1, F', ?_, E2, x2, s2⟩
      match as, hla with
      | [a, b, c], _ => unfold sPar3; rw [a1]; rfl
    · cases q
  · cases q
/-! x[k] = e -/
def vset0 (i : Nat) (gk g : VE) : VS := fun e => match g e with
  | some (p, e1) => (match e1[i]?, gk e1 with
    | some (some (.own (.tmp ps))), some (.int k, _) => (match ixN ps.length k with
      | some j => some (.nx ((kill i e1).set i (some (.own (.tmp (ps.set j p))))))
      | none => none)
    | _, _ => none)
  | none => none
theorem VrL.put {ps as : List A} {fp : List Nat} {i : Nat} {p' a' : A} {fq : List Nat} (h : VrL st ps as fp) (hi : i < ps.length) (r : Vr st p' a' fq) : ∃ g, VrL st (ps.set i p') (as.set i a') g ∧ (∀ x ∈ g, x ∈ fp ∨ x ∈ fq) ∧ ((fp ++ fq).Nodup → g.Nodup) := by
  obtain ⟨a, f1, f2, f3, h1, h2, h3, h4⟩ := h.split (List.getElem?_eq_getElem hi)
  subst h3
  refine ⟨_, h4 (fun _ _ => rfl) r, fun x hx => ?_, fun nd => ?_⟩
  · rcases List.mem_append.mp hx with q | q
    · exact .inl (List.mem_append_left _ q)
    · rcases List.mem_append.mp q with q | q
      · exact .inr q
      · exact .inl (List.mem_append_right _ (List.mem_append_right _ q))
  · obtain ⟨n1, n2, n3⟩ := List.nodup_append.mp nd
    obtain ⟨m1, m2, m3⟩ := List.nodup_append.mp n1
    obtain ⟨k1, k2, k3⟩ := List.nodup_append.mp m2
    refine List.nodup_append.mpr ⟨m1, List.nodup_append.mpr ⟨n2, k2, fun x hx y hy e => n3 y (List.mem_append_right _ (List.mem_append_right _ hy)) x hx e.symm⟩, fun x hx y hy => ?_⟩
    rcases List.mem_append.mp hy with q | q
    · exact n3 x (List.mem_append_left _ hx) y q
    · exact m3 x hx y (List.mem_append_right _ q)
theorem plc_set {i l j : Nat} {ps as : List A} {p a : A} {fq fa : List Nat} {up : List A → PEnv} (E : ER st ρ e F) (x1 : Stp T st0 F0 st F) (P : Plc st ρ e F i l ps as fq up) (hj : j < ps.length) (r : Vr st p a fa) (k : Fro [] T st0 F0 F fa) :
    ∃ f, ER (st.set l (.lst (as.set j a))) ρ (up (ps.set j p)) (upF F i f) ∧ Stp (T ++ [i]) st0 F0 (st.set l (.lst (as.set j a))) (upF F i f) := by
  obtain ⟨g, g1, g2, g3⟩ := P.vr.put hj r
  have dis : (fq ++ fa).Nodup := List.nodup_append.mpr ⟨P.nd, k.nd rfl, fun x hx y hy e => (k.own (e ▸ hy)).1 i (P.sub x hx)⟩
  obtain ⟨f, E2, hf⟩ := P.upd g1 (fun z => (g2 l z).elim P.lq fun q => (k.own q).1 i P.li) (g3 dis) fun x hx => (g2 x hx).imp id fun q => (k.own q).1
  refine ⟨f, E2, x1.put2 (by rw [List.length_set]; exact Nat.le_refl _) (fun x hx hn => set_ne fun z => hn (z ▸ P.li)) fun x hx => ?_⟩
  rcases hf x hx with q | q
  · exact (g2 x q).imp (P.sub x) fun q => (k.own q).2
  · exact .inl q.1
theorem s_set0 {i : Nat} {fk f : FE} {gk g : VE} (hq : SQ fk gk) (h : SE [] T f g) : SS M R (T ++ [i]) (sAsg f (gSubF (fVar i) fk)) (vset0 i gk g) := by
  intro st ρ e F r E q
  unfold vset0 at q
  split at q
  · rename_i p e1 h1
    split at q
    · rename_i ps k ek h2 h3
      split at q
      · rename_i j hj
        cases q
        obtain ⟨a, st1, F1, fa, a1, E1, x1, r1, k1⟩ := s_B h E h1
        obtain ⟨l, as, fq, b1, P⟩ := Plc.zero E1 h2
        obtain ⟨_, ka, kv, fk1, kr⟩ := hq E1 h3
        cases kr.int
        have hjl : j < ps.length := (ixN_seq hj).2.1
        obtain ⟨f', E2, x2⟩ := plc_set E1 x1 P hjl r1 k1
        refine ⟨ρ, _, _, ?_, E2, x2, Same.refl⟩
        unfold sAsg gSubF
        rw [a1]
        simp only
        rw [fVar_of b1]
        simp only
        rw [kv]
        simp only
        unfold setA
        simp only [P.at_]
        rw [P.vr.len, hj]
      · cases q
    · cases q
  · cases q
/-- x[k1][k] = e -/
def vset1 (i : Nat) (gk1 gk g : VE) : VS := fun e => match g e with
  | some (p, e1) => (match e1[i]?, gk1 e1, gk e1 with
    | some (some (.own (.tmp ps))), some (.int k1, _), some (.int k, _) => (match ixN ps.length k1 with
      | some j1 => (match ps[j1]? with
        | some (.tmp ys) => (match ixN ys.length k with
          | some j => some (.nx ((kill i e1).set i (some (.own (.tmp (ps.set j1 (.tmp (ys.set j p))))))))
          | none => none)
        | _ => none)
      | none => none)
    | _, _, _ => none)
  | none => none
theorem s_set1 {i : Nat} {fk1 fk f : FE} {gk1 gk g : VE} (hq1 : SQ fk1 gk1) (hq : SQ fk gk) (h : SE [] T f g) : SS M R (T ++ [i]) (sAsg f (gSubF (f2 opIx (fVar i) fk1) fk)) (vset1 i gk1 gk g) := by
  intro st ρ e F r E q
  unfold vset1 at q
  split at q
  · rename_i p e1 h1
    split at q
    · rename_i ps k1 ek1 k ek h2 h3 h4
      split at q
      · rename_i j1 hj1
        split at q
        · rename_i ys hy
          split at q
          · rename_i j hj
            cases q
            obtain ⟨a, st1, F1, fa, a1, E1, x1, r1, kk1⟩ := s_B h E h1
            obtain ⟨l0, as0, l, as, fq, b1, b2, b3, b4, P⟩ := Plc.one E1 h2 hy
            obtain ⟨_, ka, kv, fk1, kr⟩ := hq1 E1 h3
            cases kr.int
            obtain ⟨_, kb, kw, fk2, kr2⟩ := hq E1 h4
            cases kr2.int
            have hjl : j < ys.length := (ixN_seq hj).2.1
            obtain ⟨f', E2, x2⟩ := plc_set E1 x1 P hjl r1 kk1
            refine ⟨ρ, _, _, ?_, E2, x2, Same.refl⟩
            unfold sAsg gSubF f2
            rw [a1]
            simp only
            rw [fVar_of b1]
            simp only
            rw [kv]
            simp only
            rw [opIx_loc b2 (by rw [b3]; exact hj1) b4]
            simp only
            rw [kw]
            simp only
            unfold setA
            simp only [P.at_]
            rw [P.vr.len, hj]
          · cases q
        · cases q
      · cases q
    · cases q
  · cases q
/-- x[k] op= e, of ints -/
def vaug0 (i : Nat) (op : Ev.F2) (gk g : VE) : VS := fun e => match e[i]?, gk e, g e with
  | some (some (.own (.tmp ps))), some (.int k, _), some (y, _) => (match ixN ps.length k with
    | some j => (match ps[j]? with
      | some x => (match op x y [] with
        | .ok z _ => some (.nx ((kill i e).set i (some (.own (.tmp (ps.set j z))))))
        | .no => none)
      | none => none)
    | none => none)
  | _, _, _ => none
theorem s_aug0 {i : Nat} {op hh : Ev.F2} {fk f : FE} {gk g : VE} (ho : Of2 op hh) (hq : SQ fk gk) (h : SQ f g) : SS M R [i] (sAugS (fVar i) fk f op) (vaug0 i hh gk g) := by
  intro st ρ e F r E q
  unfold vaug0 at q
  split at q
  · rename_i ps k ek y ey h2 h3 h4
    split at q
    · rename_i j hj
      split at q
      · rename_i x hx
        split at q
        · rename_i z s' h5
          cases q
          obtain ⟨l, as, fq, b1, P⟩ := Plc.zero E h2
          obtain ⟨_, ka, kv, fk1, kr⟩ := hq E h3
          cases kr.int
          obtain ⟨_, yb, yw, fk2, yr⟩ := h E h4
          obtain ⟨ax, fx, c1, c2, _⟩ := P.vr.get hx
          obtain ⟨d1, d2⟩ := ho (.inl c2) yr h5
          have hjl : j < ps.length := (ixN_seq hj).2.1
          obtain ⟨f', E2, x2⟩ := plc_set (T := []) (st0 := st) (F0 := F) E Stp.refl P hjl (Vr.of_dry (st := st) d1) Fro.nil
          refine ⟨ρ, _, _, ?_, E2, x2, Same.refl⟩
          unfold sAugS
          rw [fVar_of b1]
          simp only
          rw [kv]
          simp only
          have e1 : lstOf (.loc l) st = some as := by unfold Ev.lstOf; simp only [P.at_]
          rw [e1]
          simp only
          have e2 : atI as k = some ax := by unfold atI; rw [P.vr.len, hj]; exact c1
          rw [e2]
          simp only
          rw [yw]
          simp only
          rw [d2]
          simp only
          unfold setA
          simp only [P.at_]
          rw [P.vr.len, hj]
        · cases q
      · cases q
    · cases q
  · cases q
end
end Vs
/-! loops, comprehensions -/
namespace Vs
open PySem PySem.Spec PyProof.Rows L2 Gd Ev
section
variable {M R S S0 S1 S2 S3 T T0 T1 T2 T3 : List Nat} {st st' st0 st1 st2 : Sto} {F F' F0 F1 F2 : Fp} {ρ ρ' ρ1 ρ2 : Rho} {e : PEnv}
/-- places that nothing with T touches -/
def Hold (S : List Nat) (st : Sto) (F : Fp) (fa : List Nat) : Prop := ∀ l ∈ fa, l < st.length ∧ ((∃ j ∈ S, l ∈ F j) ∨ ∀ i, l ∉ F i)
theorem Hold.step {fa : List Nat} (h : Hold S st F fa) (E : ER st ρ e F) (x : Stp T st F st' F') (hd : dsj S T = true) : (∀ l ∈ fa, st'[l]? = st[l]?) ∧ Hold S st' F' fa := by
  refine ⟨fun l hl => x.fr l (h l hl).1 fun i hi z => ?_, fun l hl => ⟨Nat.lt_of_lt_of_le (h l hl).1 x.le, ?_⟩⟩
  · rcases (h l hl).2 with ⟨j, hj, q⟩ | q
    · exact E.dj j i l (fun y => dsj_not hd hj (y ▸ hi)) q z
    · exact q i z
  · rcases (h l hl).2 with ⟨j, hj, q⟩ | q
    · exact .inl ⟨j, hj, by rw [x.kp j (dsj_not hd hj)]; exact q⟩
    · refine .inr fun i z => ?_
      rcases x.nw i l z with y | ⟨j, _, y⟩ | y
      · exact q i y
      · exact q j y
      · have := (h l hl).1; omega
theorem Fro.hold {fa : List Nat} (k : Fro S T st0 F0 F fa) (h : ∀ l ∈ fa, l < st.length) : Hold S st F fa := fun l hl => ⟨h l hl, (k.at_ l hl).imp id And.left⟩
/-! what is gone through -/
abbrev VI := PEnv → Option (List A × List Nat × PEnv)
def SI (S T : List Nat) (f : FI) (g : VI) : Prop := ∀ {st : Sto} {ρ : Rho} {e : PEnv} {F : Fp} {ps : List A} {src : List Nat} {e' : PEnv}, ER st ρ e F → g e = some (ps, src, e') →
  ∃ xs G st' F' fa fq, f ρ st = .ok (xs, G) st' ∧ ER st' ρ e' F' ∧ Stp T st F st' F' ∧ VrL st' ps xs fq ∧ (∀ l ∈ fq, l ∈ fa) ∧ Hold S st' F' fa ∧ (∀ l ∈ fq, ∃ j ∈ src, l ∈ F' j) ∧ (∀ j ∈ src, j ∈ S) ∧ (∀ st2 : Sto, (∀ l ∈ fa, st2[l]? = st'[l]?) → G st2)
def seqI : A → Option (List A)
  | .tup xs => some xs
  | .tmp xs => some xs
  | .frz xs => some xs
  | _ => none
theorem seqI_dry {p : A} {ps : List A} (h : seqI p = some ps) (hd : p.dry = true) : dryL ps = true := by
  cases p with
  | tup xs => cases h; exact hd
  | tmp _ => cases hd
  | frz _ => cases hd
  | _ => cases h
/-- a slot's list or tuple -/
def viV (S : List Nat) (i : Nat) : VI := fun e => match e[i]? with
  | some (some (.own p)) => if (p.dry || S.contains i) = true then (match seqI p with
    | some ps => some (ps, if dryL ps = true then [] else [i], e)
    | none => none) else none
  | some (some (.bor B p)) => if (p.dry || B.all fun j => S.contains j) = true then (match seqI p with
    | some ps => some (ps, if dryL ps = true then [] else B, e)
    | none => none) else none
  | _ => none
theorem fIter_of {f : FE} {a : A} {xs : List A} (h : f ρ st = .ok a st') (h2 : Ev.seqOf a st' = some xs) (hp : ∀ x y, a ≠ .pr x y) : fIter f ρ st = .ok (xs, stillOf a xs) st' := by
  unfold fIter
  simp only [h]
  cases a with
  | tup as => cases h2; rfl
  | pr x y => exact (hp x y rfl).elim
  | tmp as => cases h2; rfl
  | frz as => cases h2; rfl
  | loc l =>
    have : lstOf (.loc l) st' = some xs := h2
    simp only [this]
  | non => cases h2
  | bl _ => cases h2
  | int _ => cases h2
  | str _ => cases h2
  | dtm _ => cases h2
theorem iter_vr {p a : A} {fp : List Nat} {ps : List A} (r : VrE st p a fp) (h : seqI p = some ps) : ∃ xs fq, Ev.seqOf a st = some xs ∧ VrL st ps xs fq ∧ (∀ l ∈ fq, l ∈ fp) ∧ (∀ x y, a ≠ .pr x y) ∧
    ∀ st2 : Sto, (∀ l ∈ fp, st2[l]? = st[l]?) → stillOf a xs st2 := by
  cases p with
  | tup qs =>
    cases h
    obtain ⟨as, e, r'⟩ := r.tup
    subst e
    exact ⟨as, fp, rfl, r', fun _ h => h, (fun _ _ z => nomatch z), fun _ _ => trivial⟩
  | frz qs =>
    cases h
    rcases r with ⟨e, hd, _⟩ | ⟨_, _, e, _⟩ | ⟨_, e, _⟩
    · subst e
      exact ⟨_, [], rfl, VrL.of_dry hd, fun _ h => (List.not_mem_nil h).elim, (fun _ _ z => nomatch z), fun _ _ => trivial⟩
    · cases e
    · cases e
  | tmp qs =>
    cases h
    rcases r with ⟨l, as, fr, e1, e2, e3, r⟩ | ⟨_, as, e1, e2, r⟩ | ⟨_, e, _⟩
    · subst e1
      refine ⟨as, fr, ?_, r, fun x hx => by rw [e3]; exact List.mem_cons_of_mem _ hx, (fun _ _ z => nomatch z), fun st2 hs => ?_⟩
      · unfold Ev.seqOf Ev.lstOf; simp only [e2]
      · show st2[l]? = some (.lst as)
        rw [hs l (by rw [e3]; exact List.mem_cons_self), e2]
    · cases e1
      subst e2
      exact ⟨as, fp, rfl, r, fun _ h => h, (fun _ _ z => nomatch z), fun _ _ => trivial⟩
    · cases e
  | _ => cases h
theorem si_V {i : Nat} : SI S [] (fIter (fVar i)) (viV S i) := by
  intro st ρ e F ps src e' E h
  unfold viV at h
  split at h
  · rename_i p h1
    split at h
    · rename_i hc
      rw [Bool.or_eq_true] at hc
      split at h
      · rename_i qs h2
        cases h
        obtain ⟨a, h3, h4⟩ := E.own i _ h1
        obtain ⟨xs, fq, g1, g2, g3, g4, g5⟩ := iter_vr (.inl h4) h2
        have hold : Hold S st F (F i) := fun l hl => ⟨E.lt i l hl, .inl ⟨i, by
          rcases hc with hc | hc
          · rw [(h4.dry hc).2] at hl; cases hl
          · exact List.contains_iff_mem.mp hc, hl⟩⟩
        refine ⟨xs, _, st, F, F i, fq, fIter_of (fVar_of h3) g1 g4, E, Stp.refl, g2, g3, hold, fun l hl => ?_, fun j hj => ?_, g5⟩
        · split
          · rename_i hd
            rw [(g2.dry hd).2] at hl; cases hl
          · exact ⟨i, List.mem_singleton.mpr rfl, g3 l hl⟩
        · split at hj
          · cases hj
          · rename_i hd
            rw [List.mem_singleton.mp hj]
            rcases hc with hc | hc
            · exact (hd (seqI_dry h2 hc)).elim
            · exact List.contains_iff_mem.mp hc
      · cases h
    · cases h
  · rename_i B p h1
    split at h
    · rename_i hc
      rw [Bool.or_eq_true] at hc
      split at h
      · rename_i qs h2
        cases h
        obtain ⟨a, fb, h3, h4, h5⟩ := E.bor i _ _ h1
        obtain ⟨xs, fq, g1, g2, g3, g4, g5⟩ := iter_vr (.inl h4) h2
        have hold : Hold S st F fb := fun l hl => ⟨h4.lt l hl, .inl (by
          obtain ⟨j, hj, q⟩ := h5 l hl
          rcases hc with hc | hc
          · rw [(h4.dry hc).2] at hl; cases hl
          · exact ⟨j, List.contains_iff_mem.mp (List.all_eq_true.mp hc j hj), q⟩)⟩
        refine ⟨xs, _, st, F, fb, fq, fIter_of (fVar_of h3) g1 g4, E, Stp.refl, g2, g3, hold, fun l hl => ?_, fun j hj => ?_, g5⟩
        · split
          · rename_i hd
            rw [(g2.dry hd).2] at hl; cases hl
          · exact h5 l (g3 l hl)
        · split at hj
          · cases hj
          · rename_i hd
            rcases hc with hc | hc
            · exact (hd (seqI_dry h2 hc)).elim
            · exact List.contains_iff_mem.mp (List.all_eq_true.mp hc j hj)
      · cases h
    · cases h
  · cases h
/-- any value's items, without places of their own -/
def viE (g : VE) : VI := fun e => match g e with
  | some (p, e1) => (match seqI p with
    | some ps => if dryL ps = true then some (ps, [], e1) else none
    | none => none)
  | none => none
theorem si_E {f : FE} {g : VE} (h : SE S T f g) : SI S T (fIter f) (viE g) := by
  intro st ρ e F ps src e' E q
  unfold viE at q
  split at q
  · rename_i p e1 h1
    split at q
    · rename_i qs h2
      split at q
      · rename_i hd
        cases q
        obtain ⟨a, st1, F1, fa, a1, E1, x1, r1, k1⟩ := h E h1
        obtain ⟨xs, fq, g1, g2, g3, g4, g5⟩ := iter_vr r1 h2
        have hfq := (g2.dry hd).2
        exact ⟨xs, _, st1, F1, fa, fq, fIter_of a1 g1 g4, E1, x1, g2, g3, k1.hold r1.lt, (fun l hl => by rw [hfq] at hl; cases hl), fun _ h => (List.not_mem_nil h).elim, g5⟩
      · cases q
    · cases q
  · cases q
def viEnum (g : VI) : VI := fun e => match g e with
  | some (ps, src, e1) => some (enumA ps, src, e1)
  | none => none
theorem enum_vr : ∀ {ps xs : List A} {fq : List Nat} (n : Nat), VrL st ps xs fq → VrL st ((ps.zipIdx n).map fun p => .pr (.int (p.2 : Int)) p.1) ((xs.zipIdx n).map fun p => .pr (.int (p.2 : Int)) p.1) fq
  | [], _, _, n, h => by rw [h.1, h.2]; exact ⟨rfl, rfl⟩
  | p :: ps, xs, fq, n, ⟨a, r, f1, f2, e, e1, h1, h2⟩ => by
    subst e e1
    exact ⟨.pr (.int (n : Int)) a, _, f1, f2, rfl, rfl, ⟨.int (n : Int), a, [], f1, rfl, rfl, ⟨rfl, rfl⟩, h1⟩, enum_vr (n + 1) h2⟩
theorem si_enum {f : FE} {g : VI} (h : SI S T (fIter f) g) : SI S T (fEnum f) (viEnum g) := by
  intro st ρ e F ps src e' E q
  unfold viEnum at q
  split at q
  · rename_i qs src' e1 h1
    cases q
    obtain ⟨xs, G, st1, F1, fa, fq, a1, E1, x1, r1, k1, k2, k3, k4, k5⟩ := h E h1
    exact ⟨enumA xs, G, st1, F1, fa, fq, by unfold fEnum; rw [a1], E1, x1, enum_vr 0 r1, k1, k2, k3, k4, k5⟩
  · cases q
def viRg1 (g : VE) : VI := fun e => match g e with
  | some (.int j, e1) => if -(2 ^ 62) ≤ j ∧ j < 2 ^ 62 then some (rgA 0 j, [], e1) else none
  | _ => none
theorem hold_nil : Hold S st F [] := fun _ h => (List.not_mem_nil h).elim
theorem si_rg1 {f : FE} {g : VE} (h : SE S T f g) : SI [] T (fRg1 f) (viRg1 g) := by
  intro st ρ e F ps src e' E q
  unfold viRg1 at q
  split at q
  · rename_i j e1 h1
    split at q
    · rename_i hc
      cases q
      obtain ⟨a, st1, F1, fa, a1, E1, x1, r1, k1⟩ := h E h1
      exact ⟨_, _, st1, F1, [], [], by unfold fRg1; rw [a1, r1.int]; exact if_pos hc, E1, x1, VrL.of_dry (dryL_rg _ _), fun _ h => h, hold_nil, fun _ h => (List.not_mem_nil h).elim, fun _ h => h, fun _ _ => trivial⟩
    · cases q
  · cases q
def viRg2 (g h : VE) : VI := fun e => match g e with
  | some (.int i, e1) => (match h e1 with
    | some (.int j, e2) => if (-(2 ^ 62) ≤ i ∧ i < 2 ^ 62) ∧ (-(2 ^ 62) ≤ j ∧ j < 2 ^ 62) then some (rgA i j, [], e2) else none
    | _ => none)
  | _ => none
theorem si_rg2 {f f' : FE} {g g' : VE} (h : SE S1 T1 f g) (h' : SE S2 T2 f' g') : SI [] (T1 ++ T2) (fRg2 f f') (viRg2 g g') := by
  intro st ρ e F ps src e' E q
  unfold viRg2 at q
  split at q
  · rename_i i e1 h1
    split at q
    · rename_i j e2 h2
      split at q
      · rename_i hc
        cases q
        obtain ⟨a, st1, F1, fa, a1, E1, x1, r1, k1⟩ := h E h1
        obtain ⟨b, st2, F2, fb, a2, E2, x2, r2, k2⟩ := h' E1 h2
        exact ⟨_, _, st2, F2, [], [], by unfold fRg2; rw [a1, r1.int]; simp only; rw [a2, r2.int]; exact if_pos hc, E2, x1.trans x2, VrL.of_dry (dryL_rg _ _), fun _ h => h, hold_nil, fun _ h => (List.not_mem_nil h).elim, fun _ h => h, fun _ _ => trivial⟩
      · cases q
    · cases q
  · cases q
open Classical in
noncomputable def viRg3 (g h k : VE) : VI := fun e => match g e with
  | some (.int i, e1) => (match h e1 with
    | some (.int j, e2) => (match k e2 with
      | some (.int c, e3) => if RgC i j c (Builtin.Range.rangeSize i j c).toNat then some (rg3A i c (Builtin.Range.rangeSize i j c).toNat, [], e3) else none
      | _ => none)
    | _ => none)
  | _ => none
theorem dryL_rg3 (i c : Int) (n : Nat) : dryL (rg3A i c n) = true := dryL_map fun _ _ => rfl
theorem si_rg3 {f f' f'' : FE} {g g' g'' : VE} (h : SE S1 T1 f g) (h' : SE S2 T2 f' g') (h'' : SE S3 T3 f'' g'') : SI [] (T1 ++ (T2 ++ T3)) (fRg3 f f' f'') (viRg3 g g' g'') := by
  intro st ρ e F ps src e' E q
  unfold viRg3 at q
  split at q
  · rename_i i e1 h1
    split at q
    · rename_i j e2 h2
      split at q
      · rename_i c e3 h3
        split at q
        · rename_i hc
          cases q
          obtain ⟨a, st1, F1, fa, a1, E1, x1, r1, k1⟩ := h E h1
          obtain ⟨b, st2, F2, fb, a2, E2, x2, r2, k2⟩ := h' E1 h2
          obtain ⟨d, st3, F3, fc, a3, E3, x3, r3, k3⟩ := h'' E2 h3
          exact ⟨_, _, st3, F3, [], [], by unfold fRg3; rw [a1, r1.int]; simp only; rw [a2, r2.int]; simp only; rw [a3, r3.int]; exact if_pos hc, E3, x1.trans (x2.trans x3), VrL.of_dry (dryL_rg3 _ _ _), fun _ h => h, hold_nil, fun _ h => (List.not_mem_nil h).elim, fun _ h => h, fun _ _ => trivial⟩
        · cases q
      · cases q
    · cases q
  · cases q
/-! what an item is bound to -/
abbrev VB := List Nat → A → PEnv → Option PEnv
def itE (src : List Nat) (p : A) : Option Ent := if p.dry = true then some (.own p) else if src.isEmpty = true then none else some (.bor src p)
theorem ER.putB {i : Nat} {src : List Nat} {p a : A} {fb : List Nat} (E : ER st ρ e F) (r : Vr st p a fb) (hb : ∀ l ∈ fb, ∃ j ∈ src, l ∈ F j) (hi : i ∉ src) {en : Ent} (hen : itE src p = some en) :
    ∃ F', ER st (ρ.set i (some a)) ((Vs.kill i e).set i (some en)) F' ∧ Stp [i] st F st F' := by
  by_cases hlt : i < e.length
  · unfold itE at hen
    split at hen
    · rename_i hd
      cases hen
      obtain ⟨e1, _⟩ := r.dry hd
      subst e1
      refine ⟨upF F i [], E.put (Nat.le_refl _) (fun _ _ _ => rfl) (List.length_set ..) (fun j hj => List.getElem?_set_ne fun z => hj z.symm) List.nodup_nil (fun _ h => (List.not_mem_nil h).elim) (fun _ h => (List.not_mem_nil h).elim) (fun p' hp _ => ?_) (fun _ _ z => nomatch z) (fun z => (z _ rfl).elim) (fun z => by omega), Stp.put (Nat.le_refl _) (fun _ _ _ => rfl) fun _ h => (List.not_mem_nil h).elim⟩
      cases hp
      exact ⟨a, List.getElem?_set_self (by rw [E.len]; exact hlt), Vr.of_dry hd⟩
    · split at hen
      · cases hen
      · cases hen
        have E0 : ER st (ρ.set i (some a)) ((Vs.kill i e).set i none) (upF F i []) := E.put (Nat.le_refl _) (fun _ _ _ => rfl) (List.length_set ..) (fun j hj => List.getElem?_set_ne fun z => hj z.symm) List.nodup_nil (fun _ h => (List.not_mem_nil h).elim) (fun _ h => (List.not_mem_nil h).elim) (fun p' hp _ => nomatch hp) (fun _ _ z => nomatch z) (fun _ _ => rfl) (fun z => by omega)
        have hk : i < (Vs.kill i e).length := by rw [kill_len]; exact hlt
        refine ⟨upF F i [], ⟨by rw [List.length_set, List.length_set, kill_len, E.len], fun k q h => ?_, fun k B q h => ?_, E0.nd, E0.dj, E0.lt, fun k hk2 h => ?_⟩, Stp.put (Nat.le_refl _) (fun _ _ _ => rfl) fun _ h => (List.not_mem_nil h).elim⟩
        · by_cases hki : i = k
          · subst hki
            rw [List.getElem?_set_self hk] at h
            cases h
          · rw [List.getElem?_set_ne hki] at h
            exact E0.own k q (by rw [List.getElem?_set_ne hki]; exact h)
        · by_cases hki : i = k
          · subst hki
            rw [List.getElem?_set_self hk] at h
            cases h
            refine ⟨a, fb, List.getElem?_set_self (by rw [E.len]; exact hlt), r, fun l hl => ?_⟩
            obtain ⟨j, hj, q⟩ := hb l hl
            exact ⟨j, hj, by simp only [upF, if_neg (fun z : j = i => hi (z ▸ hj))]; exact q⟩
          · rw [List.getElem?_set_ne hki] at h
            exact E0.bor k B q (by rw [List.getElem?_set_ne hki]; exact h)
        · by_cases hki : i = k
          · subst hki
            show (if i = i then [] else F i) = []
            rw [if_pos rfl]
          · refine E0.em k (by simpa using hk2) fun q z => h q ?_
            rw [List.getElem?_set_ne hki] at z
            rw [List.getElem?_set_ne hki]
            exact z
  · refine ⟨F, ?_, Stp.refl⟩
    rw [List.set_eq_of_length_le (by rw [E.len]; omega), List.set_eq_of_length_le (by rw [kill_len]; omega)]
    exact E.kill
/-- the slots js are bound -/
def vbT : List Nat → List Nat → List A → PEnv → Option PEnv
  | [], _, [], e => some e
  | i :: is, src, p :: ps, e => match itE src p with
    | some en => vbT is src ps ((kill i e).set i (some en))
    | none => none
  | _, _, _, _ => none
def vbN (i : Nat) : VB := fun src p e => vbT [i] src [p] e
def vbP (is : List Nat) : VB := fun src p e => match p with
  | .tup ps => vbT is src ps e
  | .pr a b => vbT is src [a, b] e
  | _ => none
theorem vbT_run : ∀ {is src : List Nat} {ps as : List A} {fb : List Nat} {ρ : Rho} {e e' : PEnv} {F : Fp}, ER st ρ e F → VrL st ps as fb → (∀ l ∈ fb, ∃ j ∈ src, l ∈ F j) → dsj src is = true → (is.all fun i => !M.contains i) = true → vbT is src ps e = some e' →
    ∃ F', as.length = is.length ∧ ER st (setR is as ρ) e' F' ∧ Stp is st F st F' ∧ Same M ρ (setR is as ρ)
  | [], src, [], as, fb, ρ, e, e', F, E, r, hb, hd, hm, h => by
    cases h
    cases r.1
    exact ⟨F, rfl, E, Stp.refl, Same.refl⟩
  | i :: is, src, p :: ps, as, fb, ρ, e, e', F, E, ⟨a, r, f1, f2, e1, e2, h1, h2⟩, hb, hd, hm, h => by
    subst e1 e2
    have hm' : (!M.contains i && is.all fun i => !M.contains i) = true := hm
    rw [Bool.and_eq_true, Bool.not_eq_true'] at hm'
    have hd2 : dsj src is = true := List.all_eq_true.mpr fun j hj => by
      have := dsj_not hd hj
      rw [Bool.not_eq_true', ← Bool.not_eq_true]
      exact fun z => this (List.mem_cons_of_mem _ (List.contains_iff_mem.mp z))
    have hi : i ∉ src := fun z => dsj_not hd z List.mem_cons_self
    unfold vbT at h
    split at h
    · rename_i en hen
      obtain ⟨F1, E1, x1⟩ := E.putB h1 (fun l hl => hb l (List.mem_append_left _ hl)) hi hen
      obtain ⟨F2, l2, E2, x2, s2⟩ := vbT_run (is := is) (src := src) (ps := ps) E1 h2 (fun l hl => by
        obtain ⟨j, hj, q⟩ := hb l (List.mem_append_right _ hl)
        exact ⟨j, hj, by rw [x1.kp j (fun z => hi (List.mem_singleton.mp z ▸ hj))]; exact q⟩) hd2 hm'.2 h
      exact ⟨F2, by rw [List.length_cons, List.length_cons, l2], E2, x1.trans x2, (Same.set hm'.1).trans s2⟩
    · cases h
  | [], _, _ :: _, _, _, _, _, _, _, _, _, _, _, _, h => by cases h
  | _ :: _, _, [], _, _, _, _, _, _, _, _, _, _, _, h => by cases h
def SG (M T : List Nat) (g : FG) (b : VB) : Prop := ∀ {st : Sto} {ρ : Rho} {e e' : PEnv} {F : Fp} {src : List Nat} {p a : A} {fb : List Nat}, ER st ρ e F → Vr st p a fb → (∀ l ∈ fb, ∃ j ∈ src, l ∈ F j) → dsj src T = true → b src p e = some e' →
  ∃ ρ' F', g a ρ st = .ok ρ' st ∧ ER st ρ' e' F' ∧ Stp T st F st F' ∧ Same M ρ ρ'
theorem sg_N {i : Nat} (hm : M.contains i = false := by rfl) : SG M [i] (gSet i) (vbN i) := by
  intro st ρ e e' F src p a fb E r hb hd h
  obtain ⟨F', l, E1, x1, s1⟩ := vbT_run (M := M) (is := [i]) (ps := [p]) (as := [a]) (fb := fb) E ⟨a, [], fb, [], rfl, (List.append_nil _).symm, r, rfl, rfl⟩ hb hd (by show (!M.contains i && true) = true; rw [hm]; rfl) h
  exact ⟨_, F', rfl, E1, x1, s1⟩
theorem sg_P {is : List Nat} {gs : FGs} {n : Nat} (hg : gs = gNs is := by rfl) (hn : n = is.length := by rfl) (hm : (is.all fun i => !M.contains i) = true := by rfl) : SG M is (gTupF n gs) (vbP is) := by
  intro st ρ e e' F src p a fb E r hb hd h
  subst hg hn
  unfold vbP at h
  split at h
  · obtain ⟨as, ea, r⟩ := r
    subst ea
    obtain ⟨F', l, E1, x1, s1⟩ := vbT_run (M := M) E r hb hd hm h
    refine ⟨_, F', ?_, E1, x1, s1⟩
    unfold gTupF
    simp only
    rw [if_pos l, gNs_run l]
  · obtain ⟨x, y, f1, f2, ea, e2, r1, r2⟩ := r
    subst ea e2
    obtain ⟨F', l, E1, x1, s1⟩ := vbT_run (M := M) (ps := [_, _]) (as := [x, y]) (fb := f1 ++ f2) E ⟨x, [y], f1, f2, rfl, rfl, r1, y, [], f2, [], rfl, (List.append_nil _).symm, r2, rfl, rfl⟩ hb hd hm h
    refine ⟨_, F', ?_, E1, x1, s1⟩
    unfold gTupF
    simp only
    rw [if_pos (show 2 = is.length from l), gNs_run l]
  · cases h
/-! for -/
def vloop (b : VB) (src : List Nat) (h : VS) : List A → VS
  | [], e => some (.nx e)
  | p :: ps, e => match b src p e with
    | some e1 => (match h e1 with
      | some (.nx e2) => vloop b src h ps e2
      | some (.ct e2) => vloop b src h ps e2
      | some (.bk e2) => some (.nx e2)
      | some (.rt q e2) => some (.rt q e2)
      | none => none)
    | none => none
theorem loop_run {g : FG} {b : VB} {body : FS} {h : VS} {G : Sto → Prop} {fa src : List Nat} (hg : SG M T1 g b) (hb : SS M R T2 body h) (hd : dsj S (T1 ++ T2) = true) (hsrc : ∀ j ∈ src, j ∈ S) : ∀ {ps xs : List A} {fq : List Nat} {st : Sto} {ρ : Rho} {e : PEnv} {F : Fp} {r : PF},
    ER st ρ e F → VrL st ps xs fq → (∀ l ∈ fq, l ∈ fa) → Hold S st F fa → (∀ l ∈ fq, ∃ j ∈ src, l ∈ F j) → (∀ st2 : Sto, (∀ l ∈ fa, st2[l]? = st[l]?) → G st2) → vloop b src h ps e = some r → Out M R (T1 ++ T2) st ρ F (loopF body g G xs ρ st) r
  | [], xs, fq, st, ρ, e, F, r, E, v, h1, h2, h3, h4, q => by
    cases q
    cases v.1
    exact ⟨ρ, st, F, if_pos (h4 st fun _ _ => rfl), E, Stp.refl, Same.refl⟩
  | p :: ps, xs, fq, st, ρ, e, F, r, E, ⟨a, as, f1, f2, e1, e2, v1, v2⟩, h1, h2, h3, h4, q => by
    subst e1 e2
    unfold vloop at q
    have hsd : dsj src T1 = true := List.all_eq_true.mpr fun j hj => by
      have := dsj_not hd (hsrc j hj)
      rw [Bool.not_eq_true', ← Bool.not_eq_true]
      exact fun z => this (List.mem_append_left _ (List.contains_iff_mem.mp z))
    split at q
    · rename_i e1 hb1
      obtain ⟨ρ1, F1, a1, E1, x1, s1⟩ := hg E v1 (fun l hl => h3 l (List.mem_append_left _ hl)) hsd hb1
      have next : ∀ {ρ2 : Rho} {st2 : Sto} {F2 : Fp} {e2 : PEnv}, ER st2 ρ2 e2 F2 → Stp T2 st F1 st2 F2 → Same M ρ1 ρ2 → vloop b src h ps e2 = some r → Out M R (T1 ++ T2) st ρ F (loopF body g G as ρ2 st2) r := fun {ρ2 st2 F2 e2} E2 x2 s2 q2 => by
        have x := x1.trans x2
        obtain ⟨k1, k2⟩ := h2.step E x hd
        have := loop_run (src := src) hg hb hd hsrc (ps := ps) (xs := as) (fq := f2) E2 (v2.mono fun l hl => k1 l (h1 l (List.mem_append_right _ hl))) (fun l hl => h1 l (List.mem_append_right _ hl)) k2 (fun l hl => by
          obtain ⟨j, hj, z⟩ := h3 l (List.mem_append_right _ hl)
          exact ⟨j, hj, by rw [x.kp j (dsj_not hd (hsrc j hj))]; exact z⟩) (fun st3 h5 => h4 st3 fun l hl => (h5 l hl).trans (k1 l hl)) q2
        exact (this.from x (s1.trans s2)).mono fun i hi => (List.mem_append.mp hi).elim id id
      unfold loopF
      rw [if_pos (h4 st fun _ _ => rfl), a1]
      simp only
      split at q
      · rename_i e2 hh
        obtain ⟨ρ2, st2, F2, a2, E2, x2, s2⟩ := hb E1 hh
        rw [a2]
        exact next E2 x2 s2 q
      · rename_i e2 hh
        obtain ⟨ρ2, st2, F2, a2, E2, x2, s2⟩ := hb E1 hh
        rw [a2]
        exact next E2 x2 s2 q
      · rename_i e2 hh
        cases q
        obtain ⟨ρ2, st2, F2, a2, E2, x2, s2⟩ := hb E1 hh
        rw [a2]
        exact ⟨ρ2, st2, F2, rfl, E2, x1.trans x2, s1.trans s2⟩
      · rename_i qq e2 hh
        cases q
        have := (hb E1 hh).from x1 s1
        obtain ⟨a', ρ2, st2, F2, fa', a2, z⟩ := this
        rw [a2]
        exact ⟨a', ρ2, st2, F2, fa', rfl, z⟩
      · cases q
    · cases q
def vfor (vi : VI) (b : VB) (h : VS) : VS := fun e => match vi e with
  | some (ps, src, e1) => vloop b src h ps e1
  | none => none
theorem s_for {fi : FI} {vi : VI} {g : FG} {b : VB} {body : FS} {h : VS} (hi : SI S T0 fi vi) (hg : SG M T1 g b) (hb : SS M R T2 body h) (hd : dsj S (T1 ++ T2) = true := by rfl) : SS M R (T0 ++ (T1 ++ T2)) (sFor fi g body) (vfor vi b h) := by
  intro st ρ e F r E q
  unfold vfor at q
  split at q
  · rename_i ps src e1 h1
    obtain ⟨xs, G, st1, F1, fa, fq, a1, E1, x1, r1, k1, k2, k3, k4, k5⟩ := hi E h1
    unfold sFor
    rw [a1]
    exact (loop_run hg hb hd k4 E1 r1 k1 k2 k3 k5 q).from x1 Same.refl
  · cases q
/-! while -/
def whileV (u : VT) (h : VS) : Nat → VS
  | 0, _ => none
  | n + 1, e => match u e with
    | some (true, e1) => (match h e1 with
      | some (.nx e2) => whileV u h n e2
      | some (.ct e2) => whileV u h n e2
      | some (.bk e2) => some (.nx e2)
      | some (.rt q e2) => some (.rt q e2)
      | none => none)
    | some (false, e1) => some (.nx e1)
    | none => none
open Classical in
noncomputable def vwhile (u : VT) (h : VS) : VS := fun e => if z : ∃ n, (whileV u h n e).isSome = true then whileV u h (choose z) e else none
theorem while_run {u : FT} {w : VT} {body : FS} {h : VS} (hu : ST T1 u w) (hb : SS M R T2 body h) : ∀ (n : Nat) {st : Sto} {ρ : Rho} {e : PEnv} {F : Fp} {r : PF}, ER st ρ e F → whileV w h n e = some r →
    whileF u body n ρ st ≠ .no ∧ Out M R (T1 ++ T2) st ρ F (whileF u body n ρ st) r
  | 0, st, ρ, e, F, r, E, q => by cases q
  | n + 1, st, ρ, e, F, r, E, q => by
    unfold whileV at q
    unfold whileF
    split at q
    · rename_i e1 h1
      obtain ⟨st1, F1, a1, E1, x1⟩ := hu E h1
      rw [a1]
      simp only
      have next : ∀ {ρ2 : Rho} {st2 : Sto} {F2 : Fp} {e2 : PEnv}, ER st2 ρ2 e2 F2 → Stp T2 st1 F1 st2 F2 → Same M ρ ρ2 → whileV w h n e2 = some r → whileF u body n ρ2 st2 ≠ .no ∧ Out M R (T1 ++ T2) st ρ F (whileF u body n ρ2 st2) r := fun {ρ2 st2 F2 e2} E2 x2 s2 q2 => by
        obtain ⟨n1, o1⟩ := while_run hu hb n E2 q2
        exact ⟨n1, (o1.from (x1.trans x2) s2).mono fun i hi => (List.mem_append.mp hi).elim id id⟩
      split at q
      · rename_i e2 hh
        obtain ⟨ρ2, st2, F2, a2, E2, x2, s2⟩ := hb E1 hh
        rw [a2]
        exact next E2 x2 s2 q
      · rename_i e2 hh
        obtain ⟨ρ2, st2, F2, a2, E2, x2, s2⟩ := hb E1 hh
        rw [a2]
        exact next E2 x2 s2 q
      · rename_i e2 hh
        cases q
        obtain ⟨ρ2, st2, F2, a2, E2, x2, s2⟩ := hb E1 hh
        rw [a2]
        exact ⟨(fun z => nomatch z), ρ2, st2, F2, rfl, E2, x1.trans x2, s2⟩
      · rename_i qq e2 hh
        cases q
        obtain ⟨a', ρ2, st2, F2, fa', a2, z⟩ := (hb E1 hh).from x1 Same.refl
        rw [a2]
        exact ⟨(fun z => nomatch z), a', ρ2, st2, F2, fa', rfl, z⟩
      · cases q
    · rename_i e1 h1
      cases q
      obtain ⟨st1, F1, a1, E1, x1⟩ := hu E h1
      rw [a1]
      exact ⟨(fun z => nomatch z), ρ, st1, F1, rfl, E1, x1.inl, Same.refl⟩
    · cases q
theorem s_while {u : FT} {w : VT} {body : FS} {h : VS} (hu : ST T1 u w) (hb : SS M R T2 body h) : SS M R (T1 ++ T2) (sWhile u body) (vwhile w h) := by
  intro st ρ e F r E q
  unfold vwhile at q
  split at q
  · rename_i z
    obtain ⟨n1, o1⟩ := while_run hu hb _ E q
    rw [sWhile_of rfl n1]
    exact o1
  · cases q
theorem whileV_mono {u : VT} {h : VS} : ∀ {n m : Nat} {e : PEnv} {r : PF}, whileV u h n e = some r → n ≤ m → whileV u h m e = some r
  | 0, _, _, _, q, _ => by cases q
  | n + 1, 0, _, _, _, hm => by omega
  | n + 1, m + 1, e, r, q, hm => by
    rw [whileV] at q ⊢
    split at q
    · rename_i e1 h1
      split at q
      · rename_i e2 h2; exact whileV_mono q (by omega)
      · rename_i e2 h2; exact whileV_mono q (by omega)
      · rename_i e2 h2; exact q
      · rename_i e2 h2; exact q
      · cases q
    · exact q
    · cases q
theorem vwhile_of {u : VT} {h : VS} {n : Nat} {r : PF} (q : whileV u h n e = some r) : vwhile u h e = some r := by
  have z : ∃ n, (whileV u h n e).isSome = true := ⟨n, by rw [q]; rfl⟩
  unfold vwhile
  rw [dif_pos z]
  obtain ⟨r', h1⟩ := Option.isSome_iff_exists.mp (Classical.choose_spec z)
  have h2 := whileV_mono h1 (Nat.le_max_left (Classical.choose z) n)
  have h3 := whileV_mono q (Nat.le_max_right (Classical.choose z) n)
  rw [h1, ← h2, h3]
end
end Vs
/-! comprehensions; dicts that are changed -/
namespace Vs
open PySem PySem.Spec PyProof.Rows L2 Gd Ev
section
variable {M R S S0 S1 S2 S3 T T0 T1 T2 T3 T4 : List Nat} {st st' st0 st1 st2 : Sto} {F F' F0 F1 F2 : Fp} {ρ ρ' ρ1 ρ2 : Rho} {e : PEnv}
def wipeE (e : PEnv) : List Nat → PEnv
  | [] => e
  | v :: vs => (wipeE e vs).set v none
/-- the slots of a comprehension's names hold nothing of their own -/
def clr (e : PEnv) (js : List Nat) : Bool := js.all fun j => match e[j]? with
  | some (some (.own p)) => p.dry
  | some (some (.bor _ _)) => false
  | _ => true
/-- .. and come back behind -/
def bck (e0 e : PEnv) : List Nat → PEnv
  | [] => e
  | v :: vs => (bck e0 e vs).set v (e0[v]?.join)
theorem wipeE_len (e : PEnv) : ∀ js, (wipeE e js).length = e.length
  | [] => rfl
  | v :: vs => by unfold wipeE; rw [List.length_set, wipeE_len e vs]
theorem wipeR_len (ρ : Rho) : ∀ js, (wipeR ρ js).length = ρ.length
  | [] => rfl
  | v :: vs => by unfold wipeR; rw [List.length_set, wipeR_len ρ vs]
theorem bck_len (e0 e : PEnv) : ∀ js, (bck e0 e js).length = e.length
  | [] => rfl
  | v :: vs => by unfold bck; rw [List.length_set, bck_len e0 e vs]
theorem wipeE_in {e : PEnv} {k : Nat} : ∀ {js : List Nat}, k ∈ js → k < e.length → (wipeE e js)[k]? = some none
  | v :: vs, h, hk => by
    unfold wipeE
    by_cases hv : v = k
    · subst hv
      rw [List.getElem?_set_self (by rw [wipeE_len]; exact hk)]
    · rw [List.getElem?_set_ne hv]
      exact wipeE_in ((List.mem_cons.mp h).resolve_left fun z => hv z.symm) hk
theorem wipeE_out {e : PEnv} {k : Nat} : ∀ {js : List Nat}, k ∉ js → (wipeE e js)[k]? = e[k]?
  | [], _ => rfl
  | v :: vs, h => by
    unfold wipeE
    rw [List.getElem?_set_ne fun z => h (by rw [z]; exact List.mem_cons_self)]
    exact wipeE_out fun z => h (List.mem_cons_of_mem _ z)
theorem wipeR_out {ρ : Rho} {k : Nat} : ∀ {js : List Nat}, k ∉ js → (wipeR ρ js)[k]? = ρ[k]?
  | [], _ => rfl
  | v :: vs, h => by
    unfold wipeR
    rw [List.getElem?_set_ne fun z => h (by rw [z]; exact List.mem_cons_self)]
    exact wipeR_out fun z => h (List.mem_cons_of_mem _ z)
theorem bck_out {e0 e : PEnv} {k : Nat} : ∀ {js : List Nat}, k ∉ js → (bck e0 e js)[k]? = e[k]?
  | [], _ => rfl
  | v :: vs, h => by
    unfold bck
    rw [List.getElem?_set_ne fun z => h (by rw [z]; exact List.mem_cons_self)]
    exact bck_out fun z => h (List.mem_cons_of_mem _ z)
theorem bck_in {e0 e : PEnv} {k : Nat} : ∀ {js : List Nat}, k ∈ js → k < e.length → (bck e0 e js)[k]? = some (e0[k]?.join)
  | v :: vs, h, hk => by
    unfold bck
    by_cases hv : v = k
    · subst hv
      rw [List.getElem?_set_self (by rw [bck_len]; exact hk)]
    · rw [List.getElem?_set_ne hv]
      exact bck_in ((List.mem_cons.mp h).resolve_left fun z => hv z.symm) hk
theorem clr_F {js : List Nat} (E : ER st ρ e F) (h : clr e js = true) {j : Nat} (hj : j ∈ js) (hl : j < e.length) : F j = [] := by
  have := List.all_eq_true.mp h j hj
  cases hq : e[j]? with
  | none => rw [List.getElem?_eq_none_iff] at hq; omega
  | some x =>
    rw [hq] at this
    cases x with
    | none => exact E.em j hl fun p z => by rw [hq] at z; cases z
    | some en =>
      cases en with
      | own p =>
        obtain ⟨a, _, r⟩ := E.own j p hq
        exact (r.dry this).2
      | bor B p => cases this
/-- inside -/
theorem ER.wipe {js : List Nat} (E : ER st ρ e F) (h : ∀ j ∈ js, j < e.length → F j = []) : ER st (wipeR ρ js) (wipeE e js) F where
  len := by rw [wipeR_len, wipeE_len, E.len]
  own := fun k p q => by
    by_cases hk : k ∈ js
    · have hl := (List.getElem?_eq_some_iff.mp q).1
      rw [wipeE_len] at hl
      rw [wipeE_in hk hl] at q
      cases q
    · rw [wipeE_out hk] at q
      rw [wipeR_out hk]
      exact E.own k p q
  bor := fun k S p q => by
    by_cases hk : k ∈ js
    · have hl := (List.getElem?_eq_some_iff.mp q).1
      rw [wipeE_len] at hl
      rw [wipeE_in hk hl] at q
      cases q
    · rw [wipeE_out hk] at q
      rw [wipeR_out hk]
      exact E.bor k S p q
  nd := E.nd
  dj := E.dj
  lt := E.lt
  em := fun k hk q => by
    rw [wipeE_len] at hk
    by_cases hj : k ∈ js
    · exact h k hj hk
    · exact E.em k hk fun p z => q p (by rw [wipeE_out hj]; exact z)
/-- the slots of names do not matter where nothing stands -/
theorem ER.swap {js : List Nat} {ρ' : Rho} (E : ER st ρ e F) (h : ∀ j ∈ js, j < e.length → F j = []) (hl : ρ'.length = ρ.length) (ho : ∀ k, k ∉ js → ρ'[k]? = ρ[k]?) : ER st ρ' (wipeE e js) F where
  len := by rw [wipeE_len, hl, E.len]
  own := fun k p q => by
    by_cases hk : k ∈ js
    · have hl := (List.getElem?_eq_some_iff.mp q).1
      rw [wipeE_len] at hl
      rw [wipeE_in hk hl] at q
      cases q
    · rw [wipeE_out hk] at q
      rw [ho k hk]
      exact E.own k p q
  bor := fun k S p q => by
    by_cases hk : k ∈ js
    · have hl := (List.getElem?_eq_some_iff.mp q).1
      rw [wipeE_len] at hl
      rw [wipeE_in hk hl] at q
      cases q
    · rw [wipeE_out hk] at q
      rw [ho k hk]
      exact E.bor k S p q
  nd := E.nd
  dj := E.dj
  lt := E.lt
  em := fun k hk q => by
    rw [wipeE_len] at hk
    by_cases hj : k ∈ js
    · exact h k hj hk
    · exact E.em k hk fun p z => q p (by rw [wipeE_out hj]; exact z)
/-- outside again -/
theorem ER.back {js : List Nat} {e0 : PEnv} {st0 : Sto} {F0 : Fp} (E : ER st ρ e F) (h : ∀ j ∈ js, j < e.length → F j = []) (E0 : ER st0 ρ0 e0 F0) (hc : clr e0 js = true) (hl : ρ0.length = ρ.length) (ho : ∀ k, k ∉ js → ρ0[k]? = ρ[k]?) : ER st ρ0 (bck e0 e js) F where
  len := by rw [bck_len, hl, E.len]
  own := fun k p q => by
    by_cases hk : k ∈ js
    · have hl := (List.getElem?_eq_some_iff.mp q).1
      rw [bck_len] at hl
      rw [bck_in hk hl] at q
      have q' : e0[k]? = some (some (.own p)) := by
        cases hq : e0[k]? with
        | none => rw [hq] at q; cases q
        | some x => rw [hq] at q; exact congrArg some (Option.some.inj q)
      have hd := List.all_eq_true.mp hc k hk
      rw [q'] at hd
      obtain ⟨a, h1, h2⟩ := E0.own k p q'
      rw [h k hk hl]
      exact ⟨a, h1, by rw [(h2.dry hd).1]; exact Vr.of_dry hd⟩
    · rw [bck_out hk] at q
      rw [ho k hk]
      exact E.own k p q
  bor := fun k S p q => by
    by_cases hk : k ∈ js
    · have hl := (List.getElem?_eq_some_iff.mp q).1
      rw [bck_len] at hl
      rw [bck_in hk hl] at q
      have q' : e0[k]? = some (some (.bor S p)) := by
        cases hq : e0[k]? with
        | none => rw [hq] at q; cases q
        | some x => rw [hq] at q; exact congrArg some (Option.some.inj q)
      have hd := List.all_eq_true.mp hc k hk
      rw [q'] at hd
      cases hd
    · rw [bck_out hk] at q
      rw [ho k hk]
      exact E.bor k S p q
  nd := E.nd
  dj := E.dj
  lt := E.lt
  em := fun k hk q => by
    rw [bck_len] at hk
    by_cases hj : k ∈ js
    · exact h k hj hk
    · exact E.em k hk fun p z => q p (by rw [bck_out hj]; exact z)
/-- what a comprehension's names are bound to -/
def SL (js : List Nat) (g : A → Rho → Option Rho) (b : VB) : Prop := ∀ {st : Sto} {ρ : Rho} {e e' : PEnv} {F : Fp} {src : List Nat} {p a : A} {fb : List Nat}, ER st ρ e F → Vr st p a fb → (∀ l ∈ fb, ∃ j ∈ src, l ∈ F j) → dsj src js = true → b src p e = some e' →
  ∃ ρ' F', g a ρ = some ρ' ∧ ER st ρ' e' F' ∧ Stp js st F st F' ∧ ρ'.length = ρ.length ∧ (∀ k, k ∉ js → ρ'[k]? = ρ[k]?) ∧ (∀ j ∈ js, j < e'.length → F' j = [])
theorem vbT_emp : ∀ {is src : List Nat} {ps as : List A} {fb : List Nat} {ρ : Rho} {e e' : PEnv} {F : Fp}, ER st ρ e F → VrL st ps as fb → (∀ l ∈ fb, ∃ j ∈ src, l ∈ F j) → dsj src is = true → vbT is src ps e = some e' →
    ∃ F', as.length = is.length ∧ ER st (setR is as ρ) e' F' ∧ Stp is st F st F' ∧ (∀ j ∈ is, j < e.length → F' j = []) ∧ e'.length = e.length
  | [], src, [], as, fb, ρ, e, e', F, E, r, hb, hd, h => by
    cases h
    cases r.1
    exact ⟨F, rfl, E, Stp.refl, fun _ h => (List.not_mem_nil h).elim, rfl⟩
  | i :: is, src, p :: ps, as, fb, ρ, e, e', F, E, ⟨a, r, f1, f2, e1, e2, h1, h2⟩, hb, hd, h => by
    subst e1 e2
    have hd2 : dsj src is = true := List.all_eq_true.mpr fun j hj => by
      have := dsj_not hd hj
      rw [Bool.not_eq_true', ← Bool.not_eq_true]
      exact fun z => this (List.mem_cons_of_mem _ (List.contains_iff_mem.mp z))
    have hi : i ∉ src := fun z => dsj_not hd z List.mem_cons_self
    unfold vbT at h
    split at h
    · rename_i en hen
      obtain ⟨F1, E1, x1⟩ := E.putB h1 (fun l hl => hb l (List.mem_append_left _ hl)) hi hen
      obtain ⟨F2, l2, E2, x2, z2, z3⟩ := vbT_emp (is := is) (src := src) (ps := ps) E1 h2 (fun l hl => by
        obtain ⟨j, hj, q⟩ := hb l (List.mem_append_right _ hl)
        exact ⟨j, hj, by rw [x1.kp j (fun z => hi (List.mem_singleton.mp z ▸ hj))]; exact q⟩) hd2 h
      rw [List.length_set, kill_len] at z2 z3
      refine ⟨F2, by rw [List.length_cons, List.length_cons, l2], E2, x1.trans x2, fun j hj hl => ?_, z3⟩
      by_cases hjs : j ∈ is
      · exact z2 j hjs hl
      · have : j = i := (List.mem_cons.mp hj).resolve_right hjs
        subst this
        rw [x2.kp j hjs]
        have hdry : ∀ q, en = .own q → q.dry = true := fun q hq => by
          unfold itE at hen
          split at hen
          · rename_i hd; cases hen; cases hq; exact hd
          · split at hen
            · cases hen
            · cases hen; cases hq
        by_cases hown : ∃ q, en = .own q
        · obtain ⟨q, hq⟩ := hown
          obtain ⟨a', _, r'⟩ := E1.own j q (by rw [List.getElem?_set_self (by rw [kill_len]; exact hl), hq])
          exact (r'.dry (hdry q hq)).2
        · refine E1.em j (by rw [List.length_set, kill_len]; exact hl) fun q z => hown ⟨q, ?_⟩
          rw [List.getElem?_set_self (by rw [kill_len]; exact hl)] at z
          exact Option.some.inj (Option.some.inj z)
    · cases h
  | [], _, _ :: _, _, _, _, _, _, _, _, _, _, _, h => by cases h
  | _ :: _, _, [], _, _, _, _, _, _, _, _, _, _, h => by cases h
theorem setR_out {k : Nat} : ∀ {is : List Nat} {as : List A} {ρ : Rho}, k ∉ is → (setR is as ρ)[k]? = ρ[k]?
  | [], _, _, _ => rfl
  | i :: is, [], _, _ => rfl
  | i :: is, a :: as, ρ, h => by
    show (setR is as (ρ.set i (some a)))[k]? = _
    rw [setR_out fun z => h (List.mem_cons_of_mem _ z), List.getElem?_set_ne fun z => h (by rw [z]; exact List.mem_cons_self)]
theorem setR_len : ∀ {is : List Nat} {as : List A} {ρ : Rho}, (setR is as ρ).length = ρ.length
  | [], _, _ => rfl
  | i :: is, [], _ => rfl
  | i :: is, a :: as, ρ => by
    show (setR is as (ρ.set i (some a))).length = _
    rw [setR_len, List.length_set]
theorem sl_N {i : Nat} : SL [i] (lN i) (vbN i) := by
  intro st ρ e e' F src p a fb E r hb hd h
  obtain ⟨F', l, E1, x1, z1, z2⟩ := vbT_emp (is := [i]) (ps := [p]) (as := [a]) (fb := fb) E ⟨a, [], fb, [], rfl, (List.append_nil _).symm, r, rfl, rfl⟩ hb hd h
  exact ⟨setR [i] [a] ρ, F', rfl, E1, x1, setR_len, fun k hk => setR_out hk, fun j hj hl => z1 j hj (by rw [← z2]; exact hl)⟩
theorem sl_P {i j : Nat} : SL [i, j] (lP i j) (vbP [i, j]) := by
  intro st ρ e e' F src p a fb E r hb hd h
  unfold vbP at h
  split at h
  · obtain ⟨as, ea, r⟩ := r
    subst ea
    obtain ⟨F', l, E1, x1, z1, z2⟩ := vbT_emp E r hb hd h
    match as, l with
    | [x, y], _ => exact ⟨setR [i, j] [x, y] ρ, F', rfl, E1, x1, setR_len, fun k hk => setR_out hk, fun j hj hl => z1 j hj (by rw [← z2]; exact hl)⟩
  · obtain ⟨x, y, f1, f2, ea, e2, r1, r2⟩ := r
    subst ea e2
    obtain ⟨F', l, E1, x1, z1, z2⟩ := vbT_emp (ps := [_, _]) (as := [x, y]) (fb := f1 ++ f2) E ⟨x, [y], f1, f2, rfl, rfl, r1, y, [], f2, [], rfl, (List.append_nil _).symm, r2, rfl, rfl⟩ hb hd h
    exact ⟨setR [i, j] [x, y] ρ, F', rfl, E1, x1, setR_len, fun k hk => setR_out hk, fun j hj hl => z1 j hj (by rw [← z2]; exact hl)⟩
  · cases h
def qYes : VT := fun e => some (true, e)
theorem s_yes : ST [] uYes qYes := by
  intro st ρ e F b e' E q
  cases q
  exact ⟨st, F, rfl, E, Stp.refl⟩
def vlc (js : List Nat) (b : VB) (src : List Nat) (u : VT) (g : VE) : List A → List A → PEnv → Option (List A × PEnv)
  | [], acc, e => some (acc, e)
  | p :: ps, acc, e => match b src p e with
    | some e1 => (match u e1 with
      | some (true, e2) => (match g e2 with
        | some (q, e3) => if acc.length < sizeLine then vlc js b src u g ps (acc ++ [q]) (wipeE e3 js) else none
        | none => none)
      | some (false, e2) => vlc js b src u g ps acc (wipeE e2 js)
      | none => none)
    | none => none
theorem lc_run {js : List Nat} {g : A → Rho → Option Rho} {b : VB} {u : FT} {w : VT} {f : FE} {h : VE} {G : Sto → Prop} {fa src : List Nat} (hg : SL js g b) (hu : ST T1 u w) (hf : SE [] T2 f h) (hd : dsj S (js ++ (T1 ++ T2)) = true) (hjs : dsj js (T1 ++ T2) = true) (hsrc : ∀ j ∈ src, j ∈ S) :
    ∀ {ps xs acc bs qs : List A} {fq fc : List Nat} {st : Sto} {e e' : PEnv} {F : Fp} {st0 : Sto} {F0 : Fp}, ER st ρ e F → (∀ j ∈ js, j < e.length → F j = []) → VrL st ps xs fq → (∀ l ∈ fq, l ∈ fa) → Hold S st F fa → (∀ l ∈ fq, ∃ j ∈ src, l ∈ F j) → (∀ st2 : Sto, (∀ l ∈ fa, st2[l]? = st[l]?) → G st2) →
      VrL st acc bs fc → Fro [] T st0 F0 F fc → Stp T st0 F0 st F → (∀ i ∈ js ++ (T1 ++ T2), i ∈ T) → vlc js b src w h ps acc e = some (qs, e') →
      ∃ cs st' F' fd, lcF ρ g u f G xs bs st = .ok cs st' ∧ ER st' ρ e' F' ∧ Stp T st0 F0 st' F' ∧ VrL st' qs cs fd ∧ Fro [] T st0 F0 F' fd ∧ (∀ j ∈ js, j < e'.length → F' j = []) ∧ Stp (js ++ (T1 ++ T2)) st F st' F'
  | [], xs, acc, bs, qs, fq, fc, st, e, e', F, st0, F0, E, hj, v, h1, h2, h3, h4, ra, ka, x0, hT, q => by
    cases q
    cases v.1
    exact ⟨bs, st, F, fc, if_pos (h4 st fun _ _ => rfl), E, x0, ra, ka, hj, Stp.refl⟩
  | p :: ps, xs, acc, bs, qs, fq, fc, st, e, e', F, st0, F0, E, hj, ⟨a, as, f1, f2, e1, e2, v1, v2⟩, h1, h2, h3, h4, ra, ka, x0, hT, q => by
    subst e1 e2
    unfold vlc at q
    have hsd : dsj src js = true := List.all_eq_true.mpr fun j hj => by
      have := dsj_not hd (hsrc j hj)
      rw [Bool.not_eq_true', ← Bool.not_eq_true]
      exact fun z => this (List.mem_append_left _ (List.contains_iff_mem.mp z))
    unfold lcF
    rw [if_pos (h4 st fun _ _ => rfl)]
    split at q
    · rename_i e1 hb1
      obtain ⟨ρ1, F1, a1, E1, x1, l1, o1, z1⟩ := hg E v1 (fun l hl => h3 l (List.mem_append_left _ hl)) hsd hb1
      rw [a1]
      simp only
      -- behind a turn
      have next : ∀ {st2 : Sto} {F2 : Fp} {e2 : PEnv} {acc' bs' : List A} {fc' : List Nat}, ER st2 ρ1 e2 F2 → Stp (T1 ++ T2) st F1 st2 F2 → VrL st2 acc' bs' fc' → Fro [] T st0 F0 F2 fc' → vlc js b src w h ps acc' (wipeE e2 js) = some (qs, e') →
          ∃ cs st' F' fd, lcF ρ g u f G as bs' st2 = .ok cs st' ∧ ER st' ρ e' F' ∧ Stp T st0 F0 st' F' ∧ VrL st' qs cs fd ∧ Fro [] T st0 F0 F' fd ∧ (∀ j ∈ js, j < e'.length → F' j = []) ∧ Stp (js ++ (T1 ++ T2)) st F st' F' := fun {st2 F2 e2 acc' bs' fc'} E2 x2 ra' ka' q2 => by
        have x := x1.trans x2
        obtain ⟨k1, k2⟩ := h2.step E x hd
        have hz : ∀ j ∈ js, j < e2.length → F2 j = [] := fun j hj hl => by
          rw [x2.kp j (dsj_not hjs hj)]
          exact z1 j hj (by rw [← E1.len, E2.len]; exact hl)
        have E3 : ER st2 ρ (wipeE e2 js) F2 := E2.swap hz l1.symm fun k hk => (o1 k hk).symm
        obtain ⟨cs, st', F', fd, c1, c2, c3, c4, c5, c6, c7⟩ := lc_run hg hu hf hd hjs hsrc (ps := ps) (xs := as) (fq := f2) E3 (fun j hj hl => hz j hj (by rw [wipeE_len] at hl; exact hl)) (v2.mono fun l hl => k1 l (h1 l (List.mem_append_right _ hl))) (fun l hl => h1 l (List.mem_append_right _ hl)) k2 (fun l hl => by
          obtain ⟨j, hj, z⟩ := h3 l (List.mem_append_right _ hl)
          exact ⟨j, hj, by rw [x.kp j (dsj_not hd (hsrc j hj))]; exact z⟩) (fun st3 h5 => h4 st3 fun l hl => (h5 l hl).trans (k1 l hl)) ra' ka' ((x0.trans x).mono fun i hi => (List.mem_append.mp hi).elim id (hT i)) hT q2
        exact ⟨cs, st', F', fd, c1, c2, c3, c4, c5, c6, (x.trans c7).mono fun i hi => (List.mem_append.mp hi).elim id id⟩
      have ka1 := ka.later ra.lt E x1 (by rfl)
      split at q
      · rename_i e2 hu2
        obtain ⟨st2, F2, b1, E2, x2⟩ := hu E1 hu2
        rw [b1]
        simp only
        split at q
        · rename_i y e3 hf3
          split at q
          · rename_i hsz
            obtain ⟨c, st3, F3, fc3, c1, E3, x3, r3, k3⟩ := s_B hf E2 hf3
            rw [c1]
            simp only
            rw [if_pos (by rw [ra.len]; exact hsz)]
            obtain ⟨m1, m2⟩ := ka1.2.later (st1 := st) (by exact ra.lt) E1 (x2.trans x3) (by rfl)
            have ka3 := (k3.from x2).from (x0.trans x1)
            refine next E3 (x2.trans x3) ((ra.mono m1).snoc r3) ⟨fun l hl => ?_, fun _ => ?_⟩ q
            · rcases List.mem_append.mp hl with z | z
              · exact .inr ⟨(m2.own z).1, (m2.own z).2.imp (fun ⟨j, hj, y⟩ => ⟨j, by
                  rcases List.mem_append.mp hj with w | w
                  · rcases List.mem_append.mp w with w | w
                    · exact w
                    · exact hT j (List.mem_append_left _ w)
                  · exact hT j (List.mem_append_right _ w), y⟩) id⟩
              · exact .inr ⟨(ka3.own z).1, (ka3.own z).2.imp (fun ⟨j, hj, y⟩ => ⟨j, by
                  rcases List.mem_append.mp hj with w | w
                  · rcases List.mem_append.mp w with w | w
                    · exact w
                    · exact hT j (List.mem_append_left _ w)
                  · exact hT j (List.mem_append_right _ w), y⟩) id⟩
            · refine List.nodup_append.mpr ⟨ka.nd rfl, k3.nd rfl, fun x hx y hy e => ?_⟩
              subst e
              have ax := (ka1.2.own hx).1
              rcases ((k3.from x2).own hy).2 with ⟨j, hj, z⟩ | z
              · exact ax j z
              · have := ra.lt x hx; omega
          · cases q
        · cases q
      · rename_i e2 hu2
        obtain ⟨st2, F2, b1, E2, x2⟩ := hu E1 hu2
        rw [b1]
        simp only
        obtain ⟨m1, m2⟩ := ka1.2.later (st1 := st) (by exact ra.lt) E1 x2 (by rfl)
        refine next E2 x2.inl (ra.mono m1) ⟨fun l hl => .inr ⟨(m2.own hl).1, (m2.own hl).2.imp (fun ⟨j, hj, y⟩ => ⟨j, by
            rcases List.mem_append.mp hj with w | w
            · rcases List.mem_append.mp w with w | w
              · exact w
              · exact hT j (List.mem_append_left _ w)
            · exact hT j (List.mem_append_right _ (List.mem_append_left _ w)), y⟩) id⟩, fun _ => ka.nd rfl⟩ q
      · cases q
    · cases q
def vLc (vi : VI) (js : List Nat) (b : VB) (u : VT) (g : VE) : VE := fun e => match vi e with
  | some (ps, src, e1) => if clr e1 js = true then (match vlc js b src u g ps [] (wipeE e1 js) with
    | some (qs, e2) => some (.tmp qs, bck e1 e2 js)
    | none => none) else none
  | none => none
theorem s_Lc {fi : FI} {vi : VI} {js : List Nat} {g : A → Rho → Option Rho} {b : VB} {u : FT} {w : VT} {f : FE} {h : VE} (hi : SI S T0 fi vi) (hg : SL js g b) (hu : ST T1 u w) (hf : SE [] T2 f h) (hd : dsj S (js ++ (T1 ++ T2)) = true := by rfl) (hjs : dsj js (T1 ++ T2) = true := by rfl) :
    SE [] (T0 ++ (js ++ (T1 ++ T2))) (fLc fi js g u f) (vLc vi js b w h) := by
  intro st ρ e F p e' E q
  unfold vLc at q
  split at q
  · rename_i ps src e1 h1
    split at q
    · rename_i hc
      split at q
      · rename_i qs e2 h2
        cases q
        obtain ⟨xs, G, st1, F1, fa, fq, a1, E1, x1, r1, k1, k2, k3, k4, k5⟩ := hi E h1
        have hz : ∀ j ∈ js, j < e1.length → F1 j = [] := fun j hj hl => clr_F E1 hc hj hl
        obtain ⟨cs, st2, F2, fd, c1, E2, x2, r2, k6, k7, _⟩ := lc_run (T := T0 ++ (js ++ (T1 ++ T2))) (st0 := st) (F0 := F) (acc := []) (fc := []) (bs := []) hg hu hf hd hjs k4 (E1.wipe hz) (fun j hj hl => hz j hj (by rw [wipeE_len] at hl; exact hl)) r1 k1 k2 k3 k5 ⟨rfl, rfl⟩ Fro.nil x1.inl (fun i hi => List.mem_append_right _ hi) h2
        refine ⟨.tmp cs, st2, F2, fd, by unfold fLc; rw [a1]; simp only; rw [c1], E2.back (js := js) k7 E1 hc (by rw [wipeR_len]) (fun k hk => (wipeR_out hk).symm), x2, .inr (.inl ⟨_, _, rfl, rfl, r2⟩), k6⟩
      · cases q
    · cases q
  · cases q
end
end Vs
/-! defs and calls -/
namespace Vs
open PySem PySem.Spec PyProof.Rows L2 Gd Ev
section
variable {M R S S0 S1 S2 S3 T T0 T1 T2 T3 T4 : List Nat} {st st' st0 st1 st2 : Sto} {F F' F0 F1 F2 : Fp} {ρ ρ' ρ1 ρ2 : Rho} {e : PEnv}
/-- values, each with its own places -/
def PL (st : Sto) : List A → List A → Fp → Prop
  | [], as, _ => as = []
  | p :: ps, as, fs => ∃ a r, as = a :: r ∧ Vr st p a (fs 0) ∧ PL st ps r fun k => fs (k + 1)
theorem PL.len : ∀ {ps as : List A} {fs : Fp}, PL st ps as fs → as.length = ps.length
  | [], as, _, h => by cases (show as = [] from h); rfl
  | p :: ps, as, fs, ⟨a, r, e, _, h⟩ => by rw [e, List.length_cons, List.length_cons, h.len]
theorem PL.at_ : ∀ {ps as : List A} {fs : Fp} {k : Nat} {p : A}, PL st ps as fs → ps[k]? = some p → ∃ a, as[k]? = some a ∧ Vr st p a (fs k)
  | [], _, _, _, _, _, h => by simp at h
  | p :: ps, as, fs, 0, q, ⟨a, r, e, h1, _⟩, h => by
    have : p = q := by simpa using h
    subst this e
    exact ⟨a, rfl, h1⟩
  | p :: ps, as, fs, k + 1, q, ⟨a, r, e, _, h2⟩, h => by
    subst e
    obtain ⟨b, h3, h4⟩ := h2.at_ (k := k) (p := q) (by simpa using h)
    exact ⟨b, by simpa using h3, h4⟩
/-- what a def promises: the first argument may be changed (io); what is told may be part of the others (al) -/
def SF (io al : Bool) (c : FN) (v : List A → Option (A × A)) : Prop := ∀ {st : Sto} {ps as : List A} {fs : Fp} {p o : A}, PL st ps as fs → (io = true → (fs 0).Nodup ∧ ∀ k, 0 < k → k < ps.length → ∀ l ∈ fs k, l ∉ fs 0) → v ps = some (p, o) →
  ∃ a st' fa g, c as st = .ok a st' ∧ st.length ≤ st'.length ∧ (∀ l, l < st.length → (io = true → l ∉ fs 0) → st'[l]? = st[l]?) ∧ VrE st' p a fa ∧
    (io = true → ∀ a0, as[0]? = some a0 → Vr st' o a0 g ∧ g.Nodup ∧ ∀ l ∈ g, l ∈ fs 0 ∨ st.length ≤ l) ∧
    (∀ l ∈ fa, (al = true ∧ ∃ k, k < ps.length ∧ (io = true → 0 < k) ∧ l ∈ fs k) ∨ ((io = true → l ∉ g) ∧ ((io = true ∧ l ∈ fs 0) ∨ st.length ≤ l))) ∧ (al = false → fa.Nodup)
/-- how an argument stands in the def -/
def ptE (p : A) : Ent := if p.dry = true then .own p else .bor [99] p
def inE : Bool → List A → PEnv
  | _, [] => []
  | true, p :: ps => some (.own p) :: inE false ps
  | false, p :: ps => some (ptE p) :: inE false ps
theorem inE_len : ∀ {io : Bool} {ps : List A}, (inE io ps).length = ps.length
  | _, [] => by cases ‹Bool› <;> rfl
  | true, p :: ps => by show (inE false ps).length + 1 = _; rw [inE_len]; rfl
  | false, p :: ps => by show (inE false ps).length + 1 = _; rw [inE_len]; rfl
theorem inE_false : ∀ {ps : List A} {k : Nat}, (inE false ps)[k]? = (ps[k]?).map fun p => some (ptE p)
  | [], k => rfl
  | p :: ps, 0 => rfl
  | p :: ps, k + 1 => by show (inE false ps)[k]? = _; rw [inE_false]; rfl
theorem inE_pos : ∀ {io : Bool} {ps : List A} {k : Nat}, (io = true → 0 < k) → (inE io ps)[k]? = (ps[k]?).map fun p => some (ptE p)
  | false, ps, k, _ => inE_false
  | true, [], k, _ => rfl
  | true, p :: ps, 0, h => by have := h rfl; omega
  | true, p :: ps, k + 1, _ => by show (inE false ps)[k]? = _; rw [inE_false]; rfl
open Classical in
/-- all places of the other arguments -/
noncomputable def extF (st : Sto) (n : Nat) (io : Bool) (fs : Fp) : List Nat := (List.range st.length).filter fun l => decide (∃ k, k < n ∧ (io = true → 0 < k) ∧ l ∈ fs k)
noncomputable def inF (st : Sto) (n : Nat) (io : Bool) (fs : Fp) : Fp := fun i => if i = 99 then extF st n io fs else if io = true ∧ i = 0 then fs 0 else []
theorem in_ER {io : Bool} {ps as : List A} {fs : Fp} {m : Nat} (P : PL st ps as fs) (hio : io = true → (fs 0).Nodup ∧ ∀ k, 0 < k → k < ps.length → ∀ l ∈ fs k, l ∉ fs 0) (hn : ps.length + m < 90) (hne : io = true → ps ≠ []) :
    ER st (as.map some ++ List.replicate m none) (inE io ps ++ List.replicate m none) (inF st ps.length io fs) := by
  have lenE : (inE io ps ++ List.replicate m none).length = ps.length + m := by rw [List.length_append, inE_len, List.length_replicate]
  have cell : ∀ (k : Nat) (en : Ent), (inE io ps ++ List.replicate m none)[k]? = some (some en) → k < ps.length ∧ (inE io ps)[k]? = some (some en) := fun k en h => by
    by_cases hk : k < ps.length
    · rw [List.getElem?_append_left (by rw [inE_len]; exact hk)] at h
      exact ⟨hk, h⟩
    · rw [List.getElem?_append_right (by rw [inE_len]; omega), List.getElem?_replicate] at h
      split at h <;> cases h
  have arg : ∀ (k : Nat) (p : A), ps[k]? = some p → ∃ a, (as.map some ++ List.replicate m none)[k]? = some (some a) ∧ Vr st p a (fs k) := fun k p h => by
    obtain ⟨a, h1, h2⟩ := P.at_ h
    have hk := (List.getElem?_eq_some_iff.mp h1).1
    exact ⟨a, by rw [List.getElem?_append_left (by rw [List.length_map]; exact hk), List.getElem?_map, h1]; rfl, h2⟩
  have one : ∀ (k : Nat) (en : Ent), (inE io ps)[k]? = some (some en) → (∃ p, io = true ∧ k = 0 ∧ ps[0]? = some p ∧ en = .own p) ∨ ((io = true → 0 < k) ∧ ∃ p, ps[k]? = some p ∧ en = ptE p) := fun k en h => by
    by_cases hk : io = true ∧ k = 0
    · obtain ⟨rfl, rfl⟩ := hk
      cases ps with
      | nil => cases h
      | cons p ps => cases h; exact .inl ⟨p, rfl, rfl, rfl, rfl⟩
    · have hp : io = true → 0 < k := fun z => Nat.pos_of_ne_zero fun y => hk ⟨z, y⟩
      rw [inE_pos hp] at h
      obtain ⟨p, h1, h2⟩ := Option.map_eq_some_iff.mp h
      exact .inr ⟨hp, p, h1, (Option.some.inj h2).symm⟩
  have ext_lt : ∀ l ∈ extF st ps.length io fs, l < st.length := fun l hl => List.mem_range.mp (List.mem_filter.mp hl).1
  have fs0 : io = true → ∃ p a, ps[0]? = some p ∧ Vr st p a (fs 0) := fun z => by
    cases ps with
    | nil => exact (hne z rfl).elim
    | cons p ps => obtain ⟨a, r, _, h1, _⟩ := P; exact ⟨p, a, rfl, h1⟩
  refine ⟨?_, fun k p h => ?_, fun k B p h => ?_, fun k => ?_, fun k j l hkj hl z => ?_, fun k l hl => ?_, fun k hk h => ?_⟩
  · rw [List.length_append, List.length_append, List.length_map, inE_len, P.len]
    simp
  · obtain ⟨hk, h1⟩ := cell k _ h
    have k99 : k ≠ 99 := by omega
    rcases one k _ h1 with ⟨q, hi, hk0, hq, e⟩ | ⟨hi, q, hq, e⟩
    · cases e
      subst hk0
      obtain ⟨a, h2, h3⟩ := arg 0 p hq
      refine ⟨a, h2, ?_⟩
      unfold inF
      rw [if_neg k99, if_pos ⟨hi, rfl⟩]
      exact h3
    · unfold ptE at e
      split at e
      · rename_i hd
        cases e
        obtain ⟨a, h2, h3⟩ := arg k p hq
        refine ⟨a, h2, ?_⟩
        unfold inF
        rw [if_neg k99, if_neg (fun z => by have := hi z.1; omega)]
        rw [(h3.dry hd).1]
        exact Vr.of_dry hd
      · cases e
  · obtain ⟨hk, h1⟩ := cell k _ h
    rcases one k _ h1 with ⟨q, hi, hk0, hq, e⟩ | ⟨hi, q, hq, e⟩
    · cases e
    · unfold ptE at e
      split at e
      · cases e
      · cases e
        obtain ⟨a, h2, h3⟩ := arg k p hq
        refine ⟨a, fs k, h2, h3, fun l hl => ⟨99, List.mem_singleton.mpr rfl, ?_⟩⟩
        unfold inF
        rw [if_pos rfl]
        exact List.mem_filter.mpr ⟨List.mem_range.mpr (h3.lt l hl), decide_eq_true ⟨k, hk, hi, hl⟩⟩
  · unfold inF
    split
    · exact List.Pairwise.filter _ List.nodup_range
    · split
      · rename_i h; exact (hio h.1).1
      · exact List.nodup_nil
  · have far : io = true → ∀ l ∈ extF st ps.length io fs, l ∉ fs 0 := fun hi l hl => by
      obtain ⟨k, h1, h2, h3⟩ := of_decide_eq_true (List.mem_filter.mp hl).2
      exact (hio hi).2 k (h2 hi) h1 l h3
    unfold inF at hl z
    split at hl
    · rename_i h1
      split at z
      · rename_i h2; omega
      · split at z
        · rename_i h3; exact far h3.1 l hl z
        · cases z
    · split at hl
      · rename_i h3
        split at z
        · exact far h3.1 l z hl
        · split at z
          · rename_i h4; omega
          · cases z
      · cases hl
  · unfold inF at hl
    split at hl
    · exact ext_lt l hl
    · split at hl
      · rename_i h
        obtain ⟨p, a, _, h1⟩ := fs0 h.1
        exact h1.lt l hl
      · cases hl
  · rw [lenE] at hk
    unfold inF
    rw [if_neg (by omega)]
    split
    · rename_i h1
      obtain ⟨p, a, h2, _⟩ := fs0 h1.1
      have : 0 < ps.length := (List.getElem?_eq_some_iff.mp h2).1
      exfalso
      obtain ⟨rfl, rfl⟩ := h1
      refine h p ?_
      rw [List.getElem?_append_left (by rw [inE_len]; exact this)]
      cases ps with
      | nil => cases h2
      | cons q ps => cases h2; rfl
    · rfl
/-! what is forgotten behind a def -/
mutual
theorem Vr.bel : ∀ {p a : A} {fp : List Nat}, Vr st p a fp → a.bel st.length = true
  | .non, a, fp, h => by rw [h.1]; rfl
  | .bl _, a, fp, h => by rw [h.1]; rfl
  | .int _, a, fp, h => by rw [h.1]; rfl
  | .str _, a, fp, h => by rw [h.1]; rfl
  | .frz ps, a, fp, h => by rw [h.1]; exact dryL_bel h.2.1
  | .tup ps, a, fp, ⟨as, e, h⟩ => by rw [e]; exact VrL.bel h
  | .pr p q, a, fp, ⟨x, y, f1, f2, e, e1, h1, h2⟩ => by
    rw [e]
    show (x.bel st.length && y.bel st.length) = true
    rw [Vr.bel h1, Vr.bel h2]
    rfl
  | .tmp _, a, fp, ⟨l, as, fq, e, e1, e2, h⟩ => by rw [e]; exact decide_eq_true (List.getElem?_eq_some_iff.mp e1).1
  | .dtm _, a, fp, ⟨l, e, e1, e2, h⟩ => by rw [e]; exact decide_eq_true (List.getElem?_eq_some_iff.mp e1).1
  | .loc _, _, _, h => h.elim
theorem VrL.bel : ∀ {ps as : List A} {fp : List Nat}, VrL st ps as fp → belL st.length as = true
  | [], as, fp, h => by rw [h.1]; rfl
  | p :: ps, as, fp, ⟨a, r, f1, f2, e, e1, h1, h2⟩ => by
    rw [e]
    show (a.bel st.length && belL st.length r) = true
    rw [Vr.bel h1, VrL.bel h2]
    rfl
end
theorem belD_dry {n : Nat} : ∀ {kvs : List (Key × A)}, dryD kvs = true → belD n kvs = true
  | [], _ => rfl
  | (k, a) :: r, h => by
    have h' : (a.dry && dryD r) = true := h
    rw [Bool.and_eq_true] at h'
    show (a.bel n && belD n r) = true
    rw [dry_bel h'.1, belD_dry h'.2]
    rfl
mutual
/-- the places hold nothing new -/
theorem Vr.cells : ∀ {p a : A} {fp : List Nat}, Vr st p a fp → ∀ l ∈ fp, ∃ o, st[l]? = some o ∧ o.bel st.length = true
  | .non, a, fp, h, l, hl => by rw [h.2] at hl; cases hl
  | .bl _, a, fp, h, l, hl => by rw [h.2] at hl; cases hl
  | .int _, a, fp, h, l, hl => by rw [h.2] at hl; cases hl
  | .str _, a, fp, h, l, hl => by rw [h.2] at hl; cases hl
  | .frz _, a, fp, h, l, hl => by rw [h.2.2] at hl; cases hl
  | .tup ps, a, fp, ⟨as, e, h⟩, l, hl => VrL.cells h l hl
  | .pr p q, a, fp, ⟨x, y, f1, f2, e, e1, h1, h2⟩, l, hl => by
    rw [e1] at hl
    rcases List.mem_append.mp hl with h | h
    · exact Vr.cells h1 l h
    · exact Vr.cells h2 l h
  | .tmp _, a, fp, ⟨l', as, fq, e, e1, e2, h⟩, l, hl => by
    rw [e2] at hl
    rcases List.mem_cons.mp hl with rfl | h'
    · exact ⟨_, e1, VrL.bel h⟩
    · exact VrL.cells h l h'
  | .dtm _, a, fp, ⟨l', e, e1, e2, h⟩, l, hl => by
    rw [e2] at hl
    rw [List.mem_singleton.mp hl]
    exact ⟨_, e1, belD_dry h⟩
  | .loc _, _, _, h, _, _ => h.elim
theorem VrL.cells : ∀ {ps as : List A} {fp : List Nat}, VrL st ps as fp → ∀ l ∈ fp, ∃ o, st[l]? = some o ∧ o.bel st.length = true
  | [], as, fp, h, l, hl => by rw [h.2] at hl; cases hl
  | p :: ps, as, fp, ⟨a, r, f1, f2, e, e1, h1, h2⟩, l, hl => by
    rw [e1] at hl
    rcases List.mem_append.mp hl with h | h
    · exact Vr.cells h1 l h
    · exact VrL.cells h2 l h
end
mutual
theorem Vr.cut {n : Nat} : ∀ {p a : A} {fp : List Nat}, Vr st p a fp → a.bel n = true → (∀ l ∈ fp, l < n → ∃ o, st[l]? = some o ∧ o.bel n = true) → Vr (st.take n) p a fp
  | .non, a, fp, h, _, _ => h
  | .bl _, a, fp, h, _, _ => h
  | .int _, a, fp, h, _, _ => h
  | .str _, a, fp, h, _, _ => h
  | .frz _, a, fp, h, _, _ => h
  | .tup ps, a, fp, ⟨as, e, h⟩, hb, hc => ⟨as, e, VrL.cut h (by rw [e] at hb; exact hb) hc⟩
  | .pr p q, a, fp, ⟨x, y, f1, f2, e, e1, h1, h2⟩, hb, hc => by
    rw [e] at hb
    have hb' : (x.bel n && y.bel n) = true := hb
    rw [Bool.and_eq_true] at hb'
    exact ⟨x, y, f1, f2, e, e1, Vr.cut h1 hb'.1 fun l hl => hc l (by rw [e1]; exact List.mem_append_left _ hl), Vr.cut h2 hb'.2 fun l hl => hc l (by rw [e1]; exact List.mem_append_right _ hl)⟩
  | .tmp _, a, fp, ⟨l, as, fq, e, e1, e2, h⟩, hb, hc => by
    rw [e] at hb
    have hl : l < n := of_decide_eq_true hb
    obtain ⟨o, h1, h2⟩ := hc l (by rw [e2]; exact List.mem_cons_self) hl
    rw [e1] at h1
    cases h1
    exact ⟨l, as, fq, e, by rw [List.getElem?_take, if_pos hl]; exact e1, e2, VrL.cut h h2 fun k hk => hc k (by rw [e2]; exact List.mem_cons_of_mem _ hk)⟩
  | .dtm _, a, fp, ⟨l, e, e1, e2, h⟩, hb, hc => by
    rw [e] at hb
    have hl : l < n := of_decide_eq_true hb
    exact ⟨l, e, by rw [List.getElem?_take, if_pos hl]; exact e1, e2, h⟩
  | .loc _, _, _, h, _, _ => h.elim
theorem VrL.cut {n : Nat} : ∀ {ps as : List A} {fp : List Nat}, VrL st ps as fp → belL n as = true → (∀ l ∈ fp, l < n → ∃ o, st[l]? = some o ∧ o.bel n = true) → VrL (st.take n) ps as fp
  | [], as, fp, h, _, _ => h
  | p :: ps, as, fp, ⟨a, r, f1, f2, e, e1, h1, h2⟩, hb, hc => by
    rw [e] at hb
    have hb' : (a.bel n && belL n r) = true := hb
    rw [Bool.and_eq_true] at hb'
    exact ⟨a, r, f1, f2, e, e1, Vr.cut h1 hb'.1 fun l hl => hc l (by rw [e1]; exact List.mem_append_left _ hl), VrL.cut h2 hb'.2 fun l hl => hc l (by rw [e1]; exact List.mem_append_right _ hl)⟩
end
/-- finish: a value behind it -/
theorem fin_vr {p a : A} {fa : List Nat} (r : VrE st1 p a fa) (hc : ∀ l ∈ fa, l < st.length → ∃ o, st[l]? = some o ∧ o.bel st.length = true) (le : st.length ≤ st1.length) :
    ∃ b st2 fb, Ev.finish st a st1 = .ok b st2 ∧ ((st2 = st1 ∧ b = a ∧ fb = fa) ∨ (st2 = st1.take st.length ∧ Kept st st1 ∧ Sub fb fa)) ∧ VrE st2 p b fb := by
  have keepc : Kept st st1 → ∀ l ∈ fa, l < st.length → ∃ o, st1[l]? = some o ∧ o.bel st.length = true := fun K l hl hlt => by
    rcases K.2 l hlt with q | q
    · rw [q]; exact hc l hl hlt
    · exact q
  have big : ∃ b st2 fb, (Ev.R.ok a st1 : Ev.R A) = .ok b st2 ∧ ((st2 = st1 ∧ b = a ∧ fb = fa) ∨ (st2 = st1.take st.length ∧ Kept st st1 ∧ Sub fb fa)) ∧ VrE st2 p b fb := ⟨a, st1, fa, rfl, .inl ⟨rfl, rfl, rfl⟩, r⟩
  unfold Ev.finish
  split
  · rename_i K
    split
    · rename_i l
      split
      · rename_i hl
        refine ⟨.loc l, _, fa, rfl, .inr ⟨rfl, K, Sub.refl⟩, ?_⟩
        rcases r with r | ⟨_, _, _, e, _⟩ | ⟨_, _, e, _⟩
        · exact .inl (r.cut (decide_eq_true hl) (keepc K))
        · cases e
        · cases e
      · split
        · rename_i xs hx
          split
          · rename_i hb
            rcases r with r | ⟨_, _, _, e, _⟩ | ⟨_, _, e, _⟩
            · cases p with
              | tmp ps =>
                obtain ⟨l', as, fq, e1, e2, e3, r⟩ := r
                cases e1
                rw [hx] at e2
                cases e2
                exact ⟨_, _, fq, rfl, .inr ⟨rfl, K, by rw [e3]; exact Sub.refl.tail⟩, .inr (.inl ⟨ps, xs, rfl, rfl, r.cut hb fun l hl => keepc K l (by rw [e3]; exact List.mem_cons_of_mem _ hl)⟩)⟩
              | dtm _ => obtain ⟨l', e1, e2, _⟩ := r; cases e1; rw [hx] at e2; cases e2
              | non => cases r.1
              | bl _ => cases r.1
              | int _ => cases r.1
              | str _ => cases r.1
              | frz _ => cases r.1
              | tup _ => obtain ⟨_, e, _⟩ := r; cases e
              | pr _ _ => obtain ⟨_, _, _, _, e, _⟩ := r; cases e
              | loc _ => exact r.elim
            · cases e
            · cases e
          · exact big
        · rename_i xs hx
          split
          · rename_i hb
            rcases r with r | ⟨_, _, _, e, _⟩ | ⟨_, _, e, _⟩
            · cases p with
              | tmp ps => obtain ⟨l', as, fq, e1, e2, _⟩ := r; cases e1; rw [hx] at e2; cases e2
              | dtm kvs =>
                obtain ⟨l', e1, e2, e3, hd⟩ := r
                cases e1
                rw [hx] at e2
                cases e2
                exact ⟨_, _, [], rfl, .inr ⟨rfl, K, Sub.nil⟩, .inr (.inr ⟨_, rfl, rfl, rfl, hd⟩)⟩
              | non => cases r.1
              | bl _ => cases r.1
              | int _ => cases r.1
              | str _ => cases r.1
              | frz _ => cases r.1
              | tup _ => obtain ⟨_, e, _⟩ := r; cases e
              | pr _ _ => obtain ⟨_, _, _, _, e, _⟩ := r; cases e
              | loc _ => exact r.elim
            · cases e
            · cases e
          · exact big
        · exact big
    · rename_i hn
      split
      · rename_i hb
        refine ⟨a, _, fa, rfl, .inr ⟨rfl, K, Sub.refl⟩, ?_⟩
        rcases r with r | ⟨ps, as, e1, e2, r⟩ | ⟨kvs, e1, e2, e3, hd⟩
        · exact .inl (r.cut hb (keepc K))
        · subst e1 e2
          exact .inr (.inl ⟨ps, as, rfl, rfl, r.cut hb (keepc K)⟩)
        · exact .inr (.inr ⟨kvs, e1, e2, e3, hd⟩)
      · exact big
  · exact big
/-- a def's value: its body from its arguments -/
def vdef (io : Bool) (m : Nat) (h : VS) : List A → Option (A × A) := fun ps => match h (inE io ps ++ List.replicate m none) with
  | some (PF.rt p e) => (match io with
    | true => (match e[0]? with
      | some (some (Ent.own o)) => some (p, o)
      | _ => none)
    | false => some (p, .non))
  | some (PF.nx e) => (match io with
    | true => (match e[0]? with
      | some (some (Ent.own o)) => some (A.non, o)
      | _ => none)
    | false => some (A.non, A.non))
  | _ => none
theorem s_def {io al : Bool} {n m : Nat} {s : FS} {h : VS} (hb : SS (if io = true then [0] else []) (if al = true then [99] else []) T s h) (h99 : T.contains 99 = false := by rfl) (hn : (decide (n + m < 90) && (!io || decide (0 < n))) = true := by rfl) :
    SF io al (defn n m s) fun ps => if ps.length = n then vdef io m h ps else none := by
  intro st ps as fs p o P hio q
  rw [Bool.and_eq_true] at hn
  have hn1 := of_decide_eq_true hn.1
  replace q : (if ps.length = n then vdef io m h ps else none) = some (p, o) := q
  split at q
  · rename_i hl
    have hne : io = true → ps ≠ [] := fun z e => by
      have h2 := hn.2
      rw [z, Bool.not_true, Bool.false_or] at h2
      have := of_decide_eq_true h2
      rw [e] at hl
      simp at hl
      omega
    have E := in_ER (m := m) P hio (by rw [hl]; exact hn1) hne
    have h99' : 99 ∉ T := fun z => by rw [List.contains_iff_mem.mpr z] at h99; cases h99
    have argc : ∀ k, k < ps.length → ∀ l ∈ fs k, ∃ o, st[l]? = some o ∧ o.bel st.length = true := fun k hk l hl => by
      obtain ⟨a, _, r⟩ := P.at_ (List.getElem?_eq_getElem hk)
      exact r.cells l hl
    have pos : io = true → 0 < ps.length := fun z => List.length_pos_iff.mpr (hne z)
    -- the body's end
    have fin : ∀ {a : A} {ρ' : Rho} {st1 : Sto} {F1 : Fp} {e1 : PEnv} {fa : List Nat}, ER st1 ρ' e1 F1 → Stp T st (inF st ps.length io fs) st1 F1 → Same (if io = true then [0] else []) (as.map some ++ List.replicate m none) ρ' → VrE st1 p a fa → Fro (if al = true then [99] else []) T st (inF st ps.length io fs) F1 fa → (io = true → e1[0]? = some (some (.own o))) →
        ∃ b st' fb g, Ev.finish st a st1 = .ok b st' ∧ st.length ≤ st'.length ∧ (∀ l, l < st.length → (io = true → l ∉ fs 0) → st'[l]? = st[l]?) ∧ VrE st' p b fb ∧
          (io = true → ∀ a0, as[0]? = some a0 → Vr st' o a0 g ∧ g.Nodup ∧ ∀ l ∈ g, l ∈ fs 0 ∨ st.length ≤ l) ∧
          (∀ l ∈ fb, (al = true ∧ ∃ k, k < ps.length ∧ (io = true → 0 < k) ∧ l ∈ fs k) ∨ ((io = true → l ∉ g) ∧ ((io = true ∧ l ∈ fs 0) ∨ st.length ≤ l))) ∧ (al = false → fb.Nodup) := fun {a ρ' st1 F1 e1 fa} E1 x1 sm r k ho => by
      have inT : ∀ l, (∃ j ∈ T, l ∈ inF st ps.length io fs j) → io = true ∧ l ∈ fs 0 := fun l ⟨j, hj, z⟩ => by
        unfold inF at z
        split at z
        · rename_i h; exact (h99' (h ▸ hj)).elim
        · split at z
          · rename_i h; exact ⟨h.1, z⟩
          · cases z
      have unch : ∀ l, l < st.length → (io = true → l ∉ fs 0) → st1[l]? = st[l]? := fun l hl hn => x1.fr l hl fun i hi z => by
        obtain ⟨h1, h2⟩ := inT l ⟨i, hi, z⟩
        exact hn h1 h2
      have F99 : F1 99 = extF st ps.length io fs := by rw [x1.kp 99 h99']; unfold inF; rw [if_pos rfl]
      have faAt : ∀ l ∈ fa, (al = true ∧ ∃ k, k < ps.length ∧ (io = true → 0 < k) ∧ l ∈ fs k) ∨ ((∀ i, l ∉ F1 i) ∧ ((io = true ∧ l ∈ fs 0) ∨ st.length ≤ l)) := fun l hl => by
        rcases k.at_ l hl with ⟨j, hj, z⟩ | ⟨z, z2⟩
        · cases al with
          | false => cases hj
          | true =>
            rw [List.mem_singleton.mp hj, F99] at z
            obtain ⟨k, h1, h2, h3⟩ := of_decide_eq_true (List.mem_filter.mp z).2
            exact .inl ⟨rfl, k, h1, h2, h3⟩
        · exact .inr ⟨z, z2.imp (inT l) id⟩
      have gAt : io = true → ∀ l ∈ F1 0, l ∈ fs 0 ∨ st.length ≤ l := fun hi l hl => by
        rcases x1.nw 0 l hl with z | z | z
        · unfold inF at z
          rw [if_neg (by decide), if_pos ⟨hi, rfl⟩] at z
          exact .inl z
        · exact .inl (inT l z).2
        · exact .inr z
      have faC : ∀ l ∈ fa, l < st.length → ∃ o, st[l]? = some o ∧ o.bel st.length = true := fun l hl hlt => by
        rcases faAt l hl with ⟨_, k, h1, _, h3⟩ | ⟨_, ⟨h1, h2⟩ | h1⟩
        · exact argc k h1 l h3
        · exact argc 0 (pos h1) l h2
        · omega
      obtain ⟨b, st2, fb, f1, f2, f3⟩ := fin_vr (st := st) r faC x1.le
      have io0 : io = true → ∀ a0, as[0]? = some a0 → Vr st1 o a0 (F1 0) := fun hi a0 h0 => by
        obtain ⟨a', h1, h2⟩ := E1.own 0 o (ho hi)
        have := sm 0 (by rw [hi]; exact List.mem_singleton.mpr rfl)
        rw [h1, List.getElem?_append_left (by rw [List.length_map]; exact (List.getElem?_eq_some_iff.mp h0).1), List.getElem?_map, h0] at this
        cases this
        exact h2
      rcases f2 with ⟨rfl, rfl, rfl⟩ | ⟨rfl, K, sub⟩
      · exact ⟨b, st2, fb, F1 0, f1, x1.le, unch, f3, fun hi a0 h0 => ⟨io0 hi a0 h0, E1.nd 0, gAt hi⟩, fun l hl => (faAt l hl).imp id fun z => ⟨fun _ => z.1 0, z.2⟩, fun z => k.nd (by rw [z]; rfl)⟩
      · refine ⟨b, _, fb, F1 0, f1, by rw [List.length_take]; have := x1.le; omega, fun l hl hn => by rw [List.getElem?_take, if_pos hl]; exact unch l hl hn, f3, fun hi a0 h0 => ⟨?_, E1.nd 0, gAt hi⟩, fun l hl => (faAt l (sub.1 l hl)).imp id fun z => ⟨fun _ => z.1 0, z.2⟩, fun z => sub.2 (k.nd (by rw [z]; rfl))⟩
        have hb0 : a0.bel st.length = true := by
          obtain ⟨a', h1, h2⟩ := P.at_ (List.getElem?_eq_getElem (pos hi))
          rw [h0] at h1
          cases h1
          exact h2.bel
        refine (io0 hi a0 h0).cut hb0 fun l hl hlt => ?_
        rcases K.2 l hlt with z | z
        · rw [z]
          rcases gAt hi l hl with y | y
          · exact argc 0 (pos hi) l y
          · omega
        · exact z
    unfold defn
    rw [if_pos (by rw [P.len]; exact hl)]
    unfold vdef at q
    split at q
    · rename_i q1 e1 hq
      obtain ⟨a, ρ', st1, F1, fa, a1, E1, x1, sm, r1, k1⟩ := hb E hq
      rw [a1]
      have hp : q1 = p := by
        cases io
        · cases q; rfl
        · simp only at q; split at q <;> cases q; rfl
      subst hp
      exact fin E1 x1 sm r1 k1 fun hi => by
        subst hi
        simp only at q
        split at q
        · rename_i h9; cases q; exact h9
        · cases q
    · rename_i e1 hq
      obtain ⟨ρ', st1, F1, a1, E1, x1, sm⟩ := hb E hq
      rw [a1]
      have hp : p = .non := by
        cases io
        · cases q; rfl
        · simp only at q; split at q <;> cases q; rfl
      subst hp
      exact fin (fa := []) E1 x1 sm (.inl ⟨rfl, rfl⟩) Fro.nil fun hi => by
        subst hi
        simp only at q
        split at q
        · rename_i h9; cases q; exact h9
        · cases q
    · cases q
  · cases q
end
end Vs
/-! calls; dicts -/
namespace Vs
open PySem PySem.Spec PyProof.Rows L2 Gd Ev
section
variable {M R S S0 S1 S2 S3 T T0 T1 T2 T3 T4 : List Nat} {st st' st0 st1 st2 : Sto} {F F' F0 F1 F2 : Fp} {ρ ρ' ρ1 ρ2 : Rho} {e : PEnv}
theorem PL.of : ∀ {ps as : List A} {fa : List Nat}, VrL st ps as fa → ∃ fs : Fp, PL st ps as fs ∧ ∀ k, k < ps.length → ∀ l ∈ fs k, l ∈ fa
  | [], as, fa, h => ⟨fun _ => [], h.1, fun k hk => by simp at hk⟩
  | p :: ps, as, fa, ⟨a, r, f1, f2, e, e1, h1, h2⟩ => by
    subst e e1
    obtain ⟨fs, h3, h4⟩ := PL.of h2
    refine ⟨fun k => match k with | 0 => f1 | k + 1 => fs k, ⟨a, r, rfl, h1, h3⟩, fun k hk l hl => ?_⟩
    cases k with
    | zero => exact List.mem_append_left _ hl
    | succ k => exact List.mem_append_right _ (h4 k (by simpa using hk) l hl)
theorem VrL.rev : ∀ {ps as : List A} {fa : List Nat}, VrL st ps as fa → ∃ fb, VrL st ps.reverse as.reverse fb ∧ ∀ l ∈ fb, l ∈ fa
  | [], as, fa, h => ⟨[], by rw [h.1]; exact ⟨rfl, rfl⟩, fun _ h => (List.not_mem_nil h).elim⟩
  | p :: ps, as, fa, ⟨a, r, f1, f2, e, e1, h1, h2⟩ => by
    subst e e1
    obtain ⟨fb, h3, h4⟩ := h2.rev
    refine ⟨fb ++ f1, by rw [List.reverse_cons, List.reverse_cons]; exact h3.snoc h1, fun l hl => ?_⟩
    rcases List.mem_append.mp hl with q | q
    · exact List.mem_append_right _ (h4 l q)
    · exact List.mem_append_left _ q
theorem ER.ext (E : ER st ρ e F) (hle : st.length ≤ st'.length) (hs : ∀ l, l < st.length → st'[l]? = st[l]?) : ER st' ρ e F :=
  ⟨E.len, fun i p h => let ⟨a, h1, h2⟩ := E.own i p h; ⟨a, h1, h2.mono fun l hl => hs l (E.lt i l hl)⟩, fun i S p h => let ⟨a, fb, h1, h2, h3⟩ := E.bor i S p h; ⟨a, fb, h1, h2.mono fun l hl => hs l (h2.lt l hl), h3⟩, E.nd, E.dj, fun i l hl => Nat.lt_of_lt_of_le (E.lt i l hl) hle, E.em⟩
/-- where what a call tells may lie -/
def resS (al : Bool) (S : List Nat) : List Nat := if al = true then 98 :: S else []
def vcall (v : List A → Option (A × A)) (gs : VA) : VE := fun e => match gs e with
  | some (ps, e1) => (match v ps with
    | some (r, _) => some (r, e1)
    | none => none)
  | none => none
theorem call_of {al : Bool} {c : FN} {v : List A → Option (A × A)} {ps as : List A} {fa : List Nat} {p o : A} (hc : SF false al c v) (x1 : Stp T st F st1 F1) (E1 : ER st1 ρ e F1) (r1 : VrL st1 ps as fa) (k1 : ∀ l ∈ fa, (∃ j ∈ S, l ∈ F1 j) ∨ ((∀ i, l ∉ F1 i) ∧ ((∃ j ∈ T, l ∈ F j) ∨ st.length ≤ l))) (q : v ps = some (p, o)) :
    ∃ b st2 fb, c as st1 = .ok b st2 ∧ ER st2 ρ e F1 ∧ Stp T st F st2 F1 ∧ VrE st2 p b fb ∧ Fro (resS al S) T st F F1 fb := by
  obtain ⟨fs, P, hP⟩ := PL.of r1
  obtain ⟨b, st2, fb, g, h1, h2, h3, h4, _, h6, h7⟩ := hc P (fun z => nomatch z) q
  have hs : ∀ l, l < st1.length → st2[l]? = st1[l]? := fun l hl => h3 l hl fun z => nomatch z
  refine ⟨b, st2, fb, h1, E1.ext h2 hs, ⟨Nat.le_trans x1.le h2, fun l hl z => by rw [hs l (Nat.lt_of_lt_of_le hl x1.le), x1.fr l hl z], x1.kp, x1.nw⟩, h4, ⟨fun l hl => ?_, fun z => ?_⟩⟩
  · rcases h6 l hl with ⟨ha, k, hk, _, hl2⟩ | ⟨_, ⟨z, _⟩ | z⟩
    · subst ha
      exact (k1 l (hP k hk l hl2)).imp (fun ⟨j, hj, y⟩ => ⟨j, List.mem_cons_of_mem _ hj, y⟩) id
    · cases z
    · exact .inr ⟨fun i y => by have := E1.lt i l y; omega, .inr (Nat.le_trans x1.le z)⟩
  · cases al
    · exact h7 rfl
    · cases z
theorem s_call {al : Bool} {c : FN} {v : List A → Option (A × A)} {f : FA} {g : VA} (hc : SF false al c v) (h : SB S T f g) : SE (resS al S) T (fN c f) (vcall v g) := by
  intro st ρ e F p e' E q
  unfold vcall at q
  split at q
  · rename_i ps e1 h1
    split at q
    · rename_i r o h2
      cases q
      obtain ⟨as, st1, F1, fa, a1, E1, x1, r1, k1⟩ := h E h1
      obtain ⟨b, st2, fb, c1, E2, x2, r2, k2⟩ := call_of hc x1 E1 r1 k1.at_ h2
      exact ⟨b, st2, F1, fb, by unfold fN; rw [a1]; exact c1, E2, x2, r2, k2⟩
    · cases q
  · cases q
/-- by the names of its arguments, the last one first -/
def vcallK (v : List A → Option (A × A)) (gs : VA) : VE := fun e => match gs e with
  | some (ps, e1) => (match v ps.reverse with
    | some (r, _) => some (r, e1)
    | none => none)
  | none => none
theorem s_callK {al : Bool} {c : FN} {v : List A → Option (A × A)} {f : FA} {g : VA} (hc : SF false al c v) (h : SB S T f g) : SE (resS al S) T (fNK c f) (vcallK v g) := by
  intro st ρ e F p e' E q
  unfold vcallK at q
  split at q
  · rename_i ps e1 h1
    split at q
    · rename_i r o h2
      cases q
      obtain ⟨as, st1, F1, fa, a1, E1, x1, r1, k1⟩ := h E h1
      obtain ⟨fb0, r1', sub⟩ := r1.rev
      obtain ⟨b, st2, fb, c1, E2, x2, r2, k2⟩ := call_of hc x1 E1 r1' (fun l hl => k1.at_ l (sub l hl)) h2
      exact ⟨b, st2, F1, fb, by unfold fNK; rw [a1]; exact c1, E2, x2, r2, k2⟩
    · cases q
  · cases q
/-- the first argument is a slot that may be changed -/
def vcallD (i : Nat) (v : List A → Option (A × A)) (gs : VA) : VE := fun e => match e[i]? with
  | some (some (.own _)) => (match gs e with
    | some (qs, e1) => (match e1[i]? with
      | some (some (.own p)) => (match v (p :: qs) with
        | some (r, o) => some (r, (kill i e1).set i (some (.own o)))
        | none => none)
      | _ => none)
    | none => none)
  | _ => none
theorem locd_nt0 {a : A} (h : a.nt) : locd a st = .ok a st := by
  cases a with
  | tmp _ => exact h.elim
  | dtm _ => exact h.elim
  | _ => rfl
theorem s_callD {al : Bool} {i : Nat} {c : FN} {v : List A → Option (A × A)} {f : FA} {g : VA} (hc : SF true al c v) (h : SB S T f g) (hi : S.contains i = false := by rfl) : SE (resS al S) (T ++ [i]) (fN c (aC (fB (fVar i)) f)) (vcallD i v g) := by
  intro st ρ e F p e' E q
  unfold vcallD at q
  split at q
  · rename_i p0 h0
    split at q
    · rename_i qs e1 h1
      split at q
      · rename_i p1 h2
        split at q
        · rename_i r o h3
          cases q
          obtain ⟨a0, b1, b2⟩ := E.own i _ h0
          obtain ⟨as, st1, F1, fa, a1, E1, x1, r1, k1⟩ := h E h1
          obtain ⟨a0', b3, b4⟩ := E1.own i _ h2
          obtain rfl : a0 = a0' := by rw [b1] at b3; cases b3; rfl
          obtain ⟨fs, P, hP⟩ := PL.of r1
          have iS : i ∉ S := fun z => by rw [List.contains_iff_mem.mpr z] at hi; cases hi
          have far : ∀ l ∈ fa, l ∉ F1 i := fun l hl => by
            rcases k1.at_ l hl with ⟨j, hj, z⟩ | ⟨z, _⟩
            · exact E1.dj j i l (fun y => iS (y ▸ hj)) z
            · exact z i
          have P' : PL st1 (p1 :: qs) (a0 :: as) (fun k => match k with | 0 => F1 i | k + 1 => fs k) := ⟨a0, as, rfl, b4, P⟩
          obtain ⟨b, st2, fb, gg, g1, g2, g3, g4, g5, g6, g7⟩ := hc P' (fun _ => ⟨E1.nd i, fun k hk hk2 l hl => by
            cases k with
            | zero => omega
            | succ k => exact far l (hP k (by simpa using hk2) l hl)⟩) h3
          obtain ⟨v1, v2, v3⟩ := g5 rfl a0 rfl
          have hs : ∀ l, l < st1.length → l ∉ F1 i → st2[l]? = st1[l]? := fun l hl hn => g3 l hl fun _ => hn
          have gF : ∀ l ∈ gg, ∀ j, j ≠ i → l ∉ F1 j := fun l hl j hj z => by
            rcases v3 l hl with y | y
            · exact E1.dj j i l hj z y
            · have := E1.lt j l z; omega
          have il : i < e1.length := (List.getElem?_eq_some_iff.mp h2).1
          refine ⟨b, st2, upF F1 i gg, fb, ?_, E1.put g2 hs rfl (fun _ _ => rfl) v2 gF v1.lt (fun p hp _ => by cases hp; exact ⟨a0, b3, v1⟩) (fun _ _ z => nomatch z) (fun z => (z _ rfl).elim) (fun z => by omega),
            x1.put2 g2 hs (fun l hl => (v3 l hl).imp id fun y => .inr (Nat.le_trans x1.le y)), g4, ⟨fun l hl => ?_, fun z => ?_⟩⟩
          · unfold fN aC fB
            rw [fVar_of b1]
            simp only
            rw [locd_nt0 b2.nt]
            simp only
            rw [a1]
            exact g1
          · rcases g6 l hl with ⟨ha, k, hk, hk2, hl2⟩ | ⟨z1, z2⟩
            · subst ha
              cases k with
              | zero => have := hk2 rfl; omega
              | succ k =>
                have hl3 := hP k (by simpa using hk) l hl2
                rcases k1.at_ l hl3 with ⟨j, hj, y⟩ | ⟨y, y2⟩
                · refine .inl ⟨j, List.mem_cons_of_mem _ hj, ?_⟩
                  unfold upF
                  rw [if_neg (fun z : j = i => iS (z ▸ hj))]
                  exact y
                · refine .inr ⟨fun j w => ?_, y2.imp (fun ⟨j, hj, w⟩ => ⟨j, List.mem_append_left _ hj, w⟩) id⟩
                  unfold upF at w
                  split at w
                  · rcases v3 l w with u | u
                    · exact y i u
                    · have := r1.lt l hl3; omega
                  · exact y j w
            · refine .inr ⟨fun j w => ?_, ?_⟩
              · unfold upF at w
                split at w
                · exact z1 rfl w
                · rename_i hj
                  rcases z2 with ⟨_, u⟩ | u
                  · exact E1.dj j i l hj w u
                  · have := E1.lt j l w; omega
              · rcases z2 with ⟨_, u⟩ | u
                · rcases x1.nw i l u with w | ⟨j, hj, w⟩ | w
                  · exact .inl ⟨i, List.mem_append_right _ (List.mem_singleton.mpr rfl), w⟩
                  · exact .inl ⟨j, List.mem_append_left _ hj, w⟩
                  · exact .inr w
                · exact .inr (Nat.le_trans x1.le u)
          · cases al
            · exact g7 rfl
            · cases z
        · cases q
      · cases q
    · cases q
  · cases q
/-! dicts -/
theorem dryD_put : ∀ {kvs : List (Key × A)} {k : Key} {a : A}, dryD kvs = true → a.dry = true → dryD (putA kvs k a) = true := by
  intro kvs k a h ha
  have m : ∀ {l : List (Key × A)}, dryD l = true → dryD (l.map fun kv => if kv.1 = k then (kv.1, a) else kv) = true := by
    intro l
    induction l with
    | nil => intro _; rfl
    | cons x l ih =>
      obtain ⟨x1, x2⟩ := x
      intro h
      have h' : (x2.dry && dryD l) = true := h
      rw [Bool.and_eq_true] at h'
      rw [List.map_cons]
      by_cases hx : x1 = k
      · rw [if_pos hx]
        show (a.dry && dryD _) = true
        rw [ha, ih h'.2]; rfl
      · rw [if_neg hx]
        show (x2.dry && dryD _) = true
        rw [h'.1, ih h'.2]; rfl
  have ap : ∀ {l : List (Key × A)}, dryD l = true → dryD (l ++ [(k, a)]) = true := by
    intro l
    induction l with
    | nil => intro _; show (a.dry && true) = true; rw [ha]; rfl
    | cons x l ih =>
      obtain ⟨x1, x2⟩ := x
      intro h
      have h' : (x2.dry && dryD l) = true := h
      rw [Bool.and_eq_true] at h'
      show (x2.dry && dryD (l ++ [(k, a)])) = true
      rw [h'.1, ih h'.2]; rfl
  unfold putA
  split
  · exact m h
  · exact ap h
theorem dryD_drop {kvs : List (Key × A)} {k : Key} (h : dryD kvs = true) : dryD (dropA kvs k) = true := by
  unfold dropA
  induction kvs with
  | nil => rfl
  | cons x l ih =>
    obtain ⟨x1, x2⟩ := x
    have h' : (x2.dry && dryD l) = true := h
    rw [Bool.and_eq_true] at h'
    rw [List.filter_cons]
    split
    · show (x2.dry && dryD _) = true
      rw [h'.1, ih h'.2]; rfl
    · exact ih h'.2
theorem ER.dict {i : Nat} {kvs kvs' : List (Key × A)} (E : ER st1 ρ e F1) (x : Stp T st F st1 F1) (h : e[i]? = some (some (.own (.dtm kvs)))) (hd : dryD kvs' = true) :
    ∃ l, ρ[i]? = some (some (.loc l)) ∧ st1[l]? = some (.dic kvs) ∧ ∃ F', ER (st1.set l (.dic kvs')) ρ ((Vs.kill i e).set i (some (.own (.dtm kvs')))) F' ∧ Stp (T ++ [i]) st F (st1.set l (.dic kvs')) F' := by
  obtain ⟨a, h1, l, e1, e2, e3, _⟩ := E.own i _ h
  subst e1
  have hl : l < st1.length := (List.getElem?_eq_some_iff.mp e2).1
  have hi : i < e.length := (List.getElem?_eq_some_iff.mp h).1
  have lF : l ∈ F1 i := by rw [e3]; exact List.mem_cons_self
  have hs : ∀ x, x < st1.length → x ∉ F1 i → (st1.set l (.dic kvs'))[x]? = st1[x]? := fun x _ hn => set_ne fun z => hn (z ▸ lF)
  refine ⟨l, h1, e2, upF F1 i [l], E.put (by rw [List.length_set]; exact Nat.le_refl _) hs rfl (fun _ _ => rfl) (by simp) (fun x hx j hj z => ?_) (fun x hx => ?_) (fun p hp _ => ?_) (fun _ _ z => nomatch z) (fun z => (z _ rfl).elim) (fun z => by omega), x.put2 (by rw [List.length_set]; exact Nat.le_refl _) hs fun x hx => .inl ?_⟩
  · rw [List.mem_singleton.mp hx] at z
    exact E.dj j i l hj z lF
  · rw [List.mem_singleton.mp hx, List.length_set]; exact hl
  · cases hp
    exact ⟨.loc l, h1, l, rfl, List.getElem?_set_self hl, rfl, hd⟩
  · rw [List.mem_singleton.mp hx]; exact lF
/-- d[k] = v -/
def vdput (i : Nat) (gk g : VE) : VS := fun e => match g e with
  | some (p, e1) => (match e1[i]?, gk e1 with
    | some (some (.own (.dtm kvs))), some (k, _) => (match keyOf k with
      | some kk => if p.dry = true ∧ dryD kvs = true ∧ kvs.length < sizeLine then some (.nx ((kill i e1).set i (some (.own (.dtm (putA kvs kk p)))))) else none
      | none => none)
    | _, _ => none)
  | none => none
theorem s_dput {i : Nat} {fk f : FE} {gk g : VE} (hq : SQ fk gk) (h : SE [] T f g) : SS M R (T ++ [i]) (sDPutF (fVar i) fk f) (vdput i gk g) := by
  intro st ρ e F r E q
  unfold vdput at q
  split at q
  · rename_i p e1 h1
    split at q
    · rename_i kvs k ek h2 h3
      split at q
      · rename_i kk hk
        split at q
        · rename_i hc
          cases q
          obtain ⟨a, st1, F1, fa, a1, E1, x1, r1, k1⟩ := s_B h E h1
          obtain ⟨e2, _⟩ := r1.dry hc.1
          subst e2
          obtain ⟨_, ka, kv, fk1, kr⟩ := hq E1 h3
          obtain ⟨l, b1, b2, F', E2, x2⟩ := E1.dict x1 h2 (dryD_put (k := kk) hc.2.1 hc.1)
          refine ⟨ρ, _, F', ?_, E2, x2, Same.refl⟩
          unfold sDPutF
          rw [a1]
          simp only
          rw [fVar_of b1]
          simp only
          rw [kv]
          simp only
          rw [b2, key_pure kr hk]
          exact if_pos hc.2.2
        · cases q
      · cases q
    · cases q
  · cases q
/-- del d[k] -/
def vddel (i : Nat) (gk : VE) : VS := fun e => match e[i]?, gk e with
  | some (some (.own (.dtm kvs))), some (k, _) => (match keyOf k with
    | some kk => if dryD kvs = true ∧ (valA kvs kk).isSome = true then some (.nx ((kill i e).set i (some (.own (.dtm (dropA kvs kk)))))) else none
    | none => none)
  | _, _ => none
theorem s_ddel {i : Nat} {fk : FE} {gk : VE} (hq : SQ fk gk) : SS M R [i] (sDDelF (fVar i) fk) (vddel i gk) := by
  intro st ρ e F r E q
  unfold vddel at q
  split at q
  · rename_i kvs k ek h2 h3
    split at q
    · rename_i kk hk
      split at q
      · rename_i hc
        cases q
        obtain ⟨_, ka, kv, fk1, kr⟩ := hq E h3
        obtain ⟨l, b1, b2, F', E2, x2⟩ := E.dict (T := []) (st := st) (F := F) Stp.refl h2 (dryD_drop (k := kk) hc.1)
        refine ⟨ρ, _, F', ?_, E2, x2, Same.refl⟩
        unfold sDDelF
        rw [fVar_of b1]
        simp only
        rw [kv]
        simp only
        rw [b2, key_pure kr hk]
        exact if_pos hc.2
      · cases q
    · cases q
  · cases q
/-- {k: v, ..} -/
def vPs : List (VE × VE) → PEnv → Option (List (Key × A) × PEnv)
  | [], e => some ([], e)
  | (gk, gv) :: r, e => (match gk e with
    | some (k, e1) => (match keyOf k with
      | some kk => (match gv e1 with
        | some (v, e2) => if v.dry = true then (match vPs r e2 with
          | some (l, e3) => some ((kk, v) :: l, e3)
          | none => none) else none
        | none => none)
      | none => none)
    | none => none)
inductive SPs : List Nat → List (FE × FE) → List (VE × VE) → Prop where
  | nil : SPs [] [] []
  | cons {S1 S2 T1 T2 T3 : List Nat} {fk fv : FE} {gk gv : VE} {l : List (FE × FE)} {m : List (VE × VE)} : SE S1 T1 fk gk → SE S2 T2 fv gv → SPs T3 l m → SPs (T1 ++ (T2 ++ T3)) ((fk, fv) :: l) ((gk, gv) :: m)
theorem ps_run {T : List Nat} {l : List (FE × FE)} {m : List (VE × VE)} (h : SPs T l m) : ∀ {st : Sto} {ρ : Rho} {e : PEnv} {F : Fp} {kvs : List (Key × A)} {e' : PEnv}, ER st ρ e F → vPs m e = some (kvs, e') → ∃ st' F', fPs l ρ st = .ok kvs st' ∧ ER st' ρ e' F' ∧ Stp T st F st' F' ∧ dryD kvs = true := by
  induction h with
  | nil =>
    intro st ρ e F kvs e' E q
    cases q
    exact ⟨st, F, rfl, E, Stp.refl, rfl⟩
  | cons hk hv hr ih =>
    intro st ρ e F kvs e' E q
    unfold vPs at q
    split at q
    · rename_i k e1 h1
      split at q
      · rename_i kk h2
        split at q
        · rename_i v e2 h3
          split at q
          · rename_i hd
            split at q
            · rename_i l' e3 h4
              cases q
              obtain ⟨a, st1, F1, fa, a1, E1, x1, r1, k1⟩ := hk E h1
              obtain ⟨b, st2, F2, fb, b1, E2, x2, r2, k2⟩ := s_B hv E1 h3
              obtain ⟨e5, _⟩ := r2.dry hd
              subst e5
              obtain ⟨st3, F3, c1, E3, x3, d3⟩ := ih E2 h4
              refine ⟨st3, F3, ?_, E3, x1.trans (x2.trans x3), ?_⟩
              · unfold fPs
                rw [a1]
                simp only
                rw [key_pure r1 h2]
                simp only
                rw [b1]
                simp only
                rw [c1]
              · show (b.dry && dryD l') = true
                rw [hd, d3]; rfl
            · cases q
          · cases q
        · cases q
      · cases q
    · cases q
def vDisp (m : List (VE × VE)) : VE := fun e => match vPs m e with
  | some (kvs, e1) => if kvs.length ≤ 15 then some (.dtm (mergeA [] kvs), e1) else none
  | none => none
theorem dryD_merge : ∀ {more kvs : List (Key × A)}, dryD more = true → dryD kvs = true → dryD (mergeA kvs more) = true
  | [], kvs, _, h => h
  | (k, a) :: more, kvs, h, h2 => by
    have h' : (a.dry && dryD more) = true := h
    rw [Bool.and_eq_true] at h'
    exact dryD_merge (more := more) (kvs := putA kvs k a) h'.2 (dryD_put h2 h'.1)
theorem s_disp {l : List (FE × FE)} {m : List (VE × VE)} (h : SPs T l m) : SE [] T (fDisp l) (vDisp m) := by
  intro st ρ e F p e' E q
  unfold vDisp at q
  split at q
  · rename_i kvs e1 h1
    split at q
    · rename_i hc
      cases q
      obtain ⟨st1, F1, a1, E1, x1, d1⟩ := ps_run h E h1
      exact ⟨_, st1, F1, [], by unfold fDisp; rw [a1]; exact if_pos hc, E1, x1, .inr (.inr ⟨_, rfl, rfl, rfl, dryD_merge d1 rfl⟩), Fro.nil⟩
    · cases q
  · cases q
/-! dict comprehensions -/
def vdc (js : List Nat) (b : VB) (src : List Nat) (u : VT) (gk g : VE) : List A → List (Key × A) → PEnv → Option (List (Key × A) × PEnv)
  | [], acc, e => some (acc, e)
  | p :: ps, acc, e => match b src p e with
    | some e1 => (match u e1 with
      | some (true, e2) => (match gk e2 with
        | some (k, e3) => (match g e3 with
          | some (q, e4) => (match keyOf k with
            | some kk => if acc.length < sizeLine ∧ q.dry = true ∧ k.dry = true then vdc js b src u gk g ps (putA acc kk q) (wipeE e4 js) else none
            | none => none)
          | none => none)
        | none => none)
      | some (false, e2) => vdc js b src u gk g ps acc (wipeE e2 js)
      | none => none)
    | none => none
theorem dc_run {js : List Nat} {g : A → Rho → Option Rho} {b : VB} {u : FT} {w : VT} {fk f : FE} {hk h : VE} {G : Sto → Prop} {fa src : List Nat} (hg : SL js g b) (hu : ST T1 u w) (hfk : SE S2 T2 fk hk) (hf : SE S3 T3 f h) (hd : dsj S (js ++ (T1 ++ (T2 ++ T3))) = true) (hjs : dsj js (T1 ++ (T2 ++ T3)) = true) (hsrc : ∀ j ∈ src, j ∈ S) :
    ∀ {ps xs : List A} {acc qs : List (Key × A)} {fq : List Nat} {st : Sto} {e e' : PEnv} {F : Fp}, ER st ρ e F → (∀ j ∈ js, j < e.length → F j = []) → VrL st ps xs fq → (∀ l ∈ fq, l ∈ fa) → Hold S st F fa → (∀ l ∈ fq, ∃ j ∈ src, l ∈ F j) → (∀ st2 : Sto, (∀ l ∈ fa, st2[l]? = st[l]?) → G st2) →
      dryD acc = true → vdc js b src w hk h ps acc e = some (qs, e') →
      ∃ st' F', dcF ρ g u fk f G xs acc st = .ok qs st' ∧ ER st' ρ e' F' ∧ Stp (js ++ (T1 ++ (T2 ++ T3))) st F st' F' ∧ dryD qs = true ∧ (∀ j ∈ js, j < e'.length → F' j = [])
  | [], xs, acc, qs, fq, st, e, e', F, E, hj, v, h1, h2, h3, h4, da, q => by
    cases q
    cases v.1
    exact ⟨st, F, if_pos (h4 st fun _ _ => rfl), E, Stp.refl, da, hj⟩
  | p :: ps, xs, acc, qs, fq, st, e, e', F, E, hj, ⟨a, as, f1, f2, e1, e2, v1, v2⟩, h1, h2, h3, h4, da, q => by
    subst e1 e2
    unfold vdc at q
    have hsd : dsj src js = true := List.all_eq_true.mpr fun j hj => by
      have := dsj_not hd (hsrc j hj)
      rw [Bool.not_eq_true', ← Bool.not_eq_true]
      exact fun z => this (List.mem_append_left _ (List.contains_iff_mem.mp z))
    unfold dcF
    rw [if_pos (h4 st fun _ _ => rfl)]
    split at q
    · rename_i e1 hb1
      obtain ⟨ρ1, F1, a1, E1, x1, l1, o1, z1⟩ := hg E v1 (fun l hl => h3 l (List.mem_append_left _ hl)) hsd hb1
      rw [a1]
      simp only
      have next : ∀ {st2 : Sto} {F2 : Fp} {e2 : PEnv} {acc' : List (Key × A)}, ER st2 ρ1 e2 F2 → Stp (T1 ++ (T2 ++ T3)) st F1 st2 F2 → dryD acc' = true → vdc js b src w hk h ps acc' (wipeE e2 js) = some (qs, e') →
          ∃ st' F', dcF ρ g u fk f G as acc' st2 = .ok qs st' ∧ ER st' ρ e' F' ∧ Stp (js ++ (T1 ++ (T2 ++ T3))) st F st' F' ∧ dryD qs = true ∧ (∀ j ∈ js, j < e'.length → F' j = []) := fun {st2 F2 e2 acc'} E2 x2 da' q2 => by
        have x := x1.trans x2
        obtain ⟨k1, k2⟩ := h2.step E x hd
        have hz : ∀ j ∈ js, j < e2.length → F2 j = [] := fun j hj hl => by
          rw [x2.kp j (dsj_not hjs hj)]
          exact z1 j hj (by rw [← E1.len, E2.len]; exact hl)
        have E3 : ER st2 ρ (wipeE e2 js) F2 := E2.swap hz l1.symm fun k hk => (o1 k hk).symm
        obtain ⟨st', F', c1, c2, c3, c4⟩ := dc_run hg hu hfk hf hd hjs hsrc (ps := ps) (xs := as) (fq := f2) E3 (fun j hj hl => hz j hj (by rw [wipeE_len] at hl; exact hl)) (v2.mono fun l hl => k1 l (h1 l (List.mem_append_right _ hl))) (fun l hl => h1 l (List.mem_append_right _ hl)) k2 (fun l hl => by
          obtain ⟨j, hj, z⟩ := h3 l (List.mem_append_right _ hl)
          exact ⟨j, hj, by rw [x.kp j (dsj_not hd (hsrc j hj))]; exact z⟩) (fun st3 h5 => h4 st3 fun l hl => (h5 l hl).trans (k1 l hl)) da' q2
        exact ⟨st', F', c1, c2, (x.trans c3).mono fun i hi => (List.mem_append.mp hi).elim id id, c4⟩
      split at q
      · rename_i e2 hu2
        obtain ⟨st2, F2, b1, E2, x2⟩ := hu E1 hu2
        rw [b1]
        simp only
        split at q
        · rename_i k e3 hk3
          split at q
          · rename_i y e4 hf4
            split at q
            · rename_i kk hkk
              split at q
              · rename_i hc
                obtain ⟨c, st3, F3, fc3, c1, E3, x3, r3, k3⟩ := s_B hfk E2 hk3
                obtain ⟨d, st4, F4, fd4, d1, E4, x4, r4, k4⟩ := s_B hf E3 hf4
                obtain ⟨e5, _⟩ := r3.dry hc.2.2
                obtain ⟨e6, _⟩ := r4.dry hc.2.1
                subst e5 e6
                rw [c1]
                simp only
                rw [d1]
                simp only
                rw [hkk]
                simp only
                rw [if_pos hc.1]
                exact next E4 (x2.trans (x3.trans x4)) (dryD_put da hc.2.1) q
              · cases q
            · cases q
          · cases q
        · cases q
      · rename_i e2 hu2
        obtain ⟨st2, F2, b1, E2, x2⟩ := hu E1 hu2
        rw [b1]
        simp only
        exact next E2 x2.inl da q
      · cases q
    · cases q
def vDc (vi : VI) (js : List Nat) (b : VB) (u : VT) (gk g : VE) : VE := fun e => match vi e with
  | some (ps, src, e1) => if clr e1 js = true then (match vdc js b src u gk g ps [] (wipeE e1 js) with
    | some (qs, e2) => some (.dtm qs, bck e1 e2 js)
    | none => none) else none
  | none => none
theorem s_Dc {fi : FI} {vi : VI} {js : List Nat} {g : A → Rho → Option Rho} {b : VB} {u : FT} {w : VT} {fk f : FE} {hk h : VE} (hi : SI S T0 fi vi) (hg : SL js g b) (hu : ST T1 u w) (hfk : SE S2 T2 fk hk) (hf : SE S3 T3 f h) (hd : dsj S (js ++ (T1 ++ (T2 ++ T3))) = true := by rfl) (hjs : dsj js (T1 ++ (T2 ++ T3)) = true := by rfl) :
    SE [] (T0 ++ (js ++ (T1 ++ (T2 ++ T3)))) (fDc fi js g u fk f) (vDc vi js b w hk h) := by
  intro st ρ e F p e' E q
  unfold vDc at q
  split at q
  · rename_i ps src e1 h1
    split at q
    · rename_i hc
      split at q
      · rename_i qs e2 h2
        cases q
        obtain ⟨xs, G, st1, F1, fa, fq, a1, E1, x1, r1, k1, k2, k3, k4, k5⟩ := hi E h1
        have hz : ∀ j ∈ js, j < e1.length → F1 j = [] := fun j hj hl => clr_F E1 hc hj hl
        obtain ⟨st2, F2, c1, E2, x2, d2, k7⟩ := dc_run (acc := []) hg hu hfk hf hd hjs k4 (E1.wipe hz) (fun j hj hl => hz j hj (by rw [wipeE_len] at hl; exact hl)) r1 k1 k2 k3 k5 rfl h2
        exact ⟨.dtm qs, st2, F2, [], by unfold fDc; rw [a1]; simp only; rw [c1], E2.back (js := js) k7 E1 hc (by rw [wipeR_len]) (fun k hk => (wipeR_out hk).symm), x1.trans x2, .inr (.inr ⟨_, rfl, rfl, rfl, d2⟩), Fro.nil⟩
      · cases q
    · cases q
  · cases q
end
end Vs
/-! bits; the number of different ones in a list; zip; isinstance of two types -/
namespace Ev
open PySem PySem.Spec PyProof.Rows L2 Gd
section
variable {X : Cx} {K : PySem.W.Frag} {μ μ' : Nat → Addr} {n n' : Nat} {H H' : Hp} {st st' : Sto}
abbrev opShl : F2 := opInt CPow (fun i j => i * 2 ^ j.toNat)
abbrev opShr : F2 := opInt (fun _ j => 0 ≤ j) (fun i j => i / 2 ^ j.toNat)
def CAny (_ _ : Int) : Prop := True
instance (i j : Int) : Decidable (CAny i j) := isTrue trivial
abbrev opBAnd : F2 := opInt CAny (fun i j => Builtin.bitAnd i j)
abbrev opBOr : F2 := opInt CAny (fun i j => Builtin.bitOr i j)
theorem op_andC : OpR X (binaryOp .BitAnd) (rI CAny fun i j => .int (Builtin.bitAnd i j)) := opI fun _ _ _ _ _ _ _ _ q => and_int q
theorem op_orC : OpR X (binaryOp .BitOr) (rI CAny fun i j => .int (Builtin.bitOr i j)) := opI fun _ _ _ _ _ _ _ _ q => or_int q
/-! len(set(xs)), ints -/
def dedI (ns : List Int) : List Int := ns.foldl step_dedup []
theorem firstMet_all (ns : List Int) : firstMet (fun i => ns.getD i 0) ns.length = dedI ns := by
  unfold firstMet dedI
  congr 1
  refine List.ext_getElem? fun i => ?_
  rw [List.getElem?_map]
  by_cases h : i < ns.length
  · rw [List.getElem?_range h, List.getElem?_eq_getElem h]
    simp [List.getD_eq_getElem?_getD, List.getElem?_eq_getElem h]
  · rw [List.getElem?_eq_none (by rw [List.length_range]; omega), List.getElem?_eq_none (by omega)]
    rfl
def tLenSetA (K : PySem.W.Frag) (ta : TE) : TE := fun σ H Q => ta σ H fun x H1 => ∃ (l : Addr) (ns : List Int), x = .ref l ∧ SqL K H1 l (ns.map V.int) ∧ ns.length ≤ 4000 ∧ Q (.int ((dedI ns).length : Nat)) H1
theorem pe_lenSetA {a : Expr} {ta : TE} {p p2 q pos : Pos} (hg : Gl X "len") (hm : X.mg "len" = none) (hg2 : Gl X "set") (hm2 : X.mg "set" = none) (ha : PE X a ta) (hc : X.calm = true := by rfl)
    (na : starEach [a] X.env = (false, eval a X.env) :: starEach [] X.env := by rfl) : PE X (.Call (.Name "len" p) [.Call (.Name "set" p2) [a] [] q] [] pos) (tLenSetA X.K ta) := by
  refine ⟨fun pins s σ H Q I h => ?_⟩
  refine Call_ (ld_blt I hg hm boot_len ?_)
  refine PyProof.Rows.callWith_builtin1 (PyProof.Rows.args_cons ?_ rfl) rfl rfl
  refine Call_ (ld_blt I hg2 hm2 boot_set ?_)
  refine PyProof.Rows.callWith_type1 (PyProof.Rows.args_cons (thn (ha.run pins s σ H _ I h) fun v s1 ⟨x, H1, I1, r1, q1⟩ => PyProof.Rows.args_nil ?_) na) na rfl
  obtain ⟨l, ns, rfl, hq, hl, q1⟩ := q1
  cases r1
  obtain ⟨its, r, pl, hz⟩ := I1.list hq
  have hlen : its.toArray.size = ns.length := by rw [List.size_toArray, ← r.length, List.length_map]
  refine call_set_list (I1.ok.hd hc) pl.isList (by simpa using RZ.intsAre_vals r) (by rw [hlen]; unfold scanBound; omega) fun h' tk hS hk => ?_
  refine PyProof.Rows.args_nil ?_
  have le := firstMet_length_le (fun i => ns.getD i 0) ns.length
  rw [hlen, firstMet_all] at hS
  rw [firstMet_all] at le
  obtain ⟨o, es, ep, t, ho, hex, hd, _, _, _, hf, hn⟩ := hS
  have I2 : Inv X pins σ H1 { s1 with heap := h', toks := tk } := I1.kept fun b o e => hk b o (Heap.lt_size e) e
  exact call_len_set ho hex hd hf (by rw [hn] <;> omega) ⟨.int (dedI ns).length, H1, I2.tok _, ⟨_, by rw [hn]⟩, q1⟩
def fLenSet (f : FE) : FE := fun ρ st => match f ρ st with
  | .ok a st1 => (match lstOf a st1 with
    | some xs => (match intsOf xs with
      | some ns => if ns.length ≤ 4000 then .ok (.int ((dedI ns).length : Nat)) st1 else .no
      | none => .no)
    | none => .no)
  | .no => .no
theorem dx_lenset {e : Expr} {f : FE} {p p2 q pos : Pos} (hK : X.K = K) (hc : X.calm = true) (hm : X.mg "len" = none) (hm2 : X.mg "set" = none) (he : PE X e (tOf K f)) (hg : Gl X "len" := by rfl) (hg2 : Gl X "set" := by rfl)
    (na : starEach [e] X.env = (false, eval e X.env) :: starEach [] X.env := by rfl) : PE X (.Call (.Name "len" p) [.Call (.Name "set" p2) [e] [] q] [] pos) (tOf K (fLenSet f)) := by
  subst hK
  refine pe_weak (pe_lenSetA hg hm hg2 hm2 he hc na) ?_
  rintro σ H Q ⟨μ, st, ρ, a, st', S, E, h, q⟩
  unfold fLenSet at h
  split at h
  · rename_i a1 st1 h1
    split at h
    · rename_i xs h2
      split at h
      · rename_i ns h3
        split at h
        · rename_i hl
          cases h
          refine ⟨μ, st, ρ, a1, _, S, E, h1, fun v μ1 H1 S1 E1 r1 f1 => ?_⟩
          obtain ⟨p, vs, rfl, h4, h5, _⟩ := lstOf_sq S1 r1 h2
          obtain ⟨e1, _⟩ := intsOf_at h5 h3
          subst e1
          exact ⟨p, ns, rfl, h4, hl, (q.from E1).ok S1 rfl trivial⟩
        · cases h
      · cases h
    · cases h
  · cases h
/-! zip -/
def zipA (xs ys : List A) : List A := List.zipWith A.pr xs ys
def fZip (f g : FE) : FI := fun ρ st => match f ρ st with
  | .ok a st1 => (match g ρ st1 with
    | .ok b st2 => (match a, b with
      | .tup xs, .tup ys => .ok (zipA xs ys, fun _ => True) st2
      | a, b => (match lstOf a st2, lstOf b st2 with
        | some xs, some ys => .ok (zipA xs ys, fun s => stillOf a xs s ∧ stillOf b ys s) st2
        | _, _ => .no))
    | .no => .no)
  | .no => .no
theorem zip_at {xs ys : List A} {i : Nat} {b : A} (h : (zipA xs ys)[i]? = some b) : ∃ x y, xs[i]? = some x ∧ ys[i]? = some y ∧ b = .pr x y := by
  unfold zipA at h
  rw [List.getElem?_zipWith] at h
  cases hx : xs[i]? with
  | none => rw [hx] at h; cases h
  | some x =>
    cases hy : ys[i]? with
    | none => rw [hx, hy] at h; cases h
    | some y => rw [hx, hy] at h; exact ⟨x, y, rfl, rfl, (Option.some.inj h).symm⟩
theorem zip_len (xs ys : List A) : (zipA xs ys).length = min xs.length ys.length := List.length_zipWith
/-- two lists, two tuples, as they stand at each turn -/
theorem walk_zany {a b : Addr} {n m k : Nat} (hk : k = min n m) : Walk (Itz K a b) k (fun H => (∃ vs, SqL K H a vs ∧ vs.length = n) ∧ ∃ vs, SqL K H b vs ∧ vs.length = m) (fun i H v H' => ∃ T x y, v = .ref T ∧ H T = none ∧ H' = upd H T (.tup [x, y]) ∧ (∀ vs, SqL K H a vs → vs[i]? = some x) ∧ ∀ vs, SqL K H b vs → vs[i]? = some y) := by
  subst hk
  refine ⟨fun i H hi ⟨⟨vs, q, l⟩, ⟨ws, q2, l2⟩⟩ => ?_, fun H ⟨⟨vs, q, l⟩, ⟨ws, q2, l2⟩⟩ => ⟨vs, ws, q, q2, by omega⟩, fun _ _ _ _ _ _ y => y⟩
  have h1 : i < vs.length := by omega
  have h2 : i < ws.length := by omega
  exact ⟨vs, ws, vs[i], ws[i], q, q2, by simp [h1], by simp [h2]⟩
theorem walk_zanyT {a b : Addr} {n m k : Nat} (hk : k = min n m) : Walk (RZ.ItzT K a b) k (fun H => (∃ vs, SqT K H a vs ∧ vs.length = n) ∧ ∃ vs, SqT K H b vs ∧ vs.length = m) (fun i H v H' => ∃ T x y, v = .ref T ∧ H T = none ∧ H' = upd H T (.tup [x, y]) ∧ (∀ vs, SqT K H a vs → vs[i]? = some x) ∧ ∀ vs, SqT K H b vs → vs[i]? = some y) := by
  subst hk
  refine ⟨fun i H hi ⟨⟨vs, q, l⟩, ⟨ws, q2, l2⟩⟩ => ?_, fun H ⟨⟨vs, q, l⟩, ⟨ws, q2, l2⟩⟩ => ⟨vs, ws, q, q2, by omega⟩, fun _ _ _ _ _ _ y => y⟩
  have h1 : i < vs.length := by omega
  have h2 : i < ws.length := by omega
  exact ⟨vs, ws, vs[i], ws[i], q, q2, by simp [h1], by simp [h2]⟩
theorem di_zip {elts : List Expr} {kk : Nat} {e e2 : Expr} {f g : FE} {p pos tpos : Pos} (hK : X.K = K) (hm : X.mg "zip" = none) (h1 : PE X e (tOf K f)) (h2 : PE X e2 (tOf K g)) (hg : Gl X "zip" := by rfl)
    (hs : starEach [e, e2] X.env = (false, eval e X.env) :: starEach [e2] X.env := by rfl) (hs2 : starEach [e2] X.env = (false, eval e2 X.env) :: starEach [] X.env := by rfl) (hpl : (backTo pos (starEach [e2] X.env)).any (·.1) = false := by rfl) :
    PI X (.Tuple elts kk tpos) (.Call (.Name "zip" p) [e, e2] [] pos) (iOf K (fZip f g)) := by
  subst hK
  refine pi_weak (RZ.pi_zipA hg hm (da_cons h1 (da_cons h2 da_nil hs2) hs) hs hpl) ?_
  rintro σ H Z ⟨μ, st, ρ, xs, G, st', S, E, h, q⟩
  unfold fZip at h
  split at h
  · rename_i a st1 b1
    split at h
    · rename_i b st2 b2
      have args : aC f (aC g aN) ρ st = .ok [a, b] st2 := by unfold aC; rw [b1]; simp only; rw [b2]; rfl
      split at h
      · rename_i xs0 ys0
        cases h
        refine ⟨μ, st, ρ, _, _, S, E, args, ?_⟩
        intro vs μ1 H1 S1 E1 r
        cases r with
        | cons ra r =>
          cases r with
          | cons rb r =>
            cases r
            obtain ⟨p1, us, rfl, t1, t2⟩ := ra
            obtain ⟨p2, ws, rfl, t3, t4⟩ := rb
            have l1 := (repL_iff.mp t2).length
            have l2 := (repL_iff.mp t4).length
            have t1 := t1.sq
            have t3 := t3.sq
            refine ⟨p1, p2, us, ws, rfl, .inr ⟨t1, t3, q _ μ1 H1 _ _ S1 E1 (walk_zanyT (n := us.length) (m := ws.length) (by rw [zip_len, l1, l2])) ?_ ?_⟩⟩
            · exact fun μ2 st3 H2 S2 E2 _ => ⟨⟨us, tup_ext S1 E2 t1, rfl⟩, ⟨ws, tup_ext S1 E2 t3, rfl⟩⟩
            · rintro i x H2 H3 μ2 st3 c hi S2 E2 _ ⟨T, x', y', rfl, hT, rfl, hx, hy⟩
              obtain ⟨c1, c2, e1, e2, rfl⟩ := zip_at hi
              exact pair_new S2 hT (turn_at (t2.ext S1 E2) e1 (hx us (tup_ext S1 E2 t1))) (turn_at (t4.ext S1 E2) e2 (hy ws (tup_ext S1 E2 t3)))
      · split at h
        · rename_i xs0 ys0 g1 g2
          cases h
          refine ⟨μ, st, ρ, _, _, S, E, args, ?_⟩
          intro vs μ1 H1 S1 E1 r
          cases r with
          | cons ra r =>
            cases r with
            | cons rb r =>
              cases r
              obtain ⟨p1, us, rfl, t1, t2, t3, t4⟩ := lstOf_sq S1 ra g1
              obtain ⟨p2, ws, rfl, u1, u2, u3, u4⟩ := lstOf_sq S1 rb g2
              have l1 := (repL_iff.mp t2).length
              have l2 := (repL_iff.mp u2).length
              refine ⟨p1, p2, us, ws, rfl, .inl ⟨t1, u1, q _ μ1 H1 _ _ S1 E1 (walk_zany (n := us.length) (m := ws.length) (by rw [zip_len, l1, l2])) ?_ ?_⟩⟩
              · intro μ2 st3 H2 S2 E2 hG
                obtain ⟨v1, v2, v3⟩ := t4 μ2 st3 H2 S2 E2 hG.1
                obtain ⟨w1, w2, w3⟩ := u4 μ2 st3 H2 S2 E2 hG.2
                exact ⟨⟨v1, v2, by rw [← (repL_iff.mp v3).length, l1]⟩, ⟨w1, w2, by rw [← (repL_iff.mp w3).length, l2]⟩⟩
              · rintro i x H2 H3 μ2 st3 c hi S2 E2 hG ⟨T, x', y', rfl, hT, rfl, hx, hy⟩
                obtain ⟨c1, c2, e1, e2, rfl⟩ := zip_at hi
                obtain ⟨v1, v2, v3⟩ := t4 μ2 st3 _ S2 E2 hG.1
                obtain ⟨w1, w2, w3⟩ := u4 μ2 st3 _ S2 E2 hG.2
                exact pair_new S2 hT (turn_at v3 e1 (hx v1 v2)) (turn_at w3 e2 (hy w1 w2))
        · cases h
    · cases h
  · cases h
/-! isinstance(x, (a, b)) -/
def fIsi2 (b c : Ty) (f : FE) : FE := fun ρ st => match f ρ st with
  | .ok a st1 => (match tyA a st1 with
    | some t => .ok (.bl (t.is b || t.is c)) st1
    | none => .no)
  | .no => .no
theorem dx_isi2 {e e2 e3 : Expr} {f : FE} {k : Nat} {p pos tpos : Pos} (b c : Ty) (hK : X.K = K) (hm : X.mg "isinstance" = none) (he : PE X e (tOf K f)) (h2 : PE X e2 (tC (.ty b.nm))) (h3 : PE X e3 (tC (.ty c.nm))) (hg : Gl X "isinstance" := by rfl)
    (hs : starEach (e :: [.Tuple [e2, e3] k tpos]) X.env = (false, eval e X.env) :: starEach [.Tuple [e2, e3] k tpos] X.env := by rfl) (hs2 : starEach [.Tuple [e2, e3] k tpos] X.env = (false, eval (.Tuple [e2, e3] k tpos) X.env) :: starEach [] X.env := by rfl)
    (hs3 : starEach (e2 :: [e3]) X.env = (false, eval e2 X.env) :: starEach [e3] X.env := by rfl) (hs4 : starEach [e3] X.env = (false, eval e3 X.env) :: starEach [] X.env := by rfl) (hpl : (backTo pos (starEach [.Tuple [e2, e3] k tpos] X.env)).any (·.1) = false := by rfl) :
    PE X (.Call (.Name "isinstance" p) [e, .Tuple [e2, e3] k tpos] [] pos) (tOf K (fIsi2 b c f)) := by
  subst hK
  refine pe_weak (pe_callB call_isiT hg hm (by decide +kernel) (pa_cons he (pa_cons (pe_tup (pa_cons h2 (pa_cons h3 pa_nil hs4) hs3)) pa_nil hs2) hs) (by decide) (by decide) hs hpl) ?_
  rintro σ H Q ⟨μ, st, ρ, a, st', S, E, h, q⟩
  unfold fIsi2 at h
  split at h
  · rename_i a1 st1 h1
    split at h
    · rename_i t h4
      cases h
      refine ⟨μ, st, ρ, a1, _, S, E, h1, fun v μ1 H1 S1 E1 r1 f1 => ⟨by show 2 ≤ sizeLine; decide, fun T hT => ?_⟩⟩
      obtain ⟨S2, E2⟩ := S1.new (o := .tup [.ty b.nm, .ty c.nm]) hT
      refine ⟨v, T, [.ty b.nm, .ty c.nm], .type t.nm, [.type b.nm, .type c.nm], (t.is b || t.is c), rfl, upd_same, .cons (.ty _) (.cons (.ty _) .nil), ?_, ?_, (q.from (E1.trans E2)).ok S2 rfl trivial⟩
      · exact tyA_ok S2 (r1.ext S1 E2) h4
      · refine kitAny_cons (kit_nm t b) (r := (t.is b || t.is c)) (fun z => kitAny_cons (kit_nm t c) (fun z2 => ?_) fun z2 => ?_) fun z => ?_
        · rw [z, z2]; exact kitAny_nil
        · rw [z2, Bool.or_true]
        · rw [z, Bool.true_or]
    · cases h
  · cases h
end
end Ev
/-! bits, len(set()), zip, isinstance of two, index and count -/
namespace Vs
open PySem PySem.Spec PyProof.Rows L2 Gd Ev
section
variable {M R S S0 S1 S2 S3 T T0 T1 T2 T3 T4 : List Nat} {st st' st0 st1 st2 : Sto} {F F' F0 F1 F2 : Fp} {ρ ρ' ρ1 ρ2 : Rho} {e : PEnv}
theorem of_shl : Of2 opShl opShl := of_int
theorem of_shr : Of2 opShr opShr := of_int
theorem of_and : Of2 opBAnd opBAnd := of_int
theorem of_or : Of2 opBOr opBOr := of_int
def vLenSet (g : VE) : VE := fun e => match g e with
  | some (p, e1) => (match lstOf p [] with
    | some xs => (match intsOf xs with
      | some ns => if ns.length ≤ 4000 then some (.int ((dedI ns).length : Nat), e1) else none
      | none => none)
    | none => none)
  | none => none
theorem s_lenset {f : FE} {g : VE} (h : SE S T f g) : SE [] T (fLenSet f) (vLenSet g) := by
  intro st ρ e F p e' E q
  unfold vLenSet at q
  split at q
  · rename_i p1 e1 h1
    split at q
    · rename_i xs h2
      split at q
      · rename_i ns h3
        split at q
        · rename_i hl
          cases q
          obtain ⟨a, st1, F1, fa, a1, E1, x1, r1, k1⟩ := h E h1
          obtain ⟨as, fq, h4, h5, _⟩ := r1.lstOf h2
          obtain ⟨e2, _⟩ := h5.dry (dry_of_ints h3)
          subst e2
          exact ⟨_, st1, F1, [], by unfold fLenSet; rw [a1]; simp only; rw [h4]; simp only; rw [h3]; exact if_pos hl, E1, x1, .inl ⟨rfl, rfl⟩, Fro.nil⟩
        · cases q
      · cases q
    · cases q
  · cases q
def vIsi2 (t u : Ty) (g : VE) : VE := fun e => match g e with
  | some (p, e1) => (match tyA p [] with
    | some k => some (.bl (k.is t || k.is u), e1)
    | none => none)
  | none => none
theorem s_fIsi2 {t u : Ty} {f : FE} {g : VE} (h : SE S T f g) : SE [] T (fIsi2 t u f) (vIsi2 t u g) := by
  intro st ρ e F p e' E q
  unfold vIsi2 at q
  split at q
  · rename_i p1 e1 h1
    split at q
    · rename_i k h2
      cases q
      obtain ⟨a, st1, F1, fa, a1, E1, x1, r1, k1⟩ := h E h1
      exact ⟨_, st1, F1, [], by unfold fIsi2; rw [a1]; simp only; rw [ty_pure r1 h2], E1, x1, .inl ⟨rfl, rfl⟩, Fro.nil⟩
    · cases q
  · cases q
/-- zip of two lists or two tuples, of dry items -/
def viZip (g h : VE) : VI := fun e => match g e with
  | some (p, e1) => (match h e1 with
    | some (q, e2) => (match p, q with
      | .tup xs, .tup ys => if (dryL xs && dryL ys) = true then some (zipA xs ys, [], e2) else none
      | p, q => (match lstOf p [], lstOf q [] with
        | some xs, some ys => if (dryL xs && dryL ys) = true then some (zipA xs ys, [], e2) else none
        | _, _ => none))
    | none => none)
  | none => none
theorem dryL_zip : ∀ {xs ys : List A}, dryL xs = true → dryL ys = true → dryL (zipA xs ys) = true
  | [], _, _, _ => rfl
  | _ :: _, [], _, _ => rfl
  | x :: xs, y :: ys, h, h2 => by
    have h' : (x.dry && dryL xs) = true := h
    have h2' : (y.dry && dryL ys) = true := h2
    rw [Bool.and_eq_true] at h' h2'
    show ((x.dry && y.dry) && dryL (zipA xs ys)) = true
    rw [h'.1, h2'.1, dryL_zip h'.2 h2'.2]; rfl
theorem VrE.lstStill {p a : A} {fp : List Nat} {xs : List A} (h : VrE st p a fp) (e : Ev.lstOf p [] = some xs) (hd : dryL xs = true) : Ev.lstOf a st = some xs ∧ (∀ ys, a ≠ .tup ys) ∧ ∀ st2 : Sto, (∀ l ∈ fp, st2[l]? = st[l]?) → stillOf a xs st2 := by
  obtain ⟨ys, fq, h1, h2, _⟩ := h.lstOf e
  obtain ⟨e2, _⟩ := h2.dry hd
  subst e2
  refine ⟨h1, (fun ys z => by subst z; cases h1), fun st2 hs => ?_⟩
  rcases h.cases with ⟨hd2, z⟩ | ⟨_, z0, z⟩ | ⟨_, _, z0, z, _⟩ | ⟨_, _, _, _, z0, z⟩ | ⟨_, _, z0, z, _⟩ | ⟨ps, l, as, fq, z0, z2, z3, _⟩ | ⟨_, z0, z⟩ | ⟨_, _, z0, z, _⟩
  · exfalso
    cases p with
    | tmp _ => cases hd2
    | frz _ => cases hd2
    | loc _ => cases hd2
    | dtm _ => cases hd2
    | non => cases e
    | bl _ => cases e
    | int _ => cases e
    | str _ => cases e
    | tup _ => cases e
    | pr _ _ => cases e
  · rw [z]; trivial
  · rw [z0] at e; cases e
  · rw [z0] at e; cases e
  · rw [z]; trivial
  · subst z0 z2
    have : l ∈ fp := by
      rcases h with ⟨l', as', fq', e1, e2, e3, _⟩ | ⟨_, _, _, e1, _⟩ | ⟨_, e1, _⟩
      · cases e1; rw [e3]; exact List.mem_cons_self
      · cases e1
      · cases e1
    show st2[l]? = some (.lst _)
    rw [hs l this, z3]
    unfold Ev.lstOf at h1
    simp only [z3] at h1
    cases h1
    rfl
  · rw [z]; trivial
  · rw [z0] at e; cases e
theorem si_zip {f f' : FE} {g g' : VE} (h : SE S1 T1 f g) (h' : SE S2 T2 f' g') (hd : dsj S1 T2 = true := by rfl) : SI (S1 ++ S2) (T1 ++ T2) (fZip f f') (viZip g g') := by
  intro st ρ e F ps src e' E q
  unfold viZip at q
  split at q
  · rename_i p1 e1 h1
    split at q
    · rename_i p2 e2 h2
      obtain ⟨a, st1, F1, fa, a1, E1, x1, r1, k1⟩ := h E h1
      obtain ⟨b, st2, F2, fb, a2, E2, x2, r2, k2⟩ := h' E1 h2
      obtain ⟨u, k3⟩ := k1.later r1.lt E1 x2 hd
      have r1' := r1.mono u
      have kk := Fro.pair x1 k1 r1.lt E1 x2 hd k2
      have lt2 : ∀ l ∈ fa ++ fb, l < st2.length := fun l hl => (List.mem_append.mp hl).elim (r1'.lt l) (r2.lt l)
      split at q
      · rename_i xs ys
        split at q
        · rename_i hdd
          cases q
          rw [Bool.and_eq_true] at hdd
          obtain ⟨as, ea, v1⟩ := r1'.tup
          obtain ⟨bs, eb, v2⟩ := r2.tup
          obtain ⟨e3, _⟩ := v1.dry hdd.1
          obtain ⟨e4, _⟩ := v2.dry hdd.2
          subst ea eb e3 e4
          exact ⟨_, _, st2, F2, fa ++ fb, [], by unfold fZip; rw [a1]; simp only; rw [a2], E2, x1.trans x2, VrL.of_dry (dryL_zip hdd.1 hdd.2), fun _ h => (List.not_mem_nil h).elim, kk.hold lt2, fun _ h => (List.not_mem_nil h).elim, fun _ h => (List.not_mem_nil h).elim, fun _ _ => trivial⟩
        · cases q
      · rename_i hn
        split at q
        · rename_i xs ys g1 g2
          split at q
          · rename_i hdd
            cases q
            rw [Bool.and_eq_true] at hdd
            obtain ⟨l1, n1, s1⟩ := r1'.lstStill g1 hdd.1
            obtain ⟨l2, n2, s2⟩ := r2.lstStill g2 hdd.2
            refine ⟨zipA xs ys, fun s => stillOf a xs s ∧ stillOf b ys s, st2, F2, fa ++ fb, [], ?_, E2, x1.trans x2, VrL.of_dry (dryL_zip hdd.1 hdd.2), fun _ h => (List.not_mem_nil h).elim, kk.hold lt2, fun _ h => (List.not_mem_nil h).elim, fun _ h => (List.not_mem_nil h).elim, fun s hs => ⟨s1 s fun l hl => hs l (List.mem_append_left _ hl), s2 s fun l hl => hs l (List.mem_append_right _ hl)⟩⟩
            unfold fZip
            rw [a1]
            simp only
            rw [a2]
            simp only
            split
            · exact (n1 _ rfl).elim
            · rw [l1, l2]
          · cases q
        · cases q
    · cases q
  · cases q
/-! x.index(..), x.count(..): of lists and tuples of dry values -/
def pIndex : Ev.F2 := fun p q st => match dP p, dP q with
    | some (.list ds), some d => if (SeqAt.shaped (.list ds) && SeqAt.shaped d) = true then (match ds.findIdx? (fun z => PyData.eqv z d) with
      | some j => .ok (.int (j : Nat)) st
      | none => .no) else .no
    | _, _ => .no
def vMr (o : Ev.F2) (g : VE) (gs : VA) : VE := fun e => match g e with
  | some (p, e1) => (match gs e1 with
    | some ([q], e2) => (match o p q [] with
      | .ok c _ => some (c, e2)
      | .no => none)
    | _ => none)
  | none => none
def OfM (gg : A → FN) (o : Ev.F2) (lst : Bool) : Prop := ∀ {st : Sto} {p q a b c : A} {fa fb : List Nat} {s' : Sto}, VrE st p a fa → Vr st q b fb → o p q [] = .ok c s' → c.dry = true ∧ gg a [b] st = .ok c st ∧ (if lst = true then isL a st = true else isT a = true)
theorem s_Mr {gg : A → FN} {o : Ev.F2} {f : FE} {fs : FA} {g : VE} {gs : VA} (ho : OfM gg o true) (h : SE S1 T1 f g) (h2 : SB S2 [] fs gs) : SE [] T1 (fM gg f fs) (vMr o g gs) := by
  intro st ρ e F p e' E q
  unfold vMr at q
  split at q
  · rename_i p1 e1 h1
    split at q
    · rename_i q1 e2 h3
      split at q
      · rename_i c s' h4
        cases q
        obtain ⟨a, st1, F1, fa, a1, E1, x1, r1, k1⟩ := h E h1
        obtain ⟨bs, st2, F2, fb, b1, E2, x2, r2, k2⟩ := h2 E1 h3
        obtain ⟨u, _⟩ := k1.later (T2 := []) r1.lt E1 x2 (List.all_eq_true.mpr fun _ _ => rfl)
        obtain ⟨b, r', f1, f2, e3, e4, v1, e5, e6⟩ := r2
        subst e3 e4 e5 e6
        obtain ⟨c1, c2, c3⟩ := ho (r1.mono u) v1 h4
        refine ⟨_, st2, F2, [], ?_, E2, by have := x1.trans x2; rw [List.append_nil] at this; exact this, .inl (Vr.of_dry c1), Fro.nil⟩
        unfold fM
        rw [a1]
        simp only
        have hL : isL a st1 = true := by
          have c3' : isL a st2 = true := c3
          unfold isL at c3' ⊢
          rcases r1.cases with ⟨_, z⟩ | ⟨_, _, z⟩ | ⟨_, _, _, z, _⟩ | ⟨_, _, _, _, _, z⟩ | ⟨_, _, _, z, _⟩ | ⟨ps, l, as, fq, z, z2, z3, _⟩ | ⟨_, _, z⟩ | ⟨_, l, _, z, z3⟩
          · subst z; cases a <;> first | rfl | exact c3' | (rename_i l; exact absurd r1 (by intro hr; rcases hr with hr | ⟨_, _, e, _⟩ | ⟨_, e, _⟩; exact hr.elim; cases e; cases e))
          · subst z; rfl
          · subst z; exact c3'
          · subst z; exact c3'
          · subst z; rfl
          · subst z2; unfold Ev.lstOf; simp only [z3]; rfl
          · subst z; exact c3'
          · subst z
            have lf : l ∈ fa := by
              rcases r1 with hr | ⟨_, _, _, e, _⟩ | ⟨_, _, e, _⟩
              · cases p1 with
                | dtm _ => obtain ⟨l', e1, _, e3, _⟩ := hr; cases e1; rw [e3]; exact List.mem_cons_self
                | tmp _ => obtain ⟨l', as, fq, e1, _, e3, _⟩ := hr; cases e1; rw [e3]; exact List.mem_cons_self
                | non => cases hr.1
                | bl _ => cases hr.1
                | int _ => cases hr.1
                | str _ => cases hr.1
                | frz _ => cases hr.1
                | tup _ => obtain ⟨_, e, _⟩ := hr; cases e
                | pr _ _ => obtain ⟨_, _, _, _, e, _⟩ := hr; cases e
                | loc _ => exact hr.elim
              · cases e
              · cases e
            have := u l lf
            unfold Ev.lstOf at c3'
            simp only [this, z3] at c3'
            cases c3'
        rw [if_pos hL, b1]
        exact c2
      · cases q
    · cases q
  · cases q
theorem s_MrT {gg : A → FN} {o : Ev.F2} {f : FE} {fs : FA} {g : VE} {gs : VA} (ho : OfM gg o false) (h : SE S1 T1 f g) (h2 : SB S2 [] fs gs) : SE [] T1 (fMT gg f fs) (vMr o g gs) := by
  intro st ρ e F p e' E q
  unfold vMr at q
  split at q
  · rename_i p1 e1 h1
    split at q
    · rename_i q1 e2 h3
      split at q
      · rename_i c s' h4
        cases q
        obtain ⟨a, st1, F1, fa, a1, E1, x1, r1, k1⟩ := h E h1
        obtain ⟨bs, st2, F2, fb, b1, E2, x2, r2, k2⟩ := h2 E1 h3
        obtain ⟨u, _⟩ := k1.later (T2 := []) r1.lt E1 x2 (List.all_eq_true.mpr fun _ _ => rfl)
        obtain ⟨b, r', f1, f2, e3, e4, v1, e5, e6⟩ := r2
        subst e3 e4 e5 e6
        obtain ⟨c1, c2, c3⟩ := ho (r1.mono u) v1 h4
        refine ⟨_, st2, F2, [], ?_, E2, by have := x1.trans x2; rw [List.append_nil] at this; exact this, .inl (Vr.of_dry c1), Fro.nil⟩
        unfold fMT
        rw [a1]
        simp only
        have c3' : isT a = true := c3
        rw [if_pos c3', b1]
        exact c2
      · cases q
    · cases q
  · cases q
theorem of_mIndex : OfM mIndex pIndex true := by
  intro st p q a b c fa fb s' ra rb h
  unfold pIndex at h
  split at h
  · rename_i ds d h1 h2
    split at h
    · rename_i hc
      split at h
      · rename_i j hj
        cases h
        have t1 := toD_pure ra h1
        have t2 := toD_pure (.inl rb : VrE st q b fb) h2
        refine ⟨rfl, ?_, ?_⟩
        · unfold mIndex
          simp only
          rw [t1, t2]
          simp only
          rw [if_pos hc, hj]
        · show isL a st = true
          unfold isL
          cases a with
          | tmp _ => rfl
          | frz _ => rfl
          | loc l =>
            unfold Ev.lstOf
            replace t1 : gS st l = some (.list ds) := t1
            unfold gS at t1
            cases hst : st[l]? with
            | none => rw [hst] at t1; cases t1
            | some o =>
              cases o with
              | lst _ => simp only [hst]; rfl
              | dic _ => rw [hst] at t1; cases t1
          | non => cases t1
          | bl _ => cases t1
          | int _ => cases t1
          | str _ => cases t1
          | tup xs =>
            have : (dWs (gS st) xs).map PyData.tuple = some (.list ds) := t1
            obtain ⟨_, _, z⟩ := Option.map_eq_some_iff.mp this
            cases z
          | pr x y =>
            replace t1 : dW (gS st) (.pr x y) = some (.list ds) := t1
            unfold dW at t1
            split at t1
            · cases t1
            · cases t1
          | dtm _ => cases t1
      · cases h
    · cases h
  · cases h
def pIndexT : Ev.F2 := fun p q st => match p, q with
  | .tup xs, .int z => (match intsOf xs with
    | some ns => (match ns.findIdx? (fun y => decide (y = z)) with
      | some j => .ok (.int (j : Nat)) st
      | none => .no)
    | none => .no)
  | _, _ => .no
theorem of_mIndexT : OfM mIndexT pIndexT false := by
  intro st p q a b c fa fb s' ra rb h
  unfold pIndexT at h
  split at h
  · split at h
    · rename_i ns h1
      split at h
      · rename_i j hj
        cases h
        obtain ⟨as, e1, v1⟩ := ra.tup
        obtain ⟨e2, _⟩ := v1.dry (dry_of_ints h1)
        cases (rb.dry rfl).1
        subst e1 e2
        refine ⟨rfl, ?_, rfl⟩
        unfold mIndexT
        simp only
        rw [h1]
        simp only
        rw [hj]
      · cases h
    · cases h
  · cases h
def pCountT : Ev.F2 := fun p q st => match p, q with
  | .tup xs, .int z => (match intsOf xs with
    | some ns => .ok (.int (ns.count z : Nat)) st
    | none => .no)
  | _, _ => .no
theorem of_mCountT : OfM mCountT pCountT false := by
  intro st p q a b c fa fb s' ra rb h
  unfold pCountT at h
  split at h
  · split at h
    · rename_i ns h1
      cases h
      obtain ⟨as, e1, v1⟩ := ra.tup
      obtain ⟨e2, _⟩ := v1.dry (dry_of_ints h1)
      cases (rb.dry rfl).1
      subst e1 e2
      refine ⟨rfl, ?_, rfl⟩
      unfold mCountT
      simp only
      rw [h1]
    · cases h
  · cases h
end
end Vs
/-! a comprehension of two fors -/
namespace Ev
open PySem PySem.Spec PyProof.Rows L2 Gd
open Classical in
noncomputable def lc2F (ρ : Rho) (g : A → Rho → Option Rho) (u : FT) (f1 : FE) (j1 : Nat) (u1 : FT) (f : FE) (G : Sto → Prop) : List A → List A → Sto → R (List A)
  | [], acc, st => if G st then .ok acc st else .no
  | x :: xs, acc, st => if G st then (match g x ρ with
    | some ρ1 => (match u ρ1 st with
      | .ok true st2 => (match fRg1 f1 ρ1 st2 with
        | .ok (ys, _) st3 => (match lcF (wipeR ρ1 [j1]) (lN j1) u1 f (fun _ => True) ys acc st3 with
          | .ok acc' st4 => lc2F ρ g u f1 j1 u1 f G xs acc' st4
          | .no => .no)
        | .no => .no)
      | .ok false st2 => lc2F ρ g u f1 j1 u1 f G xs acc st2
      | .no => .no)
    | none => .no) else .no
/-- [.. for .. in .. for .. in range(..)] -/
noncomputable def fLc2 (fi : FI) (own : List Nat) (g : A → Rho → Option Rho) (u : FT) (f1 : FE) (j1 : Nat) (u1 : FT) (f : FE) : FE := fun ρ st => match fi ρ st with
  | .ok (xs, G) st1 => (match lc2F (wipeR ρ own) g u f1 j1 u1 f G xs [] st1 with
    | .ok acc st2 => .ok (.tmp acc) st2
    | .no => .no)
  | .no => .no
/-- a target that stores to some of the slots own -/
structure LTgO (K : PySem.W.Frag) (own : List Nat) (g : A → Rho → Option Rho) (t : TG) : Prop where
  run : ∀ {μ st H σ ρ ρ1 a v} {Q : L2.St → Hp → Prop}, RS K μ st H → RE K μ st.length H (wipe σ own) ρ → RN K μ st.length H a v → g a ρ = some ρ1 → (∀ σ2, RE K μ st.length H σ2 ρ1 → wipe σ2 own = wipe σ own → Q σ2 H) → t v (wipe σ own) H Q
section
variable {X : Cx} {K : PySem.W.Frag} {J : It} {n : Nat} {G : Hp → Prop} {Y : Nat → Hp → V → Hp → Prop}
theorem wipe_mem {i : Nat} : ∀ {js : List Nat} {σ : L2.St} {x : Option V}, i ∈ js → wipe (σ.set i x) js = wipe σ js
  | v :: vs, σ, x, h => by
    show (wipe (σ.set i x) vs).set v none = (wipe σ vs).set v none
    by_cases hv : i ∈ vs
    · rw [wipe_mem hv]
    · have e : v = i := by rcases List.mem_cons.mp h with z | z; exact z.symm; exact (hv z).elim
      subst e
      have out : ∀ (vs : List Nat), v ∉ vs → wipe (σ.set v x) vs = (wipe σ vs).set v x := by
        intro vs
        induction vs with
        | nil => intro _; rfl
        | cons w ws ih =>
          intro hn
          show (wipe (σ.set v x) ws).set w none = ((wipe σ ws).set w none).set v x
          rw [ih fun z => hn (List.mem_cons_of_mem _ z), List.set_comm _ _ (fun z => hn (by rw [z]; exact List.mem_cons_self))]
      rw [out vs hv, List.set_set]
theorem wipe_wipe : ∀ {js : List Nat} {σ : L2.St}, wipe (wipe σ js) js = wipe σ js := by
  have main : ∀ (is js : List Nat) (σ : L2.St), (∀ i ∈ is, i ∈ js) → wipe (wipe σ is) js = wipe σ js := by
    intro is
    induction is with
    | nil => intro js σ _; rfl
    | cons v vs ih =>
      intro js σ h
      show wipe ((wipe σ vs).set v none) js = _
      rw [wipe_mem (h v List.mem_cons_self), ih js σ fun i hi => h i (List.mem_cons_of_mem _ hi)]
  exact fun {js σ} => main js js σ fun _ h => h
theorem wipe_sub : ∀ (is js : List Nat) (σ : L2.St), (∀ i ∈ is, i ∈ js) → wipe (wipe σ is) js = wipe σ js := by
  intro is
  induction is with
  | nil => intro js σ _; rfl
  | cons v vs ih =>
    intro js σ h
    show wipe ((wipe σ vs).set v none) js = _
    rw [wipe_mem (h v List.mem_cons_self), ih js σ fun i hi => h i (List.mem_cons_of_mem _ hi)]
theorem lo_name {j : Nat} {own : List Nat} (h : j ∈ own) : LTgO K own (lN j) (gName j) := by
  refine ⟨fun {μ st H σ ρ ρ1 a v Q} S R r e q => ?_⟩
  cases e
  exact q _ (R.set r.1 r.2) (by rw [wipe_mem h, wipe_wipe])
theorem inner_it (w : Walk J n G Y) {H0 : Hp} {Nx : Hp → Prop} {P : Nat → Hp → V → Hp → (Hp → Prop) → Prop} (Pv : Nat → Hp → Prop) (h0 : Pv 0 H0) (hG : ∀ i H, i ≤ n → Pv i H → G H) (hs : ∀ i x H H', i < n → Pv i H → Y i H x H' → P i H x H' (Pv (i + 1))) (hd : ∀ H, Pv n H → Nx H) :
    ∃ W : Nat → Nat → Hp → Prop, (∃ m, W 0 m H0) ∧ ∀ i m H, W i m H → (J.stop i H ∧ Nx H) ∨ (J.go i H ∧ ∃ N1 : Hp → Prop, (∀ H', N1 H' → ∃ m', m' < m ∧ W (i + 1) m' H') ∧ ∀ x H', J.yld i H x H' → P i H x H' N1) := by
  refine ⟨fun i m H => m = n - i ∧ i ≤ n ∧ Pv i H, ⟨n, by simp, Nat.zero_le _, h0⟩, ?_⟩
  rintro i m H ⟨rfl, hi, p⟩
  have q := hG i H hi p
  by_cases hlt : i < n
  · exact .inr ⟨w.goes i H hlt q, Pv (i + 1), fun H' p' => ⟨n - (i + 1), by omega, rfl, hlt, p'⟩, fun x H' y => hs i x H H' hlt p (w.yields i H x H' hlt q y)⟩
  · have e : i = n := by omega
    subst e
    exact .inl ⟨w.stops H q, hd H p⟩
theorem RE.other {μ : Nat → Addr} {n : Nat} {H : Hp} {σ : L2.St} {ρ : Rho} {p : Addr} {o o' : HO} (R : RE K μ n H σ ρ) (hp : H p = some o) (h1 : ∀ xs, o ≠ .tup xs) (h2 : ∀ x z, o ≠ .frz x z) : RE K μ n (upd H p o') σ ρ :=
  ⟨R.len, fun i a e => let ⟨h3, v, h4, h5⟩ := R.at_ i a e; ⟨h3, v, h4, h5.other hp h1 h2 h3⟩⟩
theorem w_lc2 {fi : FI} {f1 : FE} {j1 : Nat} {own : List Nat} {g : A → Rho → Option Rho} {u u1 : FT} {f : FE} {t : TG} {σ : L2.St} {H : Hp} {Q : VK} (lt : LTgO K own g t) (h : tOf K (fLc2 fi own g u f1 j1 u1 f) σ H Q) :
    tLc2 (iOf K fi) t (uOf K u) (iRng1 (tCons (tOf K f1) tNil)) (gName j1) (uOf K u1) (tBn K f) own [j1] σ H Q := by
  obtain ⟨μ, st, ρ, z, st', S, E, h, q⟩ := h
  unfold fLc2 at h
  split at h
  · rename_i xs G st1 h1
    split at h
    · rename_i accF st2 h2
      cases h
      refine ⟨μ, st, ρ, xs, G, st1, S, E, h1, fun J μ1 H1 GH Y S1 E1 w hG hY D hD => ?_⟩
      have R1 : RE K μ1 st1.length H1 (L2.wipe σ own) (wipeR ρ own) := (E.ext S E1).wipe own
      refine inner_it w (Nx := fun H => Q (.ref D) H) (fun i H2 => ∃ μ2 st2' acc vs, LcI K μ1 st1.length H1 D μ2 st2' H2 acc vs ∧ lc2F (wipeR ρ own) g u f1 j1 u1 f G (xs.drop i) acc st2' = .ok accF st') ⟨μ1, st1, [], [], ?_, h2⟩ ?_ ?_ ?_
      · obtain ⟨S', E'⟩ := S1.new (o := .lst []) hD
        exact ⟨S', E', S1.ne_free hD, upd_same, .nil⟩
      · rintro i H2 hi ⟨μ2, st2', acc, vs, I, h3⟩
        refine hG μ2 st2' H2 I.S I.E ?_
        cases hd : xs.drop i with
        | nil =>
          rw [hd] at h3
          unfold lc2F at h3
          split at h3
          · assumption
          · cases h3
        | cons x r =>
          rw [hd] at h3
          unfold lc2F at h3
          split at h3
          · assumption
          · cases h3
      · rintro i x H2 H3 hi ⟨μ2, st2', acc, vs, I, h3⟩ y
        rw [List.drop_eq_getElem_cons hi] at h3
        unfold lc2F at h3
        split at h3
        · rename_i hGs
          obtain ⟨S3, E3, r3⟩ := hY i x H2 H3 μ2 st2' xs[i] (List.getElem?_eq_getElem hi) I.S I.E hGs y
          have I3 := I.step S3 E3
          split at h3
          · rename_i ρ1 h4
            refine lt.run S3 (R1.ext S1 I3.E) r3 h4 fun σ2 R2 eW => ⟨eW, ?_⟩
            split at h3
            · rename_i st4 h5
              refine ⟨μ2, st2', ρ1, true, st4, S3, R2, h5, fun μ4 H4 S4 E4 => iteT ?_⟩
              have I4 := I3.step S4 E4
              have R4 := R2.ext S3 E4
              split at h3
              · rename_i ys G1 st5 h6
                split at h3
                · rename_i acc' st6 h7
                  -- the inner loop
                  unfold fRg1 at h6
                  split at h6
                  · rename_i k st5' h8
                    split at h6
                    · rename_i hk
                      cases h6
                      refine ⟨μ4, st4, ρ1, .int k, st5, S4, R4, h8, fun v μ5 H5 S5 E5 r5 f5 => ?_⟩
                      cases (show v = .int k from r5)
                      refine ⟨k, rfl, hk.1, hk.2, ?_⟩
                      have I5 := I4.step S5 E5
                      have R5 := R4.ext S4 E5
                      have hlen : (rgA 0 k).length = k.toNat := by rw [rgA_len, Int.sub_zero]
                      refine inner_it (walk_range (lo := 0) (n := k.toNat)) (P := fun i H x H' N1 => gName j1 x (L2.wipe σ2 [j1]) H' fun σ3 H5 => L2.wipe σ3 [j1] = L2.wipe σ2 [j1] ∧ uOf K u1 σ3 H5 fun b H6 => if b = true then tBn K f σ3 H6 fun y H7 => ∃ acc, H7 D = some (.lst acc) ∧ acc.length < sizeLine ∧ N1 (upd H7 D (.lst (acc ++ [y]))) else N1 H6) (fun j H6 => ∃ μ6 st6' acc6 vs6, LcI K μ1 st1.length H1 D μ6 st6' H6 acc6 vs6 ∧ RE K μ6 st6'.length H6 σ2 ρ1 ∧ lcF (wipeR ρ1 [j1]) (lN j1) u1 f (fun _ => True) ((rgA 0 k).drop j) acc6 st6' = .ok acc' st6) ⟨μ5, st5, acc, vs, I5, R5, h7⟩ (fun _ _ _ _ => trivial) ?_ ?_
                      · rintro j x' H6 H7 hj ⟨μ6, st6', acc6, vs6, I6, R6, h9⟩ ⟨rfl, rfl⟩
                        rw [List.drop_eq_getElem_cons (by rw [hlen]; exact hj)] at h9
                        have e9 := rgA_at (List.getElem?_eq_getElem (l := rgA 0 k) (by rw [hlen]; exact hj))
                        rw [e9] at h9
                        unfold lcF at h9
                        rw [if_pos trivial] at h9
                        have hn : lN j1 (.int (0 + (j : Nat))) (wipeR ρ1 [j1]) = some ((wipeR ρ1 [j1]).set j1 (some (.int (0 + (j : Nat))))) := rfl
                        rw [hn] at h9
                        simp only at h9
                        have R7 : RE K μ6 st6'.length H7 (L2.wipe σ2 [j1]) (wipeR ρ1 [j1]) := R6.wipe [j1]
                        have R8 := R7.set (i := j1) (a := .int (0 + (j : Nat))) (v := .int (0 + (j : Nat))) trivial rfl
                        refine ⟨wipe_one _ _ _, ?_⟩
                        split at h9
                        · rename_i st7 g1
                          refine ⟨μ6, st6', _, true, st7, I6.S, R8, g1, fun μ8 H8 S8 E8 => iteT ?_⟩
                          have I8 := I6.step S8 E8
                          split at h9
                          · rename_i a9 st9 g2
                            split at h9
                            · rename_i hz
                              refine ⟨μ8, st7, _, a9, st9, S8, R8.ext I6.S E8, g2, fun v9 μ9 H9 S9 E9 r9 => ?_⟩
                              have I9 := I8.step S9 E9
                              refine ⟨vs6, I9.at_, by rw [← I9.r.length]; exact hz, μ9, st9, acc6 ++ [a9], vs6 ++ [v9], I9.app hD r9, ?_, h9⟩
                              exact ((R6.ext I6.S E8).ext S8 E9).other I9.at_ (fun _ z => nomatch z) (fun _ _ z => nomatch z)
                            · cases h9
                          · cases h9
                        · rename_i st7 g1
                          refine ⟨μ6, st6', _, false, st7, I6.S, R8, g1, fun μ8 H8 S8 E8 => iteF ?_⟩
                          exact ⟨μ8, st7, acc6, vs6, I6.step S8 E8, R6.ext I6.S E8, h9⟩
                        · cases h9
                      · rintro H6 ⟨μ6, st6', acc6, vs6, I6, R6, h9⟩
                        rw [List.drop_eq_nil_of_le (by rw [hlen]; exact Nat.le_refl _)] at h9
                        unfold lcF at h9
                        rw [if_pos trivial] at h9
                        cases h9
                        exact ⟨μ6, st6, _, vs6, I6, h3⟩
                    · cases h6
                  · cases h6
                · cases h3
              · cases h3
            · rename_i st4 h5
              refine ⟨μ2, st2', ρ1, false, st4, S3, R2, h5, fun μ4 H4 S4 E4 => iteF ?_⟩
              exact ⟨μ4, st4, acc, vs, I3.step S4 E4, h3⟩
            · cases h3
          · cases h3
        · cases h3
      · rintro H2 ⟨μ2, st2', acc, vs, I, h3⟩
        rw [List.drop_length] at h3
        unfold lc2F at h3
        split at h3
        · cases h3
          refine q (.ref D) μ2 H2 I.S (E1.trans I.E) ⟨D, vs, rfl, I.at_, I.ne, repL_iff.mpr I.r⟩ (.inr ⟨D, rfl, E1.so D hD⟩)
        · cases h3
    · cases h
  · cases h
theorem dx_lc2 {elt tg iter e1 : Expr} {x1 : Str} {j1 : Nat} {ifs ifs1 : List Expr} {scope : Scope} {own : List (Str × Nat)} {pos p1 p2 p3 : Pos} {fi : FI} {g : A → Rho → Option Rho} {u u1 : FT} {f1 f : FE} {t : TG} (hc : X.calm = true) (hN : X.N.Nodup) (hi : PI X tg iter (iOf K fi)) (ok : BlkOk X.N X.env.scope scope own) (hv : ∀ i ∈ [j1], i ∈ own.map (·.2)) (lt : LTgO K (own.map (·.2)) g t)
    (hg : ∀ (s : Shared) (H : Hp) (C : Addr) (cl : List (Str × Addr)) (fp : List Addr), PG (X.blk s H scope (compEnvC scope cl C X.env) fp) tg t) (ht : ∀ (s : Shared) (H : Hp) (C : Addr) (cl : List (Str × Addr)) (fp : List Addr), PTs (X.blk s H scope (compEnvC scope cl C X.env) fp) ifs (uOf K u))
    (hi1 : ∀ (s : Shared) (H : Hp) (C : Addr) (cl : List (Str × Addr)) (fp : List Addr), PI (X.blk s H scope (compEnvC scope cl C X.env) fp) (.Name x1 p1) (.Call (.Name "range" p2) [e1] [] p3) (iRng1 (tCons (tOf K f1) tNil)))
    (hg1 : ∀ (s : Shared) (H : Hp) (C : Addr) (cl : List (Str × Addr)) (fp : List Addr), PG (X.blk s H scope (compEnvC scope cl C X.env) fp) (.Name x1 p1) (gName j1)) (ht1 : ∀ (s : Shared) (H : Hp) (C : Addr) (cl : List (Str × Addr)) (fp : List Addr), PTs (X.blk s H scope (compEnvC scope cl C X.env) fp) ifs1 (uOf K u1))
    (he : ∀ (s : Shared) (H : Hp) (C : Addr) (cl : List (Str × Addr)) (fp : List Addr), PE (X.blk s H scope (compEnvC scope cl C X.env) fp) elt (tOf K f)) (hs : ∀ x, foldedSetIterable iter X.env x = pure x := by intro _; rfl) (hs1 : ∀ env x, foldedSetIterable (.Call (.Name "range" p2) [e1] [] p3) env x = pure x := by intro _ _; rfl) :
    PE X (.ListComp elt [⟨tg, iter, ifs, 0⟩, ⟨.Name x1 p1, .Call (.Name "range" p2) [e1] [] p3, ifs1, 0⟩] scope pos) (tOf K (fLc2 fi (own.map (·.2)) g u f1 j1 u1 f)) :=
  pe_weak (pe_lc2 hc hN hi ok hv hg ht hi1 hg1 ht1 (fun s H C cl fp => dx_bn (he s H C cl fp)) hs hs1) fun _ _ _ h => w_lc2 lt h
theorem pi_rgR {tg e : Expr} {f : FE} {p pos : Pos} (hm : X.mg "range" = none) (h : PE X e (tOf K f)) (hg : Gl X "range" := by rfl) (hs : starEach [e] X.env = [(false, eval e X.env)] := by rfl) : PI X tg (.Call (.Name "range" p) [e] [] pos) (iRng1 (tCons (tOf K f) tNil)) := pi_range1 hg hm (pa_cons h pa_nil hs) hs
end
end Ev
/-! a comprehension of two fors -/
namespace Vs
open PySem PySem.Spec PyProof.Rows L2 Gd Ev
section
variable {M R S S0 S1 S2 S3 T T0 T1 T2 T3 T4 : List Nat} {st st' st0 st1 st2 : Sto} {F F' F0 F1 F2 : Fp} {ρ ρ' ρ1 ρ2 : Rho} {e : PEnv}
def vlc2 (own : List Nat) (b : VB) (src : List Nat) (u : VT) (g1 : VE) (j1 : Nat) (u1 : VT) (g : VE) : List A → List A → PEnv → Option (List A × PEnv)
  | [], acc, e => some (acc, e)
  | p :: ps, acc, e => match b src p e with
    | some e1 => (match u e1 with
      | some (true, e2) => (match g1 e2 with
        | some (.int k, e3) => if -(2 ^ 62) ≤ k ∧ k < 2 ^ 62 then (match vlc [j1] (vbN j1) [] u1 g (rgA 0 k) acc (wipeE e3 [j1]) with
          | some (acc', e4) => vlc2 own b src u g1 j1 u1 g ps acc' (wipeE e4 own)
          | none => none) else none
        | _ => none)
      | some (false, e2) => vlc2 own b src u g1 j1 u1 g ps acc (wipeE e2 own)
      | none => none)
    | none => none
theorem Fro.memT {fa : List Nat} (k : Fro [] T1 st0 F0 F fa) (s : ∀ i ∈ T1, i ∈ T2) : Fro [] T2 st0 F0 F fa := k.weak (fun _ h => h) id s
theorem lc2_run {js own : List Nat} {j1 : Nat} {g : A → Rho → Option Rho} {b : VB} {u u1 : FT} {w w1 : VT} {f1 f : FE} {h1 h : VE} {G : Sto → Prop} {fa src : List Nat} (hg : SL js g b) (hjo : ∀ j ∈ js, j ∈ own) (hj1 : j1 ∈ own) (hu : ST T1 u w) (hf1 : SE S3 T3 f1 h1) (hu1 : ST T4 u1 w1) (hf : SE [] T2 f h)
    (hd : dsj S (own ++ (T1 ++ (T3 ++ (T4 ++ T2)))) = true) (hjs : dsj own (T1 ++ (T3 ++ (T4 ++ T2))) = true) (hsrc : ∀ j ∈ src, j ∈ S) :
    ∀ {ps xs acc bs qs : List A} {fq fc : List Nat} {st : Sto} {e e' : PEnv} {F : Fp} {st0 : Sto} {F0 : Fp}, ER st ρ e F → (∀ j ∈ own, j < e.length → F j = []) → VrL st ps xs fq → (∀ l ∈ fq, l ∈ fa) → Hold S st F fa → (∀ l ∈ fq, ∃ j ∈ src, l ∈ F j) → (∀ st2 : Sto, (∀ l ∈ fa, st2[l]? = st[l]?) → G st2) →
      VrL st acc bs fc → Fro [] T st0 F0 F fc → Stp T st0 F0 st F → (∀ i ∈ own ++ (T1 ++ (T3 ++ (T4 ++ T2))), i ∈ T) → vlc2 own b src w h1 j1 w1 h ps acc e = some (qs, e') →
      ∃ cs st' F' fd, lc2F ρ g u f1 j1 u1 f G xs bs st = .ok cs st' ∧ ER st' ρ e' F' ∧ Stp T st0 F0 st' F' ∧ VrL st' qs cs fd ∧ Fro [] T st0 F0 F' fd ∧ (∀ j ∈ own, j < e'.length → F' j = [])
  | [], xs, acc, bs, qs, fq, fc, st, e, e', F, st0, F0, E, hj, v, p1, p2, p3, p4, ra, ka, x0, hT, q => by
    cases q
    cases v.1
    exact ⟨bs, st, F, fc, if_pos (p4 st fun _ _ => rfl), E, x0, ra, ka, hj⟩
  | p :: ps, xs, acc, bs, qs, fq, fc, st, e, e', F, st0, F0, E, hj, ⟨a, as, f1', f2', e1, e2, v1, v2⟩, p1, p2, p3, p4, ra, ka, x0, hT, q => by
    subst e1 e2
    unfold vlc2 at q
    have not_own : ∀ j ∈ src, j ∉ own := fun j hj z => dsj_not hd (hsrc j hj) (List.mem_append_left _ z)
    have hsd : dsj src js = true := List.all_eq_true.mpr fun j hj => by
      rw [Bool.not_eq_true', ← Bool.not_eq_true]
      exact fun z => not_own j hj (hjo j (List.contains_iff_mem.mp z))
    unfold lc2F
    rw [if_pos (p4 st fun _ _ => rfl)]
    split at q
    · rename_i e1 hb1
      obtain ⟨ρ1, F1, a1, E1, x1, l1, o1, z1⟩ := hg E v1 (fun l hl => p3 l (List.mem_append_left _ hl)) hsd hb1
      rw [a1]
      simp only
      have z1' : ∀ j ∈ own, j < e1.length → F1 j = [] := fun j hj' hl => by
        by_cases hjj : j ∈ js
        · exact z1 j hjj hl
        · rw [x1.kp j hjj]
          exact hj j hj' (by rw [← E.len, ← l1, E1.len]; exact hl)
      -- behind a turn
      have next : ∀ {st2 : Sto} {ρ2 : Rho} {F2 : Fp} {e2 : PEnv} {acc' bs' : List A} {fc' : List Nat}, ER st2 ρ2 e2 F2 → ρ2.length = ρ1.length → (∀ k, k ∉ own → ρ2[k]? = ρ1[k]?) → Stp ([j1] ++ (T1 ++ (T3 ++ (T4 ++ T2)))) st F1 st2 F2 → (∀ j ∈ own, j < e2.length → F2 j = []) → VrL st2 acc' bs' fc' → Fro [] T st0 F0 F2 fc' → vlc2 own b src w h1 j1 w1 h ps acc' (wipeE e2 own) = some (qs, e') →
          ∃ cs st' F' fd, lc2F ρ g u f1 j1 u1 f G as bs' st2 = .ok cs st' ∧ ER st' ρ e' F' ∧ Stp T st0 F0 st' F' ∧ VrL st' qs cs fd ∧ Fro [] T st0 F0 F' fd ∧ (∀ j ∈ own, j < e'.length → F' j = []) := fun {st2 ρ2 F2 e2 acc' bs' fc'} E2 l2 o2 x2 hz ra' ka' q2 => by
        have x : Stp (own ++ (T1 ++ (T3 ++ (T4 ++ T2)))) st F st2 F2 := (x1.trans x2).mono fun i hi => by
          rcases List.mem_append.mp hi with y | y
          · exact List.mem_append_left _ (hjo i y)
          · rcases List.mem_append.mp y with y | y
            · rw [List.mem_singleton.mp y]; exact List.mem_append_left _ hj1
            · exact List.mem_append_right _ y
        obtain ⟨k1, k2⟩ := p2.step E x hd
        have E3 : ER st2 ρ (wipeE e2 own) F2 := E2.swap hz (by rw [l2, l1]) fun k hk => by rw [o2 k hk, o1 k fun z => hk (hjo k z)]
        exact lc2_run hg hjo hj1 hu hf1 hu1 hf hd hjs hsrc (ps := ps) (xs := as) (fq := f2') E3 (fun j hj hl => hz j hj (by rw [wipeE_len] at hl; exact hl)) (v2.mono fun l hl => k1 l (p1 l (List.mem_append_right _ hl))) (fun l hl => p1 l (List.mem_append_right _ hl)) k2 (fun l hl => by
          obtain ⟨j, hj, z⟩ := p3 l (List.mem_append_right _ hl)
          exact ⟨j, hj, by rw [x.kp j (dsj_not hd (hsrc j hj))]; exact z⟩) (fun st3 h5 => p4 st3 fun l hl => (h5 l hl).trans (k1 l hl)) ra' ka' ((x0.trans x).mono fun i hi => (List.mem_append.mp hi).elim id (hT i)) hT q2
      have hTT : ∀ i ∈ T ++ (own ++ (T1 ++ (T3 ++ (T4 ++ T2)))), i ∈ T := fun i hi => (List.mem_append.mp hi).elim id (hT i)
      have inT : ∀ i, i ∈ js ∨ i ∈ T1 ∨ i ∈ T3 ∨ i = j1 ∨ i ∈ T4 ∨ i ∈ T2 → i ∈ T := fun i hi => by
        rcases hi with y | y | y | y | y | y
        · exact hT i (List.mem_append_left _ (hjo i y))
        · exact hT i (List.mem_append_right _ (List.mem_append_left _ y))
        · exact hT i (List.mem_append_right _ (List.mem_append_right _ (List.mem_append_left _ y)))
        · exact hT i (List.mem_append_left _ (y ▸ hj1))
        · exact hT i (List.mem_append_right _ (List.mem_append_right _ (List.mem_append_right _ (List.mem_append_left _ y))))
        · exact hT i (List.mem_append_right _ (List.mem_append_right _ (List.mem_append_right _ (List.mem_append_right _ y))))
      obtain ⟨_, ka1⟩ := ka.later ra.lt E x1 (by rfl)
      have ow : ∀ j ∈ own, j ∉ T1 ++ (T3 ++ (T4 ++ T2)) := fun j hj => dsj_not hjs hj
      split at q
      · rename_i e2 hu2
        obtain ⟨st2, F2, b1, E2, x2⟩ := hu E1 hu2
        rw [b1]
        simp only
        split at q
        · rename_i k e3 hf3
          split at q
          · rename_i hk
            obtain ⟨c, st3, F3, fc3, c1, E3, x3, r3, k3⟩ := hf1 E2 hf3
            have c1' : fRg1 f1 ρ1 st2 = .ok (rgA 0 k, fun _ => True) st3 := by
              unfold fRg1
              rw [c1, r3.int]
              exact if_pos hk
            rw [c1']
            simp only
            split at q
            · rename_i acc' e4 hi4
              obtain ⟨m1, m2⟩ := ka1.later (st1 := st) (by exact ra.lt) E1 (x2.trans x3) (by rfl)
              have z3 : ∀ j ∈ own, j < e3.length → F3 j = [] := fun j hj' hl => by
                rw [x3.kp j fun z => ow j hj' (List.mem_append_right _ (List.mem_append_left _ z)), x2.kp j fun z => ow j hj' (List.mem_append_left _ z)]
                exact z1' j hj' (by rw [← E1.len, E3.len]; exact hl)
              have hz1 : ∀ j ∈ [j1], j < e3.length → F3 j = [] := fun j hj' hl => z3 j (by rw [List.mem_singleton.mp hj']; exact hj1) hl
              obtain ⟨cs, st4, F4, fd, d1, E4, x4, r4, k4, z4, loc⟩ := lc_run (T := T) (S := []) (fa := []) (src := []) (js := [j1]) (G := fun _ => True) (st0 := st0) (F0 := F0) sl_N hu1 hf rfl (List.all_eq_true.mpr fun j hj' => by
                  rw [Bool.not_eq_true', ← Bool.not_eq_true]
                  exact fun z => ow j (by rw [List.mem_singleton.mp hj']; exact hj1) (List.mem_append_right _ (List.mem_append_right _ (List.contains_iff_mem.mp z)))) (fun _ h => h) (E3.wipe hz1) (fun j hj' hl => hz1 j hj' (by rw [wipeE_len] at hl; exact hl)) (VrL.of_dry (dryL_rg 0 k)) (fun _ h => h) hold_nil (fun _ h => (List.not_mem_nil h).elim) (fun _ _ => trivial) (ra.mono m1)
                (m2.memT fun i hi => by
                  rcases List.mem_append.mp hi with y | y
                  · rcases List.mem_append.mp y with y | y
                    · exact y
                    · exact inT i (.inl y)
                  · rcases List.mem_append.mp y with y | y
                    · exact inT i (.inr (.inl y))
                    · exact inT i (.inr (.inr (.inl y)))) ((x0.trans (x1.trans (x2.trans x3))).mono fun i hi => by
                  rcases List.mem_append.mp hi with y | y
                  · exact y
                  · rcases List.mem_append.mp y with y | y
                    · exact inT i (.inl y)
                    · rcases List.mem_append.mp y with y | y
                      · exact inT i (.inr (.inl y))
                      · exact inT i (.inr (.inr (.inl y)))) (fun i hi => by
                  rcases List.mem_append.mp hi with y | y
                  · exact inT i (.inr (.inr (.inr (.inl (List.mem_singleton.mp y)))))
                  · rcases List.mem_append.mp y with y | y
                    · exact inT i (.inr (.inr (.inr (.inr (.inl y)))))
                    · exact inT i (.inr (.inr (.inr (.inr (.inr y)))))) hi4
              rw [d1]
              simp only
              have zo : ∀ j ∈ own, j < e4.length → F4 j = [] := fun j hj' hl => by
                by_cases hjj : j = j1
                · exact z4 j (List.mem_singleton.mpr hjj) hl
                · rw [loc.kp j fun z => ?_]
                  · exact z3 j hj' (by rw [← E3.len, ← wipeR_len ρ1 [j1], E4.len]; exact hl)
                  · rcases List.mem_append.mp z with y | y
                    · exact hjj (List.mem_singleton.mp y)
                    · exact ow j hj' (List.mem_append_right _ (List.mem_append_right _ y))
              refine next E4 (by rw [wipeR_len]) (fun k hk => wipeR_out fun z => hk (by rw [List.mem_singleton.mp z]; exact hj1)) (((x2.trans x3).trans loc).mono fun i hi => ?_) zo r4 k4 q
              rcases List.mem_append.mp hi with y | y
              · rcases List.mem_append.mp y with y | y
                · exact List.mem_append_right _ (List.mem_append_left _ y)
                · exact List.mem_append_right _ (List.mem_append_right _ (List.mem_append_left _ y))
              · rcases List.mem_append.mp y with y | y
                · exact List.mem_append_left _ y
                · exact List.mem_append_right _ (List.mem_append_right _ (List.mem_append_right _ y))
            · cases q
          · cases q
        · cases q
      · rename_i e2 hu2
        obtain ⟨st2, F2, b1, E2, x2⟩ := hu E1 hu2
        rw [b1]
        simp only
        obtain ⟨m1, m2⟩ := ka1.later (st1 := st) (by exact ra.lt) E1 x2 (by rfl)
        refine next E2 rfl (fun _ _ => rfl) (x2.mono fun i hi => List.mem_append_right _ (List.mem_append_left _ hi)) (fun j hj' hl => by
          rw [x2.kp j fun z => ow j hj' (List.mem_append_left _ z)]
          exact z1' j hj' (by rw [← E1.len, E2.len]; exact hl)) (ra.mono m1) (m2.memT fun i hi => by
            rcases List.mem_append.mp hi with y | y
            · rcases List.mem_append.mp y with y | y
              · exact y
              · exact inT i (.inl y)
            · exact inT i (.inr (.inl y))) q
      · cases q
    · cases q
def vLc2 (vi : VI) (own : List Nat) (b : VB) (u : VT) (g1 : VE) (j1 : Nat) (u1 : VT) (g : VE) : VE := fun e => match vi e with
  | some (ps, src, e1) => if clr e1 own = true then (match vlc2 own b src u g1 j1 u1 g ps [] (wipeE e1 own) with
    | some (qs, e2) => some (.tmp qs, bck e1 e2 own)
    | none => none) else none
  | none => none
theorem s_Lc2 {fi : FI} {vi : VI} {js own : List Nat} {j1 : Nat} {g : A → Rho → Option Rho} {b : VB} {u u1 : FT} {w w1 : VT} {f1 f : FE} {h1 h : VE} (hi : SI S T0 fi vi) (hg : SL js g b) (hu : ST T1 u w) (hf1 : SE S3 T3 f1 h1) (hu1 : ST T4 u1 w1) (hf : SE [] T2 f h)
    (hjo : js.all (fun j => own.contains j) = true := by rfl) (hj1 : own.contains j1 = true := by rfl) (hd : dsj S (own ++ (T1 ++ (T3 ++ (T4 ++ T2)))) = true := by rfl) (hjs : dsj own (T1 ++ (T3 ++ (T4 ++ T2))) = true := by rfl) :
    SE [] (T0 ++ (own ++ (T1 ++ (T3 ++ (T4 ++ T2))))) (fLc2 fi own g u f1 j1 u1 f) (vLc2 vi own b w h1 j1 w1 h) := by
  intro st ρ e F p e' E q
  unfold vLc2 at q
  split at q
  · rename_i ps src e1 hh1
    split at q
    · rename_i hc
      split at q
      · rename_i qs e2 h2
        cases q
        obtain ⟨xs, G, st1, F1, fa, fq, a1, E1, x1, r1, k1, k2, k3, k4, k5⟩ := hi E hh1
        have hz : ∀ j ∈ own, j < e1.length → F1 j = [] := fun j hj hl => clr_F E1 hc hj hl
        obtain ⟨cs, st2, F2, fd, c1, E2, x2, r2, k6, k7⟩ := lc2_run (T := T0 ++ (own ++ (T1 ++ (T3 ++ (T4 ++ T2))))) (st0 := st) (F0 := F) (acc := []) (fc := []) (bs := []) hg (fun j hj => List.contains_iff_mem.mp (List.all_eq_true.mp hjo j hj)) (List.contains_iff_mem.mp hj1) hu hf1 hu1 hf hd hjs k4 (E1.wipe hz) (fun j hj hl => hz j hj (by rw [wipeE_len] at hl; exact hl)) r1 k1 k2 k3 k5 ⟨rfl, rfl⟩ Fro.nil x1.inl (fun i hi => List.mem_append_right _ hi) h2
        refine ⟨.tmp cs, st2, F2, fd, by unfold fLc2; rw [a1]; simp only; rw [c1], E2.back (js := own) k7 E1 hc (by rw [wipeR_len]) (fun k hk => (wipeR_out hk).symm), x2, .inr (.inl ⟨_, _, rfl, rfl, r2⟩), k6⟩
      · cases q
    · cases q
  · cases q
end
end Vs
/-! new lists of dry items -/
namespace Vs
open PySem PySem.Spec PyProof.Rows L2 Gd Ev
def NL (f : FE) : Prop := ∀ {ρ : Rho} {st : Sto} {a : A} {st' : Sto}, f ρ st = .ok a st' → ∀ l, a ≠ .loc l
def nd (p : A) : Bool := match p with
  | .tmp xs => dryL xs
  | p => p.dry
def fn (g : VE) : VE := fun e => match g e with
  | some (p, e1) => if nd p = true then some (p, e1) else none
  | none => none
section
variable {S T : List Nat}
theorem s_fn {f : FE} {g : VE} (hn : NL f) (h : SE S T f g) : SE [] T f (fn g) := by
  intro st ρ e F p e' E q
  unfold fn at q
  split at q
  · rename_i p1 e1 h1
    split at q
    · rename_i h2
      cases q
      obtain ⟨a, st', F', fa, h3, h4, h5, h6, h7⟩ := h E h1
      by_cases hd : p.dry = true
      · obtain ⟨e1, _⟩ := h6.dry hd
        subst e1
        exact ⟨a, st', F', [], h3, h4, h5, .inl (Vr.of_dry hd), Fro.nil⟩
      · cases p with
        | tmp xs =>
          rcases h6 with ⟨l, _, _, e1, _⟩ | ⟨ps, as, e1, e2, r⟩ | ⟨_, e1, _⟩
          · exact (hn h3 l e1).elim
          · cases e1
            obtain ⟨e3, _⟩ := r.dry h2
            exact ⟨a, st', F', [], h3, h4, h5, .inr (.inl ⟨_, _, rfl, e2, by rw [e3]; exact VrL.of_dry h2⟩), Fro.nil⟩
          · cases e1
        | _ => exact (hd h2).elim
    · cases q
  · cases q
theorem nl_add {f g : FE} : NL (f2 opAdd f g) := by
  intro ρ st a st' h l e
  subst e
  unfold f2 at h
  split at h
  · split at h
    · unfold opAdd at h
      split at h
      · cases h
      · split at h <;> cases h
      · split at h <;> cases h
      · split at h
        · split at h <;> cases h
        · cases h
    · cases h
  · cases h
theorem nl_mul {f g : FE} : NL (f2 opMul f g) := by
  intro ρ st a st' h l e
  subst e
  unfold f2 at h
  split at h
  · split at h
    · unfold opMul at h
      split at h
      · split at h <;> cases h
      · split at h <;> cases h
      · split at h
        · split at h <;> cases h
        · cases h
      · cases h
    · cases h
  · cases h
theorem nl_lst {g : FA} : NL (fN bLst g) := by
  intro ρ st a st' h l e
  subst e
  unfold fN at h
  split at h
  · unfold bLst at h
    split at h
    · split at h <;> cases h
    · cases h
  · cases h
theorem nl_srt {g : FA} : NL (fN bSrt g) := by
  intro ρ st a st' h l e
  subst e
  unfold fN at h
  split at h
  · unfold bSrt at h
    split at h
    · split at h
      · split at h <;> cases h
      · cases h
    · cases h
  · cases h
theorem nl_if {u : FT} {f g : FE} (h1 : NL f) (h2 : NL g) : NL (fIf u f g) := by
  intro ρ st a st' h
  unfold fIf at h
  split at h
  · exact h1 h
  · exact h2 h
  · cases h
/-- a law's end: what its def gives for a script of ints -/
theorem law_end {c : FN} {v : List A → Option (A × A)} {al : Bool} {ns : List Int} {o : A} (h : SF false al c v) (q : v [.frz (iL ns)] = some (.bl true, o)) : ∃ st', c [.frz (iL ns)] [] = .ok (.bl true) st' := by
  obtain ⟨a, st', fa, g, h1, _, _, h4, _⟩ := h (st := []) (ps := [.frz (iL ns)]) (as := [.frz (iL ns)]) (fs := fun _ => []) ⟨.frz (iL ns), [], rfl, ⟨rfl, dryL_ints ns, rfl⟩, rfl⟩ (fun z => nomatch z) q
  exact ⟨st', by rw [h1, h4.bl]⟩
end
end Vs
/-! what the laws draw, as functions on values -/
namespace Vl
open PySem PySem.Spec PyProof.Rows L2 Gd Ev Vs
noncomputable def h_law_draw : VS := (vseq (vasg 2 (vLc (viE (vSl (rd [99] 0) voN (voS (vc (.int 48))))) [4] (vbN 4) qYes (vN1 bAbs (vC (vN1 bInt (vC (rd [4] 4) vN)) vN))))
    (vseq (vasg 3 (fn (v2 opAdd (vc (.int 7919)) (v2 pMul (vc (.int 104729)) (rd [99] 1)))))
    (vseq (vfor (viV [2] 2) (vbN 4) (vasg 3 (v2 opMod (vN1 bInt (vC (v2 opAdd (v2 opAdd (v2 pMul (rd [3] 3) (vc (.int 48271))) (v2 opMod (rd [4] 4) (vc (.int 2147483549)))) (vc (.int 11))) vN)) (vc (.int 2147483647)))))
    (vret (vN1 mkLst (vC (vRev (vLc (viV [2] 2) [4] (vbN 4) (qB (v2 opGe (rd [4] 4) (v2 opPow (vc (.int 10)) (vc (.int 18))))) (rd [] 4))) (vC (mv 3) vN)))))))
noncomputable def v_law_draw : List A → Option (A × A) := fun ps => if ps.length = 2 then vdef false 3 h_law_draw ps else none
noncomputable def h_law_any : VS := (vseq (vwhile (qAnd (qB (v2 pNe (v2 opIx (rd [0] 0) (vc (.int 0))) (vN1 mkLst vN))) (qB (v2 pEq (v2 opIx (v2 opIx (rd [0] 0) (vc (.int 0))) (vNeg (vc (.int 1)))) (vc (.int 0))))) (vexp (vM1 0 aPop (vc (.int 0)) vN)))
    (vseq (vif (qB (v2 pNe (v2 opIx (rd [0] 0) (vc (.int 0))) (vN1 mkLst vN))) (vseq (vasg 2 (vN1 bInt (vC (vM1 0 aPop (vc (.int 0)) vN) vN)))
    (vseq (vexp (vM1 0 aApp (vc (.int 0)) (vC (v2 opDiv (rd [2] 2) (rd [99] 1)) vN)))
    (vret (v2 opMod (rd [2] 2) (rd [99] 1))))) vnil)
    (vseq (vset0 0 (vc (.int 1)) (v2 opMod (vN1 bInt (vC (v2 opAdd (v2 pMul (v2 opIx (rd [0] 0) (vc (.int 1))) (vc (.int 40693))) (vc (.int 71))) vN)) (vc (.int 2147483647))))
    (vret (v2 opMod (vN1 bInt (vC (v2 opDiv (v2 opIx (rd [0] 0) (vc (.int 1))) (vc (.int 64))) vN)) (rd [99] 1))))))
noncomputable def v_law_any : List A → Option (A × A) := fun ps => if ps.length = 2 then vdef true 1 h_law_any ps else none
noncomputable def h_law_of : VS := (vret (v2 opIx (rd [99] 1) (vcallD 0 v_law_any (vC (vN1 bLen (vC (rd [99] 1) vN)) vN))))
noncomputable def v_law_of : List A → Option (A × A) := fun ps => if ps.length = 2 then vdef true 0 h_law_of ps else none
noncomputable def h_law_mixed : VS := (vseq (vpar [2, 3] (vC (fn (vN1 bLst (vC (rd [99] 1) vN))) (vC (vN1 mkLst vN) vN)))
    (vseq (vwhile (qB (v2 pNe (rd [2] 2) (vN1 mkLst vN))) (vexp (vM0 3 aApp (vC (vM0 2 aPopAt (vC (vcallD 0 v_law_any (vC (vN1 bLen (vC (rd [2] 2) vN)) vN)) vN)) vN))))
    (vret (mv 3))))
noncomputable def v_law_mixed : List A → Option (A × A) := fun ps => if ps.length = 2 then vdef true 2 h_law_mixed ps else none
noncomputable def h_law_power : VS := (vseq (vasg 2 (vc (.int 1)))
    (vseq (vfor (viRg1 (rd [99] 1)) (vbN 3) (vasg 2 (vN1 bInt (vC (v2 pMul (rd [2] 2) (rd [99] 0)) vN))))
    (vret (mv 2))))
noncomputable def v_law_power : List A → Option (A × A) := fun ps => if ps.length = 2 then vdef false 2 h_law_power ps else none
end Vl
/-! what the laws draw: the source of draws -/
namespace Vl
open PySem PySem.Spec PyProof.Rows L2 Gd Ev Vs
abbrev ow (p : A) : Option Ent := some (.own p)
abbrev dl (cs : List Int) (b : Int) : A := .tmp [.tmp (iL cs), .int b]
theorem lvL_iL (k : Nat) (ds : List Int) : lvL k (iL ds) = true := by
  induction ds with
  | nil => cases k <;> rfl
  | cons d ds ih =>
    have : lvL k (iL (d :: ds)) = (lv k (.int d) && lvL k (iL ds)) := by cases k <;> rfl
    rw [this, ih]
    cases k <;> rfl
theorem dP_iL (ds : List Int) : dP (.tmp (iL ds)) = some (.list (ds.map PyData.int)) := by
  unfold dP
  have : lv 2 (.tmp (iL ds)) = true := lvL_iL 1 ds
  rw [if_pos this]
  show (dWs _ (iL ds)).map PyData.list = _
  rw [dWs_iL]
  rfl
theorem pNe_nil (ds : List Int) : pNe (.tmp (iL ds)) (.tmp []) [] = .ok (.bl (!ds.isEmpty)) [] := by
  simp only [pNe, dP_iL]
  show (if (SeqAt.shaped (.list (ds.map PyData.int)) && SeqAt.shaped (.list [])) = true then R.ok (A.bl (!PyData.eqv (.list (ds.map PyData.int)) (.list []))) ([] : Sto) else .no) = _
  rw [shaped_iL, eqv_nilL]
  cases ds <;> rfl
theorem pEq_int (i j : Int) : pEq (.int i) (.int j) [] = .ok (.bl (decide (i = j))) [] := by
  simp only [pEq]
  show (if (SeqAt.shaped (.int i) && SeqAt.shaped (.int j)) = true then R.ok (A.bl (PyData.eqv (.int i) (.int j))) ([] : Sto) else .no) = _
  rw [eqv_int]
  rfl
theorem pNe_int (i j : Int) : pNe (.int i) (.int j) [] = .ok (.bl (!decide (i = j))) [] := by
  simp only [pNe]
  show (if (SeqAt.shaped (.int i) && SeqAt.shaped (.int j)) = true then R.ok (A.bl (!PyData.eqv (.int i) (.int j))) ([] : Sto) else .no) = _
  rw [eqv_int]
  rfl
theorem pNe_str (x y : Str) : pNe (.str x) (.str y) [] = .ok (.bl (!decide (x = y))) [] := rfl
theorem ix_last (xs : List Int) (r : Int) : opIx (.tmp (iL (xs ++ [r]))) (.int (-1)) [] = .ok (.int r) [] := by
  show (match atI (iL (xs ++ [r])) (-1) with | some x => R.ok x ([] : Sto) | none => .no) = _
  rw [iL, List.map_append]
  show (match atI (xs.map A.int ++ [.int r]) (-1) with | some x => R.ok x ([] : Sto) | none => .no) = _
  rw [atI_last]
theorem pop_last (xs : List Int) (r : Int) : aPop (iL (xs ++ [r])) [] = some (iL xs, .int r) := by
  simp [aPop, iL, List.map_append]
theorem pNe_nn : pNe (.tmp []) (.tmp []) [] = .ok (.bl false) [] := pNe_nil []
theorem kill_n (i : Nat) : kill i [] = [] := rfl
theorem kill_o (i : Nat) (p : A) (e : PEnv) : kill i (some (.own p) :: e) = some (.own p) :: kill i e := rfl
theorem kill_x (i : Nat) (e : PEnv) : kill i (none :: e) = none :: kill i e := rfl
theorem kill_b (i : Nat) (B : List Nat) (p : A) (e : PEnv) : kill i (some (.bor B p) :: e) = (if B.contains i = true then none else some (.bor B p)) :: kill i e := rfl
/-- the source of draws -/
structure Src (cs : List Int) (b : Int) : Prop where
  b0 : 0 ≤ b
  b1 : b < 2 ^ 40
  c0 : ∀ c ∈ cs, 0 ≤ c
  len : cs.length ≤ 48
abbrev anyC : VT := qAnd (qB (v2 pNe (v2 opIx (rd [0] 0) (vc (.int 0))) (vN1 mkLst vN))) (qB (v2 pEq (v2 opIx (v2 opIx (rd [0] 0) (vc (.int 0))) (vNeg (vc (.int 1)))) (vc (.int 0))))
abbrev anyB : VS := vexp (vM1 0 aPop (vc (.int 0)) vN)
abbrev anyE (cs : List Int) (b n : Int) : PEnv := [ow (dl cs b), ow (.int n), none]
theorem any_cond0 (b n : Int) : anyC (anyE [] b n) = some (false, anyE [] b n) := by
  simp [qAnd, qB, v2, rd, vc, vN1, vN, mkLst, opIx, seqOf, lstOf, atI, ixN, A.dry, pNe_nn]
theorem any_ix1 (cs : List Int) (b : Int) : opIx (dl cs b) (.int 1) [] = .ok (.int b) [] := rfl
theorem any_ix0 (cs : List Int) (b : Int) : opIx (dl cs b) (.int 0) [] = .ok (.tmp (iL cs)) [] := rfl
theorem any_ne (cs : List Int) (b n : Int) : qB (v2 pNe (v2 opIx (rd [0] 0) (vc (.int 0))) (vN1 mkLst vN)) (anyE cs b n) = some (!cs.isEmpty, anyE cs b n) := by
  simp only [qB, v2, rd, vc, vN1, vN, mkLst, List.getElem?_cons_zero, A.dry, Bool.false_or, List.contains_cons, beq_self_eq_true, Bool.true_or, if_true, any_ix0, pNe_nil, List.length_nil, Nat.zero_le]
theorem any_cond1 (xs : List Int) (r b n : Int) : anyC (anyE (xs ++ [r]) b n) = some (decide (r = 0), anyE (xs ++ [r]) b n) := by
  have h2 : (xs ++ [r]).isEmpty = false := by simp
  simp only [anyC, qAnd, any_ne, h2, Bool.not_false]
  simp only [qB, v2, rd, vc, vNeg, List.getElem?_cons_zero, A.dry, Bool.false_or, List.contains_cons, beq_self_eq_true, Bool.true_or, if_true, any_ix0, ix_last, pEq_int]
theorem ixN0 (n : Nat) : ixN (n + 1) 0 = some 0 := by
  unfold ixN
  rw [if_pos (by decide), if_pos (by omega)]
  rfl
theorem ixN1 (n : Nat) : ixN (n + 1 + 1) 1 = some 1 := by
  unfold ixN
  rw [if_pos (by decide), if_pos (by omega)]
  rfl
theorem any_pop (xs : List Int) (r b n : Int) : vM1 0 aPop (vc (.int 0)) vN (anyE (xs ++ [r]) b n) = some (.int r, anyE xs b n) := by
  simp only [vM1, vc, vN, List.getElem?_cons_zero, List.length_cons, ixN0, pop_last, kill_o, kill_x, kill_n, List.set_cons_zero]
theorem any_while (b n : Int) : ∀ rs : List Int, Src rs.reverse b → ∃ ds, Src ds b ∧ (ds = [] ∨ ∃ es z, ds = es ++ [z] ∧ z ≠ 0) ∧ whileV anyC anyB (rs.length + 1) (anyE rs.reverse b n) = some (.nx (anyE ds b n))
  | [], S => by
    refine ⟨[], S, .inl rfl, ?_⟩
    have := any_cond0 b n
    rw [List.reverse_nil, whileV, this]
  | r :: rs, S => by
    have e : (r :: rs).reverse = rs.reverse ++ [r] := List.reverse_cons
    rw [e] at S ⊢
    have hc := any_cond1 rs.reverse r b n
    by_cases hr : r = 0
    · have S' : Src rs.reverse b := ⟨S.b0, S.b1, fun c hc => S.c0 c (List.mem_append_left _ hc), by have := S.len; rw [List.length_append] at this; omega⟩
      obtain ⟨ds, Sd, h1, h2⟩ := any_while b n rs S'
      refine ⟨ds, Sd, h1, ?_⟩
      have hb : anyB (anyE (rs.reverse ++ [r]) b n) = some (.nx (anyE rs.reverse b n)) := by
        show vexp _ _ = _
        unfold vexp
        rw [any_pop]
      rw [List.length_cons, whileV, hc, decide_eq_true hr]
      simp only [hb]
      exact h2
    · refine ⟨rs.reverse ++ [r], S, .inr ⟨_, _, rfl, hr⟩, ?_⟩
      rw [whileV, hc, decide_eq_false hr]
theorem vdefT {n m : Nat} {h : VS} {ps : List A} {p o : A} {e : PEnv} (hl : ps.length = n) (hb : h (inE true ps ++ List.replicate m none) = some (.rt p e)) (ho : e[0]? = some (some (.own o))) : (if ps.length = n then vdef true m h ps else none) = some (p, o) := by
  rw [if_pos hl]
  unfold vdef
  rw [hb]
  simp only [ho]
theorem vdefF {n m : Nat} {h : VS} {ps : List A} {p : A} {e : PEnv} (hl : ps.length = n) (hb : h (inE false ps ++ List.replicate m none) = some (.rt p e)) : (if ps.length = n then vdef false m h ps else none) = some (p, .non) := by
  rw [if_pos hl]
  unfold vdef
  rw [hb]
theorem any_ok {cs : List Int} {b n : Int} (S : Src cs b) (n0 : 0 < n) (n1 : n < 2 ^ 64) : ∃ r cs' b', Src cs' b' ∧ 0 ≤ r ∧ r < n ∧ v_law_any [dl cs b, .int n] = some (.int r, dl cs' b') := by
  obtain ⟨ds, Sd, hz, hw⟩ := any_while b n cs.reverse (by rw [List.reverse_reverse]; exact S)
  rw [List.reverse_reverse] at hw
  have hw := vwhile_of hw
  rcases hz with rfl | ⟨es, z, rfl, hz⟩
  · refine ⟨(b * 40693 + 71) % 2147483647 / 64 % n, [], (b * 40693 + 71) % 2147483647, ⟨Int.emod_nonneg _ (by decide), Int.lt_trans (Int.emod_lt_of_pos _ (by decide)) (by decide), fun c hc => absurd hc List.not_mem_nil, by simp⟩, Int.emod_nonneg _ (by omega), Int.emod_lt_of_pos _ n0, ?_⟩
    have m1 : CMulW b 40693 := wide_mul (a := 41) (b := 20) (by have := Sd.b0; have := Sd.b1; omega) (by decide) (by decide) (by decide) (by decide)
    have m2 : CDivW ((b * 40693 + 71) % 2147483647) 64 := ⟨by decide, by decide⟩
    refine vdefT (e := anyE [] ((b * 40693 + 71) % 2147483647) n) rfl ?_ rfl
    show h_law_any (anyE cs b n) = _
    unfold h_law_any vseq
    rw [hw]
    simp only [vif, any_ne, List.isEmpty_nil, Bool.not_true, vnil]
    have p1 : (0 : Int) < 2147483647 := by decide
    simp only [vset0, v2, vN1, vC, vN, rd, vc, any_ix1, pMul, opAdd, bInt, opInt, List.getElem?_cons_zero, A.dry, Bool.false_or, List.contains_cons, beq_self_eq_true, Bool.true_or, if_true, if_pos m1, if_pos p1, if_pos m2, List.length_cons, List.length_nil, ixN1, List.set_cons_zero, List.set_cons_succ, kill_o, kill_x, kill_n, vret, List.getElem?_cons_succ, if_pos n0]
  · have z0 : 0 ≤ z := Sd.c0 z (by simp)
    have d1 : CDivW z n := wide_div n0 (b := 64) (by omega) (by decide) (by decide)
    have lz : (iL es).length < sizeLine := size_big (by have := Sd.len; simp at this; simp [iL]; omega)
    refine ⟨z % n, es ++ [z / n], b, ⟨Sd.b0, Sd.b1, fun c hc => ?_, by have := Sd.len; simp at this ⊢; omega⟩, Int.emod_nonneg _ (by omega), Int.emod_lt_of_pos _ n0, ?_⟩
    · rcases List.mem_append.mp hc with h | h
      · exact Sd.c0 c (List.mem_append_left _ h)
      · rw [List.mem_singleton.mp h]
        exact Int.ediv_nonneg z0 (by omega)
    refine vdefT (e := [ow (dl (es ++ [z / n]) b), ow (.int n), ow (.int z)]) rfl ?_ rfl
    show h_law_any (anyE cs b n) = _
    unfold h_law_any vseq
    rw [hw]
    have h2 : (es ++ [z]).isEmpty = false := by simp
    have ap : aApp (iL es) [.int (z / n)] = some (iL (es ++ [z / n]), .non) := by
      unfold aApp
      simp only
      rw [if_pos lz, iL, iL, List.map_append]
      rfl
    have pp := any_pop es z b n
    simp only [vif, any_ne, h2, Bool.not_false, vasg, vN1, vC, pop_last, vN, bInt, kill_o, kill_x, kill_n, List.set_cons_zero, List.set_cons_succ, vexp, vM1, vc, List.getElem?_cons_zero, List.length_cons, ixN0, v2, rd, List.getElem?_cons_succ, A.dry, Bool.true_or, if_true, opInt, if_pos d1, ap, vret, if_pos n0, vseq]
end Vl
/-! loops and comprehensions of functions on values; what the laws draw -/
namespace Vl
open PySem PySem.Spec PyProof.Rows L2 Gd Ev Vs
theorem vlc_quiet {α : Type} {js src : List Nat} {b : VB} {u : VT} {g : VE} {e : PEnv} {f : α → A} {P : α → Bool} {val : α → A} {en : α → PEnv} : ∀ {xs : List α} {acc : List A}, (∀ x ∈ xs, b src (f x) e = some (en x) ∧ u (en x) = some (P x, en x) ∧ (P x = true → g (en x) = some (val x, en x)) ∧ wipeE (en x) js = e) → acc.length + xs.length ≤ 1000000 →
    vlc js b src u g (xs.map f) acc e = some (acc ++ (xs.filter P).map val, e)
  | [], acc, _, _ => by simp [vlc]
  | x :: xs, acc, h, hl => by
    obtain ⟨h1, h2, h3, h4⟩ := h x List.mem_cons_self
    have hs : acc.length < sizeLine := size_big (by simp only [List.length_cons] at hl; omega)
    rw [List.map_cons, vlc, h1]
    simp only [h2]
    cases hp : P x with
    | true =>
      simp only [h3 hp, if_pos hs, h4]
      rw [vlc_quiet (fun y hy => h y (List.mem_cons_of_mem _ hy)) (by rw [List.length_append]; simp only [List.length_cons, List.length_nil] at hl ⊢; omega), List.filter_cons, if_pos hp]
      simp
    | false =>
      simp only [h4]
      rw [vlc_quiet (fun y hy => h y (List.mem_cons_of_mem _ hy)) (by simp only [List.length_cons] at hl; omega), List.filter_cons, if_neg (by rw [hp]; decide)]
theorem bck_wipe (e : PEnv) (js : List Nat) : bck e (wipeE e js) js = e := by
  refine List.ext_getElem? fun k => ?_
  by_cases hk : k ∈ js
  · by_cases hl : k < e.length
    · rw [bck_in hk (by rw [wipeE_len]; exact hl), List.getElem?_eq_getElem hl]
      cases e[k] <;> rfl
    · rw [List.getElem?_eq_none (by rw [bck_len, wipeE_len]; omega), List.getElem?_eq_none (by omega)]
  · rw [bck_out hk, wipeE_out hk]
/-- a comprehension that changes nothing -/
theorem vLc_quiet {α : Type} {vi : VI} {js src : List Nat} {b : VB} {u : VT} {g : VE} {e e0 : PEnv} {f : α → A} (P : α → Bool) (val : α → A) (en : α → PEnv) {xs : List α} (hv : vi e0 = some (xs.map f, src, e)) (hc : clr e js = true) (h : ∀ x ∈ xs, b src (f x) (wipeE e js) = some (en x) ∧ u (en x) = some (P x, en x) ∧ (P x = true → g (en x) = some (val x, en x)) ∧ wipeE (en x) js = wipeE e js) (hl : xs.length ≤ 1000000) :
    vLc vi js b u g e0 = some (.tmp ((xs.filter P).map val), e) := by
  unfold vLc
  rw [hv]
  simp only
  rw [if_pos hc, vlc_quiet h (by simp only [List.length_nil]; omega)]
  simp only [List.nil_append, bck_wipe]
theorem vLc_map {α : Type} {vi : VI} {js src : List Nat} {b : VB} {g : VE} {e e0 : PEnv} {f : α → A} (val : α → A) (en : α → PEnv) {xs : List α} (hv : vi e0 = some (xs.map f, src, e)) (hc : clr e js = true) (h : ∀ x ∈ xs, b src (f x) (wipeE e js) = some (en x) ∧ g (en x) = some (val x, en x) ∧ wipeE (en x) js = wipeE e js) (hl : xs.length ≤ 1000000) :
    vLc vi js b qYes g e0 = some (.tmp (xs.map val), e) := by
  have := vLc_quiet (u := qYes) (fun _ => true) val en hv hc (fun x hx => ⟨(h x hx).1, rfl, fun _ => (h x hx).2.1, (h x hx).2.2⟩) hl
  rw [List.filter_eq_self.mpr fun _ _ => rfl] at this
  exact this
/-- a for, by what is left -/
theorem vloop_inv {b : VB} {src : List Nat} {h : VS} (P : List A → PEnv → Prop) (T : PF → Prop) (h0 : ∀ e, P [] e → T (.nx e)) (hs : ∀ x xs e, P (x :: xs) e → ∃ e1, b src x e = some e1 ∧ ((∃ e2, (h e1 = some (.nx e2) ∨ h e1 = some (.ct e2)) ∧ P xs e2) ∨ (∃ e2, h e1 = some (.bk e2) ∧ T (.nx e2)) ∨ ∃ p e2, h e1 = some (.rt p e2) ∧ T (.rt p e2))) :
    ∀ {xs : List A} {e : PEnv}, P xs e → ∃ r, vloop b src h xs e = some r ∧ T r
  | [], e, p => ⟨.nx e, rfl, h0 e p⟩
  | x :: xs, e, p => by
    obtain ⟨e1, h1, h2⟩ := hs x xs e p
    rw [vloop, h1]
    simp only
    rcases h2 with ⟨e2, h2 | h2, h3⟩ | ⟨e2, h2, h3⟩ | ⟨q, e2, h2, h3⟩
    · rw [h2]; exact vloop_inv P T h0 hs h3
    · rw [h2]; exact vloop_inv P T h0 hs h3
    · rw [h2]; exact ⟨_, rfl, h3⟩
    · rw [h2]; exact ⟨_, rfl, h3⟩
/-- .. a fold -/
theorem vloop_fold {α β : Type} {b : VB} {src : List Nat} {h : VS} {f : α → A} (env : β → PEnv) (step : β → α → β) (I : β → Prop) : ∀ {xs : List α} {s : β}, I s → (∀ s x, x ∈ xs → I s → I (step s x) ∧ ∃ e1, b src (f x) (env s) = some e1 ∧ (h e1 = some (.nx (env (step s x))) ∨ h e1 = some (.ct (env (step s x))))) → vloop b src h (xs.map f) (env s) = some (.nx (env (xs.foldl step s)))
  | [], s, _, _ => rfl
  | x :: xs, s, i, hs => by
    obtain ⟨i2, e1, h1, h2⟩ := hs s x List.mem_cons_self i
    rw [List.map_cons, vloop, h1]
    simp only
    rw [List.foldl_cons, ← vloop_fold env step I i2 fun s y hy => hs s y (List.mem_cons_of_mem _ hy)]
    rcases h2 with h2 | h2
    · rw [h2]
    · rw [h2]
/-- a while -/
theorem vwhile_inv {u : VT} {h : VS} (P : PEnv → Prop) (m : PEnv → Nat) (T : PF → Prop) (hs : ∀ e, P e → (∃ e1, u e = some (false, e1) ∧ T (.nx e1)) ∨ ∃ e1, u e = some (true, e1) ∧ ((∃ e2, (h e1 = some (.nx e2) ∨ h e1 = some (.ct e2)) ∧ P e2 ∧ m e2 < m e) ∨ (∃ e2, h e1 = some (.bk e2) ∧ T (.nx e2)) ∨ ∃ p e2, h e1 = some (.rt p e2) ∧ T (.rt p e2))) {e : PEnv} (p : P e) : ∃ r, vwhile u h e = some r ∧ T r := by
  have main : ∀ (n : Nat) (e : PEnv), P e → m e < n → ∃ r, whileV u h n e = some r ∧ T r := by
    intro n
    induction n with
    | zero => intro e _ hn; omega
    | succ n ih =>
      intro e p hn
      rw [whileV]
      rcases hs e p with ⟨e1, h1, h2⟩ | ⟨e1, h1, h2⟩
      · rw [h1]; exact ⟨_, rfl, h2⟩
      · rw [h1]
        simp only
        rcases h2 with ⟨e2, h2 | h2, h3, h4⟩ | ⟨e2, h2, h3⟩ | ⟨q, e2, h2, h3⟩
        · rw [h2]; exact ih e2 h3 (by omega)
        · rw [h2]; exact ih e2 h3 (by omega)
        · rw [h2]; exact ⟨_, rfl, h3⟩
        · rw [h2]; exact ⟨_, rfl, h3⟩
  obtain ⟨r, h1, h2⟩ := main (m e + 1) e p (by omega)
  exact ⟨r, vwhile_of h1, h2⟩
theorem vseq_nx {g h : VS} {e e1 : PEnv} {r : Option PF} (h1 : g e = some (.nx e1)) (h2 : h e1 = r) : vseq g h e = r := by
  unfold vseq
  rw [h1]
  exact h2
theorem vseq_rt {g h : VS} {e e1 : PEnv} {p : A} (h1 : g e = some (.rt p e1)) : vseq g h e = some (.rt p e1) := by
  unfold vseq
  rw [h1]
/-! the first draws -/
theorem dry_iL (ns : List Int) : dryL (iL ns) = true := dryL_ints ns
theorem pCut48 (ns : List Int) : pCut (.frz (iL ns)) none (some 48) = some (.tmp (iL (ns.take 48))) := by
  unfold pCut
  simp only [dry_iL, if_true]
  congr 2
  unfold cutA
  rw [show HT.sIx (iL ns).length 0 none = 0 from rfl, show HT.sIx (iL ns).length (iL ns).length (some 48) = min 48 (iL ns).length from HT.sIx_nat _ _ 48]
  rw [List.drop_zero, Nat.sub_zero]
  show _ = (ns.take 48).map A.int
  rw [List.map_take]
  by_cases h : 48 ≤ (iL ns).length
  · rw [Nat.min_eq_left h]
  · have e : (iL ns).length = ns.length := List.length_map ..
    rw [Nat.min_eq_right (by omega), List.take_length, List.take_of_length_le (by rw [List.length_map]; omega)]
theorem absI (z : Int) : (if z < 0 then -z else z) = ((z.natAbs : Nat) : Int) := by split <;> omega
theorem draw_ok (ns : List Int) (salt : Int) (h0 : 0 ≤ salt) (h1 : salt ≤ 1000) : ∃ cs b, Src cs b ∧ v_law_draw [.frz (iL ns), .int salt] = some (dl cs b, .non) := by
  let ks : List Int := (ns.take 48).map fun z => ((z.natAbs : Nat) : Int)
  have lks : ks.length ≤ 48 := by simp only [ks, List.length_map, List.length_take]; omega
  have pks : ∀ z ∈ ks, 0 ≤ z := fun z hz => by
    obtain ⟨y, _, rfl⟩ := List.mem_map.mp hz
    omega
  let E0 : PEnv := [some (.bor [99] (.frz (iL ns))), ow (.int salt), none, none, none]
  have e1 : vLc (viE (vSl (rd [99] 0) voN (voS (vc (.int 48))))) [4] (vbN 4) qYes (vN1 bAbs (vC (vN1 bInt (vC (rd [4] 4) vN)) vN)) E0 = some (.tmp (iL ks), E0) := by
    have := vLc_map (vi := viE (vSl (rd [99] 0) voN (voS (vc (.int 48))))) (js := [4]) (src := []) (b := vbN 4) (g := vN1 bAbs (vC (vN1 bInt (vC (rd [4] 4) vN)) vN)) (e := E0) (e0 := E0) (f := A.int) (fun z : Int => A.int ((z.natAbs : Nat) : Int)) (fun z => [some (.bor [99] (.frz (iL ns))), ow (.int salt), none, none, ow (.int z)]) (xs := ns.take 48)
      (by simp only [viE, vSl, rd, voN, voS, vc, E0, List.getElem?_cons_zero, A.dry, Bool.false_or, pCut48, List.all_cons, List.all_nil, List.contains_cons, beq_self_eq_true, Bool.true_or, Bool.and_self, if_true, seqI, dry_iL]) rfl
      (fun z hz => ⟨rfl, by simp only [vN1, vC, vN, rd, List.getElem?_cons_succ, List.getElem?_cons_zero, A.dry, Bool.true_or, if_true, bInt, bAbs, absI], rfl⟩) (by rw [List.length_take]; omega)
    rw [this]
    simp only [ks, iL, List.map_map]
    rfl
  have m0 : CMulW 104729 salt := wide_mul (a := 20) (b := 20) (by decide) (by omega) (by decide) (by decide) (by decide)
  let E2 : Int → Option Ent → PEnv := fun b x => [some (.bor [99] (.frz (iL ns))), ow (.int salt), ow (.tmp (iL ks)), ow (.int b), x]
  have e3 : ∃ b x, (0 ≤ b ∧ b < 2 ^ 40) ∧ (x = none ∨ ∃ z, x = ow (.int z)) ∧ vfor (viV [2] 2) (vbN 4) (vasg 3 (v2 opMod (vN1 bInt (vC (v2 opAdd (v2 opAdd (v2 pMul (rd [3] 3) (vc (.int 48271))) (v2 opMod (rd [4] 4) (vc (.int 2147483549)))) (vc (.int 11))) vN)) (vc (.int 2147483647)))) (E2 (7919 + 104729 * salt) none) = some (.nx (E2 b x)) := by
    have hv : viV [2] 2 (E2 (7919 + 104729 * salt) none) = some (iL ks, [], E2 (7919 + 104729 * salt) none) := by
      simp only [viV, E2, List.getElem?_cons_succ, List.getElem?_cons_zero, A.dry, Bool.false_or, List.contains_cons, beq_self_eq_true, Bool.true_or, if_true, seqI, dry_iL]
    obtain ⟨r, h1, b, x, hb, hx, rfl⟩ := vloop_inv (b := vbN 4) (src := []) (h := vasg 3 (v2 opMod (vN1 bInt (vC (v2 opAdd (v2 opAdd (v2 pMul (rd [3] 3) (vc (.int 48271))) (v2 opMod (rd [4] 4) (vc (.int 2147483549)))) (vc (.int 11))) vN)) (vc (.int 2147483647))))
      (fun xs e => (∃ l : List Int, xs = iL l) ∧ ∃ b x, (0 ≤ b ∧ b < 2 ^ 40) ∧ (x = none ∨ ∃ z, x = ow (.int z)) ∧ e = E2 b x) (fun r => ∃ b x, (0 ≤ b ∧ b < 2 ^ 40) ∧ (x = none ∨ ∃ z, x = ow (.int z)) ∧ r = .nx (E2 b x)) (by rintro e ⟨_, b, x, hb, hx, rfl⟩; exact ⟨b, x, hb, hx, rfl⟩) (by
        rintro x xs e ⟨⟨l, hl⟩, b, y, hb, hy, rfl⟩
        cases l with
        | nil => cases hl
        | cons z l =>
          cases hl
          have m1 : CMulW b 48271 := wide_mul (a := 41) (b := 20) (by omega) (by decide) (by decide) (by decide) (by decide)
          have p1 : (0 : Int) < 2147483549 := by decide
          have p2 : (0 : Int) < 2147483647 := by decide
          have hb1 : vbN 4 [] (A.int z) (E2 b y) = some (E2 b (ow (.int z))) := by
            rcases hy with rfl | ⟨w, rfl⟩ <;> rfl
          refine ⟨E2 b (ow (.int z)), hb1, .inl ⟨E2 ((b * 48271 + z % 2147483549 + 11) % 2147483647) (ow (.int z)), .inl ?_, ⟨l, rfl⟩, _, _, ⟨Int.emod_nonneg _ (by decide), Int.lt_trans (Int.emod_lt_of_pos _ (by decide)) (by decide)⟩, .inr ⟨z, rfl⟩, rfl⟩⟩
          simp only [E2, vasg, v2, vN1, vC, vN, rd, vc, opMod, opInt, bInt, opAdd, pMul, List.getElem?_cons_succ, List.getElem?_cons_zero, A.dry, Bool.true_or, if_true, if_pos m1, if_pos p1, if_pos p2, kill_o, kill_x, kill_n, kill_b, List.set_cons_succ, List.set_cons_zero]
          rfl) (xs := iL ks) (e := E2 (7919 + 104729 * salt) none) ⟨⟨ks, rfl⟩, _, _, by omega, .inl rfl, rfl⟩
    exact ⟨b, x, hb, hx, by unfold vfor; rw [hv]; exact h1⟩
  obtain ⟨b, x, hb, hx, e3⟩ := e3
  let cs : List Int := (ks.filter fun z => decide ((10 : Int) ^ (18 : Nat) ≤ z)).reverse
  have e4 : vLc (viV [2] 2) [4] (vbN 4) (qB (v2 opGe (rd [4] 4) (v2 opPow (vc (.int 10)) (vc (.int 18))))) (rd [] 4) (E2 b x) = some (.tmp (iL (ks.filter fun z => decide ((10 : Int) ^ (18 : Nat) ≤ z))), E2 b x) := by
    have p10 : CPow 10 18 := ⟨by decide, by decide, by decide⟩
    have := vLc_quiet (vi := viV [2] 2) (js := [4]) (src := []) (b := vbN 4) (u := qB (v2 opGe (rd [4] 4) (v2 opPow (vc (.int 10)) (vc (.int 18))))) (g := rd [] 4) (e := E2 b x) (e0 := E2 b x) (f := A.int) (fun z : Int => decide ((10 : Int) ^ (18 : Nat) ≤ z)) A.int (fun z => E2 b (ow (.int z))) (xs := ks)
      (by simp only [viV, E2, List.getElem?_cons_succ, List.getElem?_cons_zero, A.dry, Bool.false_or, List.contains_cons, beq_self_eq_true, Bool.true_or, if_true, seqI, dry_iL]) (by rcases hx with rfl | ⟨z, rfl⟩ <;> rfl)
      (fun z hz => ⟨rfl, by simp only [qB, v2, rd, vc, E2, List.getElem?_cons_succ, List.getElem?_cons_zero, A.dry, Bool.true_or, if_true, opInt, if_pos p10, opGe]; rfl, fun _ => by simp only [rd, E2, List.getElem?_cons_succ, List.getElem?_cons_zero, A.dry, Bool.true_or, if_true], rfl⟩) (by omega)
    exact this
  refine ⟨cs, b, ⟨hb.1, hb.2, fun c hc => pks c ((List.mem_filter.mp (List.mem_reverse.mp hc)).1), ?_⟩, ?_⟩
  · simp only [cs, List.length_reverse]
    exact Nat.le_trans (List.length_filter_le _ _) lks
  · refine vdefF rfl (e := E2 b x) ?_
    show h_law_draw E0 = _
    have a1 : vasg 2 (vLc (viE (vSl (rd [99] 0) voN (voS (vc (.int 48))))) [4] (vbN 4) qYes (vN1 bAbs (vC (vN1 bInt (vC (rd [4] 4) vN)) vN))) E0 = some (.nx [some (.bor [99] (.frz (iL ns))), ow (.int salt), ow (.tmp (iL ks)), none, none]) := by
      unfold vasg
      rw [e1]
      rfl
    have a2 : vasg 3 (fn (v2 opAdd (vc (.int 7919)) (v2 pMul (vc (.int 104729)) (rd [99] 1)))) [some (.bor [99] (.frz (iL ns))), ow (.int salt), ow (.tmp (iL ks)), none, none] = some (.nx (E2 (7919 + 104729 * salt) none)) := by
      simp only [vasg, fn, nd, v2, vc, rd, pMul, opAdd, if_pos m0, List.getElem?_cons_succ, List.getElem?_cons_zero, A.dry, Bool.true_or, if_true]
      rfl
    unfold h_law_draw
    refine vseq_nx a1 (vseq_nx a2 (vseq_nx e3 ?_))
    have hd : dryL (iL (ks.filter fun z => decide ((10 : Int) ^ (18 : Nat) ≤ z))) = true := dry_iL _
    have hmv : mv 3 (E2 b x) = some (.int b, E2 b x) := rfl
    have hr : vRev (vLc (viV [2] 2) [4] (vbN 4) (qB (v2 opGe (rd [4] 4) (v2 opPow (vc (.int 10)) (vc (.int 18))))) (rd [] 4)) (E2 b x) = some (.tmp (iL cs), E2 b x) := by
      unfold vRev
      rw [e4]
      simp only [pRev, hd, if_true, cs]
      rw [iL, iL, List.map_reverse]
    simp only [vret, vN1, vC, vN, hr, hmv, mkLst]
    rfl
theorem of_ok {cs : List Int} {b : Int} {some_ : A} {xs : List A} (S : Src cs b) (hs : some_ = .tmp xs) (hx : xs ≠ []) (hl : xs.length ≤ 1000000) : ∃ k : Nat, ∃ hk : k < xs.length, ∃ cs' b', Src cs' b' ∧ v_law_of [dl cs b, some_] = Option.some (xs[k], dl cs' b') := by
  subst hs
  obtain ⟨r, cs', b', S', r0, r1, h⟩ := any_ok S (n := (xs.length : Int)) (by have := List.length_pos_iff.mpr hx; omega) (by omega)
  have hk : r.toNat < xs.length := by omega
  refine ⟨r.toNat, hk, cs', b', S', ?_⟩
  refine vdefT (e := [ow (dl cs' b'), Option.some (ptE (.tmp xs))]) rfl ?_ rfl
  have hp : ptE (.tmp xs) = .bor [99] (.tmp xs) := rfl
  show h_law_of [ow (dl cs b), Option.some (ptE (.tmp xs))] = _
  have hi : atI xs r = Option.some xs[r.toNat] := by
    have := atI_nat (List.getElem?_eq_getElem hk)
    rw [show ((r.toNat : Nat) : Int) = r by omega] at this
    exact this
  unfold h_law_of
  rw [hp]
  simp only [vret, v2, rd, vcallD, vC, vN, vN1, bLen, List.getElem?_cons_succ, List.getElem?_cons_zero, A.dry, Bool.false_or, List.all_cons, List.all_nil, List.contains_cons, beq_self_eq_true, Bool.true_or, Bool.and_self, if_true, seqOf, lstOf, h, opIx, hi, kill_o, kill_b, kill_n, List.set_cons_zero]
  rfl
abbrev mixC : VT := qB (v2 pNe (rd [2] 2) (vN1 mkLst vN))
noncomputable abbrev mixB : VS := vexp (vM0 3 aApp (vC (vM0 2 aPopAt (vC (vcallD 0 v_law_any (vC (vN1 bLen (vC (rd [2] 2) vN)) vN)) vN)) vN))
abbrev mixE (cs : List Int) (b : Int) (x : A) (left found : List A) : PEnv := [ow (dl cs b), Option.some (ptE x), ow (.tmp left), ow (.tmp found)]
theorem kill_pt {i : Nat} (hi : i ≠ 99) (x : A) (e : PEnv) : kill i (Option.some (ptE x) :: e) = Option.some (ptE x) :: kill i e := by
  unfold ptE
  split
  · rfl
  · rw [kill_b, if_neg]
    simp
    omega
def mixM (e : PEnv) : Nat := match e[2]? with
  | Option.some (Option.some (Ent.own (A.tmp l))) => l.length
  | _ => 0
theorem erase_map (f : Int → A) : ∀ (xs : List Int) (k : Nat), (xs.map f).eraseIdx k = (xs.eraseIdx k).map f
  | [], _ => rfl
  | x :: xs, 0 => rfl
  | x :: xs, k + 1 => by
    show f x :: (xs.map f).eraseIdx k = f x :: (xs.eraseIdx k).map f
    rw [erase_map f xs k]
theorem ixN_nat' {n i : Nat} (h : i < n) : ixN n (i : Int) = Option.some i := by
  unfold ixN
  rw [if_pos (by omega), if_pos (by omega)]
  simp
theorem mix_cond {cs : List Int} {b : Int} {x : A} (ls fs : List Int) : mixC (mixE cs b x (iL ls) (iL fs)) = Option.some (!ls.isEmpty, mixE cs b x (iL ls) (iL fs)) := by
  simp only [qB, v2, rd, vN1, vN, mkLst, List.getElem?_cons_succ, List.getElem?_cons_zero, A.dry, Bool.false_or, List.contains_cons, beq_self_eq_true, Bool.true_or, if_true, pNe_nil, List.length_nil, Nat.zero_le]
theorem popAt_iL {xs : List Int} {k : Nat} (hk : k < xs.length) (hl : xs.length ≤ 1000000) : aPopAt (iL xs) [.int (k : Int)] = Option.some (iL (xs.eraseIdx k), .int xs[k]) := by
  have e : (iL xs)[k]? = Option.some (.int xs[k]) := by rw [iL, List.getElem?_map, List.getElem?_eq_getElem hk]; rfl
  have e3 : ixN (iL xs).length (k : Int) = Option.some k := ixN_nat' (by rw [iL, List.length_map]; exact hk)
  unfold aPopAt
  simp only [e3, e]
  rw [if_pos ⟨by omega, by omega⟩, iL, iL, erase_map]
theorem app_iL {xs : List Int} {r : Int} (hl : xs.length < 1000000) : aApp (iL xs) [.int r] = Option.some (iL (xs ++ [r]), .non) := by
  unfold aApp
  simp only
  rw [if_pos (size_big (by rw [iL, List.length_map]; omega)), iL, iL, List.map_append]
  rfl
end Vl
/-! one construct after another: functions on values -/
namespace Vl
open PySem PySem.Spec PyProof.Rows L2 Gd Ev Vs
section
variable {g h ga gb gc : VE} {gs : VA} {u w : VT} {e e1 e2 e3 e4 : PEnv} {p q r p0 : A} {ps qs : List A}
theorem x_rd {S : List Nat} {i : Nat} (h1 : e[i]? = some (some (Ent.own p))) (h2 : (p.dry || S.contains i) = true) : rd S i e = some (p, e) := by
  unfold rd
  rw [h1]
  exact if_pos h2
theorem x_rdb {S B : List Nat} {i : Nat} (h1 : e[i]? = some (some (Ent.bor B p))) (h2 : (p.dry || B.all fun j => S.contains j) = true) : rd S i e = some (p, e) := by
  unfold rd
  rw [h1]
  exact if_pos h2
theorem x_mvd {i : Nat} (h1 : e[i]? = some (some (Ent.own p))) (h2 : p.dry = true) : mv i e = some (p, e) := by
  unfold mv
  rw [h1]
  exact if_pos h2
theorem x_mvb {i : Nat} {B : List Nat} (h1 : e[i]? = some (some (Ent.bor B p))) (h2 : p.dry = true) : mv i e = some (p, e) := by
  unfold mv
  rw [h1]
  exact if_pos h2
theorem x_mv {i : Nat} (h1 : e[i]? = some (some (Ent.own p))) (h2 : p.dry = false) (h3 : (kill i e).set i none = e1) : mv i e = some (p, e1) := by
  unfold mv
  rw [h1]
  simp only
  rw [if_neg (by rw [h2]; decide), h3]
theorem x_fl (h1 : g e = some (p, e1)) (h2 : p.dry = true) : fl g e = some (p, e1) := by
  unfold fl
  rw [h1]
  exact if_pos h2
theorem x_fn (h1 : g e = some (p, e1)) (h2 : nd p = true) : fn g e = some (p, e1) := by
  unfold fn
  rw [h1]
  exact if_pos h2
theorem x_2 {o : Ev.F2} (h1 : ga e = some (p, e1)) (h2 : gb e1 = some (q, e2)) (h3 : o p q [] = .ok r []) : v2 o ga gb e = some (r, e2) := by
  unfold v2
  rw [h1]
  simp only
  rw [h2]
  simp only
  rw [h3]
theorem x_N  : vN e = some ([], e) := by
  rfl
theorem x_C (h1 : g e = some (p, e1)) (h2 : gs e1 = some (ps, e2)) : vC g gs e = some (p :: ps, e2) := by
  unfold vC
  rw [h1]
  simp only
  rw [h2]
theorem x_N1 {o : FN} (h1 : gs e = some (ps, e1)) (h2 : o ps [] = .ok r []) : vN1 o gs e = some (r, e1) := by
  unfold vN1
  rw [h1]
  simp only
  rw [h2]
theorem x_qB {b : Bool} (h1 : g e = some (.bl b, e1)) : qB g e = some (b, e1) := by
  unfold qB
  rw [h1]
theorem x_qT {b : Bool} (h1 : g e = some (p, e1)) (h2 : tru p [] = some b) : qT g e = some (b, e1) := by
  unfold qT
  rw [h1]
  simp only
  rw [h2]
theorem x_qNot {b : Bool} (h1 : u e = some (b, e1)) : qNot u e = some (!b, e1) := by
  unfold qNot
  rw [h1]
theorem x_qAndT {z : Option (Bool × PEnv)} (h1 : u e = some (true, e1)) (h2 : w e1 = z) : qAnd u w e = z := by
  unfold qAnd
  rw [h1]
  exact h2
theorem x_qAndF (h1 : u e = some (false, e1)) : qAnd u w e = some (false, e1) := by
  unfold qAnd
  rw [h1]
theorem x_qOrT (h1 : u e = some (true, e1)) : qOr u w e = some (true, e1) := by
  unfold qOr
  rw [h1]
theorem x_qOrF {z : Option (Bool × PEnv)} (h1 : u e = some (false, e1)) (h2 : w e1 = z) : qOr u w e = z := by
  unfold qOr
  rw [h1]
  exact h2
theorem x_qAnd {b c : Bool} (h1 : u e = some (b, e)) (h2 : b = true → w e = some (c, e)) : qAnd u w e = some (b && c, e) := by
  cases b with
  | true => rw [x_qAndT h1 (h2 rfl)]; rfl
  | false => rw [x_qAndF h1]; rfl
theorem x_qOr {b c : Bool} (h1 : u e = some (b, e)) (h2 : b = false → w e = some (c, e)) : qOr u w e = some (b || c, e) := by
  cases b with
  | true => rw [x_qOrT h1]; rfl
  | false => rw [x_qOrF h1 (h2 rfl)]; rfl
theorem x_ifeT {z : Option (A × PEnv)} (h1 : u e = some (true, e1)) (h2 : g e1 = z) : vIf u g h e = z := by
  unfold vIf
  rw [h1]
  exact h2
theorem x_ifeF {z : Option (A × PEnv)} (h1 : u e = some (false, e1)) (h2 : h e1 = z) : vIf u g h e = z := by
  unfold vIf
  rw [h1]
  exact h2
theorem x_And {b c : Bool} (h1 : g e = some (.bl b, e)) (h2 : b = true → h e = some (.bl c, e)) : vAnd g h e = some (.bl (b && c), e) := by
  unfold vAnd
  rw [h1]
  cases b with
  | true => simp only [h2 rfl]; rfl
  | false => rfl
theorem x_Or {b c : Bool} (h1 : g e = some (.bl b, e)) (h2 : b = false → h e = some (.bl c, e)) : vOr g h e = some (.bl (b || c), e) := by
  unfold vOr
  rw [h1]
  cases b with
  | true => rfl
  | false => simp only [h2 rfl]; rfl
theorem x_Not {b : Bool} (h1 : g e = some (.bl b, e1)) : vNot g e = some (.bl (!b), e1) := by
  unfold vNot
  rw [h1]
theorem x_Neg {i : Int} (h1 : g e = some (.int i, e1)) : vNeg g e = some (.int (-i), e1) := by
  unfold vNeg
  rw [h1]
theorem x_Isi {t k : Ty} (h1 : g e = some (p, e1)) (h2 : tyA p [] = some k) : vIsi t g e = some (.bl (k.is t), e1) := by
  unfold vIsi
  rw [h1]
  simp only
  rw [h2]
theorem x_Isi2 {t t2 k : Ty} (h1 : g e = some (p, e1)) (h2 : tyA p [] = some k) : vIsi2 t t2 g e = some (.bl (k.is t || k.is t2), e1) := by
  unfold vIsi2
  rw [h1]
  simp only
  rw [h2]
theorem x_ChainT {o o2 : Ev.F2} {c : A} (h1 : ga e = some (p, e1)) (h2 : gb e1 = some (q, e2)) (h3 : o p q [] = .ok (.bl true) []) (h4 : gc e2 = some (r, e3)) (h5 : o2 q r [] = .ok c []) : vChain o o2 ga gb gc e = some (c, e3) := by
  unfold vChain
  simp only [h1, h2, h3, h4, h5]
theorem x_ChainF {o o2 : Ev.F2} (h1 : ga e = some (p, e1)) (h2 : gb e1 = some (q, e2)) (h3 : o p q [] = .ok (.bl false) []) : vChain o o2 ga gb gc e = some (.bl false, e2) := by
  unfold vChain
  simp only [h1, h2, h3]
theorem x_oN  : voN e = some (none, e) := by
  rfl
theorem x_oS {i : Int} (h1 : g e = some (.int i, e1)) : voS g e = some (some i, e1) := by
  unfold voS
  rw [h1]
theorem x_Sl {lo hi : VO} {l k : Option Int} (h1 : g e = some (p, e1)) (h2 : lo e1 = some (l, e2)) (h3 : hi e2 = some (k, e3)) (h4 : pCut p l k = some q) : vSl g lo hi e = some (q, e3) := by
  unfold vSl
  simp only [h1, h2, h3, h4]
theorem x_Rev (h1 : g e = some (p, e1)) (h2 : pRev p = some q) : vRev g e = some (q, e1) := by
  unfold vRev
  simp only [h1, h2]
theorem x_RevT (h1 : g e = some (.tup ps, e1)) (h2 : dryL ps = true) : vRevT g e = some (.tup ps.reverse, e1) := by
  unfold vRevT
  rw [h1]
  exact if_pos h2
theorem x_LRg1 {j : Int} (h1 : g e = some (.int j, e1)) (h2 : rgOk 0 j) : vLRg1 g e = some (.tmp (rgA 0 j), e1) := by
  unfold vLRg1
  rw [h1]
  exact if_pos h2
theorem x_TRg1 {j : Int} (h1 : g e = some (.int j, e1)) (h2 : rgOk 0 j) : vTRg1 g e = some (.tup (rgA 0 j), e1) := by
  unfold vTRg1
  rw [h1]
  exact if_pos h2
theorem x_lenset {ns : List Int} (h1 : g e = some (p, e1)) (h2 : lstOf p [] = some ps) (h3 : intsOf ps = some ns) (h4 : ns.length ≤ 4000) : vLenSet g e = some (.int ((dedI ns).length : Nat), e1) := by
  unfold vLenSet
  simp only [h1, h2, h3]
  exact if_pos h4
theorem x_Mr {o : Ev.F2} (h1 : g e = some (p, e1)) (h2 : gs e1 = some ([q], e2)) (h3 : o p q [] = .ok r []) : vMr o g gs e = some (r, e2) := by
  unfold vMr
  simp only [h1, h2, h3]
theorem x_M0 {i : Nat} {act : Vs.Act} {xs0 xs ys : List A} (h1 : e[i]? = some (some (Ent.own (.tmp xs0)))) (h2 : gs e = some (qs, e1)) (h3 : e1[i]? = some (some (Ent.own (.tmp xs)))) (h4 : act xs qs = some (ys, r)) (h5 : (kill i e1).set i (some (.own (.tmp ys))) = e2) : vM0 i act gs e = some (r, e2) := by
  unfold vM0
  rw [h1]
  simp only
  rw [h2]
  simp only
  rw [h3]
  simp only
  rw [h4]
  simp only
  rw [h5]
theorem x_M1 {i j0 j : Nat} {k : Int} {gk : VE} {e0 : PEnv} {act : Vs.Act} {xs0 xs zs0 zs ys : List A} (h1 : e[i]? = some (some (Ent.own (.tmp xs0)))) (h2 : gk e = some (.int k, e0)) (h3 : ixN xs0.length k = some j0) (h4 : xs0[j0]? = some (.tmp zs0)) (h5 : gs e = some (qs, e1)) (h6 : e1[i]? = some (some (Ent.own (.tmp xs)))) (h7 : ixN xs.length k = some j) (h8 : xs[j]? = some (.tmp zs)) (h9 : act zs qs = some (ys, r)) (h10 : (kill i e1).set i (some (.own (.tmp (xs.set j (.tmp ys))))) = e2) : vM1 i act gk gs e = some (r, e2) := by
  unfold vM1
  rw [h1, h2]
  simp only
  rw [h3]
  simp only
  rw [h4]
  simp only
  rw [h5]
  simp only
  rw [h6]
  simp only
  rw [h7]
  simp only
  rw [h8]
  simp only
  rw [h9]
  simp only
  rw [h10]
theorem x_call {v : List A → Option (A × A)} {z : A} (h1 : gs e = some (ps, e1)) (h2 : v ps = some (r, z)) : vcall v gs e = some (r, e1) := by
  unfold vcall
  rw [h1]
  simp only
  rw [h2]
theorem x_callK {v : List A → Option (A × A)} {z : A} (h1 : gs e = some (ps, e1)) (h2 : v ps.reverse = some (r, z)) : vcallK v gs e = some (r, e1) := by
  unfold vcallK
  rw [h1]
  simp only
  rw [h2]
theorem x_callD {i : Nat} {v : List A → Option (A × A)} {z : A} (h1 : e[i]? = some (some (Ent.own p0))) (h2 : gs e = some (qs, e1)) (h3 : e1[i]? = some (some (Ent.own p))) (h4 : v (p :: qs) = some (r, z)) (h5 : (kill i e1).set i (some (.own z)) = e2) : vcallD i v gs e = some (r, e2) := by
  unfold vcallD
  rw [h1]
  simp only
  rw [h2]
  simp only
  rw [h3]
  simp only
  rw [h4]
  simp only
  rw [h5]
theorem x_asg {i : Nat} (h1 : g e = some (p, e1)) (h2 : (kill i e1).set i (some (.own p)) = e2) : vasg i g e = some (.nx e2) := by
  unfold vasg
  rw [h1]
  simp only
  rw [h2]
theorem x_asgT {is : List Nat} (h1 : g e = some (.tup ps, e1)) (h2 : ps.length = is.length) (h3 : setOwn is ps e1 = e2) : vasgT is g e = some (.nx e2) := by
  unfold vasgT
  rw [h1]
  simp only
  rw [if_pos h2, h3]
theorem x_par {is : List Nat} (h1 : gs e = some (ps, e1)) (h2 : ps.length = is.length) (h3 : setOwn is ps e1 = e2) : vpar is gs e = some (.nx e2) := by
  unfold vpar
  rw [h1]
  simp only
  rw [if_pos h2, h3]
theorem x_exp (h1 : g e = some (p, e1)) : vexp g e = some (.nx e1) := by
  unfold vexp
  rw [h1]
theorem x_ret (h1 : g e = some (p, e1)) : vret g e = some (.rt p e1) := by
  unfold vret
  rw [h1]
theorem x_ifT {s t : VS} {z : Option PF} (h1 : u e = some (true, e1)) (h2 : s e1 = z) : vif u s t e = z := by
  unfold vif
  rw [h1]
  exact h2
theorem x_ifF {s t : VS} {z : Option PF} (h1 : u e = some (false, e1)) (h2 : t e1 = z) : vif u s t e = z := by
  unfold vif
  rw [h1]
  exact h2
theorem x_set0 {i j : Nat} {k : Int} {gk : VE} {e0 : PEnv} {xs : List A} (h1 : g e = some (p, e1)) (h2 : e1[i]? = some (some (Ent.own (.tmp xs)))) (h3 : gk e1 = some (.int k, e0)) (h4 : ixN xs.length k = some j) (h5 : (kill i e1).set i (some (.own (.tmp (xs.set j p)))) = e2) : vset0 i gk g e = some (.nx e2) := by
  unfold vset0
  rw [h1]
  simp only
  rw [h2, h3]
  simp only
  rw [h4]
  simp only
  rw [h5]
theorem x_for {vi : VI} {b : VB} {src : List Nat} {s : VS} {z : Option PF} (h1 : vi e = some (ps, src, e1)) (h2 : vloop b src s ps e1 = z) : vfor vi b s e = z := by
  unfold vfor
  rw [h1]
  exact h2
theorem x_viV {S : List Nat} {i : Nat} (h1 : e[i]? = some (some (Ent.own p))) (h2 : (p.dry || S.contains i) = true) (h3 : seqI p = some ps) (h4 : dryL ps = true) : viV S i e = some (ps, [], e) := by
  unfold viV
  rw [h1]
  simp only
  rw [if_pos h2, h3]
  simp only
  rw [if_pos h4]
theorem x_viVb {S B : List Nat} {i : Nat} (h1 : e[i]? = some (some (Ent.bor B p))) (h2 : (p.dry || B.all fun j => S.contains j) = true) (h3 : seqI p = some ps) (h4 : dryL ps = true) : viV S i e = some (ps, [], e) := by
  unfold viV
  rw [h1]
  simp only
  rw [if_pos h2, h3]
  simp only
  rw [if_pos h4]
theorem x_viE (h1 : g e = some (p, e1)) (h2 : seqI p = some ps) (h3 : dryL ps = true) : viE g e = some (ps, [], e1) := by
  unfold viE
  rw [h1]
  simp only
  rw [h2]
  simp only
  rw [if_pos h3]
theorem x_viEnum {vi : VI} {src : List Nat} (h1 : vi e = some (ps, src, e1)) : viEnum vi e = some (enumA ps, src, e1) := by
  unfold viEnum
  rw [h1]
theorem x_viRg1 {j : Int} (h1 : g e = some (.int j, e1)) (h2 : -(2 ^ 62) ≤ j ∧ j < 2 ^ 62) : viRg1 g e = some (rgA 0 j, [], e1) := by
  unfold viRg1
  rw [h1]
  exact if_pos h2
theorem x_viRg2 {i j : Int} (h1 : g e = some (.int i, e1)) (h2 : h e1 = some (.int j, e2)) (h3 : (-(2 ^ 62) ≤ i ∧ i < 2 ^ 62) ∧ (-(2 ^ 62) ≤ j ∧ j < 2 ^ 62)) : viRg2 g h e = some (rgA i j, [], e2) := by
  unfold viRg2
  rw [h1]
  simp only
  rw [h2]
  exact if_pos h3
theorem x_viZip (h1 : g e = some (p, e1)) (h2 : h e1 = some (q, e2)) (h3 : lstOf p [] = some ps) (h4 : lstOf q [] = some qs) (h5 : (dryL ps && dryL qs) = true) : viZip g h e = some (zipA ps qs, [], e2) := by
  unfold viZip
  rw [h1]
  simp only
  rw [h2]
  simp only
  split
  · cases h3
  · rw [h3, h4]
    exact if_pos h5
end
end Vl
namespace Vl
open PySem PySem.Spec PyProof.Rows L2 Gd Ev Vs
theorem mix_step {cs : List Int} {b : Int} {x : A} {ls fs : List Int} (S : Src cs b) (h0 : ls ≠ []) (hl : ls.length + fs.length ≤ 1000000) : ∃ cs' b' k, ∃ hk : k < ls.length, Src cs' b' ∧ mixB (mixE cs b x (iL ls) (iL fs)) = Option.some (.nx (mixE cs' b' x (iL (ls.eraseIdx k)) (iL (fs ++ [ls[k]])))) := by
  have l0 := List.length_pos_iff.mpr h0
  obtain ⟨r, cs', b', S', r0, r1, ha⟩ := any_ok S (n := ((ls.length : Nat) : Int)) (by omega) (by omega)
  obtain ⟨k, hk⟩ : ∃ k : Nat, r = (k : Int) := ⟨r.toNat, by omega⟩
  subst hk
  have hk : k < ls.length := by omega
  refine ⟨cs', b', k, hk, S', ?_⟩
  have e1 : vN1 bLen (vC (rd [2] 2) vN) (mixE cs b x (iL ls) (iL fs)) = Option.some (.int ((ls.length : Nat) : Int), mixE cs b x (iL ls) (iL fs)) := x_N1 (x_C (x_rd rfl rfl) x_N) (by simp only [bLen, seqOf, lstOf, iL, List.length_map])
  have pop := popAt_iL hk (by omega)
  have app := app_iL (xs := fs) (r := ls[k]) (by omega)
  have k0 : (kill 0 (mixE cs b x (iL ls) (iL fs))).set 0 (ow (dl cs' b')) = mixE cs' b' x (iL ls) (iL fs) := by
    simp only [kill_o, kill_n, kill_pt (show (0 : Nat) ≠ 99 by decide), List.set_cons_zero]
  have k2 : (kill 2 (mixE cs' b' x (iL ls) (iL fs))).set 2 (ow (.tmp (iL (ls.eraseIdx k)))) = mixE cs' b' x (iL (ls.eraseIdx k)) (iL fs) := by
    simp only [kill_o, kill_n, kill_pt (show (2 : Nat) ≠ 99 by decide), List.set_cons_zero, List.set_cons_succ]
  have k3 : (kill 3 (mixE cs' b' x (iL (ls.eraseIdx k)) (iL fs))).set 3 (ow (.tmp (iL (fs ++ [ls[k]])))) = mixE cs' b' x (iL (ls.eraseIdx k)) (iL (fs ++ [ls[k]])) := by
    simp only [kill_o, kill_n, kill_pt (show (3 : Nat) ≠ 99 by decide), List.set_cons_zero, List.set_cons_succ]
  exact x_exp (x_M0 rfl (x_C (x_M0 rfl (x_C (x_callD rfl (x_C e1 x_N) rfl ha k0) x_N) rfl pop k2) x_N) rfl app k3)
theorem mix_loop {x : A} {xs : List Int} (hl : xs.length ≤ 1000000) {cs : List Int} {b : Int} (S : Src cs b) : ∃ r, vwhile mixC mixB (mixE cs b x (iL xs) []) = Option.some r ∧ ∃ ys cs' b', ys.Perm xs ∧ Src cs' b' ∧ r = .nx (mixE cs' b' x [] (iL ys)) := by
  refine vwhile_inv (fun e => ∃ cs b ls fs, Src cs b ∧ (ls ++ fs).Perm xs ∧ e = mixE cs b x (iL ls) (iL fs)) mixM (fun r => ∃ ys cs' b', ys.Perm xs ∧ Src cs' b' ∧ r = .nx (mixE cs' b' x [] (iL ys))) ?_ ⟨cs, b, xs, [], S, by simp, rfl⟩
  rintro e ⟨cs, b, ls, fs, S, hp, rfl⟩
  have hc := mix_cond (cs := cs) (b := b) (x := x) ls fs
  by_cases hz : ls = []
  · subst hz
    exact .inl ⟨_, hc, fs, cs, b, hp, S, rfl⟩
  · have hi : ls.isEmpty = false := by cases ls with | nil => exact absurd rfl hz | cons _ _ => rfl
    rw [hi] at hc
    have hlen := hp.length_eq
    rw [List.length_append] at hlen
    obtain ⟨cs', b', k, hk, S', h1⟩ := mix_step (x := x) S hz (fs := fs) (by omega)
    refine .inr ⟨_, hc, .inl ⟨_, .inl h1, ⟨cs', b', _, _, S', ?_, rfl⟩, ?_⟩⟩
    · have p1 : (ls.eraseIdx k ++ (fs ++ [ls[k]])).Perm ((ls[k] :: ls.eraseIdx k) ++ fs) := by
        rw [List.cons_append, ← List.append_assoc]
        exact (List.perm_append_singleton _ _)
      exact p1.trans (((L2.erase_perm ls k _ (List.getElem?_eq_getElem hk)).append_right fs).trans hp)
    · show (iL (ls.eraseIdx k)).length < (iL ls).length
      rw [iL, iL, List.length_map, List.length_map, List.length_eraseIdx_of_lt hk]
      omega
theorem mix_start {cs : List Int} {b : Int} {x : A} {xs : List Int} (hx : seqOf x [] = Option.some (iL xs)) : vpar [2, 3] (vC (fn (vN1 bLst (vC (rd [99] 1) vN))) (vC (vN1 mkLst vN) vN)) [ow (dl cs b), Option.some (ptE x), Option.none, Option.none] = Option.some (.nx (mixE cs b x (iL xs) [])) := by
  have hlst : bLst [x] [] = .ok (.tmp (iL xs)) [] := by
    show (match seqOf x [] with | Option.some xs => R.ok (A.tmp xs) ([] : Sto) | Option.none => .no) = _
    rw [hx]
  have hr : rd [99] 1 [ow (dl cs b), Option.some (ptE x), Option.none, Option.none] = Option.some (x, [ow (dl cs b), Option.some (ptE x), Option.none, Option.none]) := by
    unfold rd ptE
    by_cases hd : x.dry = true
    · rw [if_pos hd]; simp [hd]
    · rw [if_neg hd]; simp
  simp only [vpar, vC, fn, vN1, hr, vN, hlst, nd, dry_iL, if_true, mkLst, List.length_nil, Nat.zero_le, List.length_cons, setOwn, kill_o, kill_x, kill_n, kill_pt (show (2 : Nat) ≠ 99 by decide), kill_pt (show (3 : Nat) ≠ 99 by decide), List.set_cons_succ, List.set_cons_zero]
theorem mixed_ok {cs : List Int} {b : Int} {x : A} {xs : List Int} (S : Src cs b) (hx : seqOf x [] = Option.some (iL xs)) (hl : xs.length ≤ 1000000) : ∃ ys cs' b', ys.Perm xs ∧ Src cs' b' ∧ v_law_mixed [dl cs b, x] = Option.some (.tmp (iL ys), dl cs' b') := by
  obtain ⟨r, h1, ys, cs', b', hp, S', rfl⟩ := mix_loop (x := x) hl S
  have m : mv 3 (mixE cs' b' x [] (iL ys)) = Option.some (.tmp (iL ys), [ow (dl cs' b'), Option.some (ptE x), ow (.tmp []), Option.none]) := by
    unfold mv
    simp only [List.getElem?_cons_succ, List.getElem?_cons_zero, A.dry, kill_o, kill_pt (show (3 : Nat) ≠ 99 by decide), kill_n, List.set_cons_succ, List.set_cons_zero]
    rfl
  refine ⟨ys, cs', b', hp, S', vdefT (e := [ow (dl cs' b'), Option.some (ptE x), ow (.tmp []), Option.none]) rfl ?_ rfl⟩
  show h_law_mixed [ow (dl cs b), Option.some (ptE x), Option.none, Option.none] = _
  unfold h_law_mixed
  refine vseq_nx (mix_start hx) (vseq_nx h1 ?_)
  unfold vret
  rw [m]
/-- the numbers below -/
def rgV0 (k : Nat) : List Int := (List.range k).map fun i => ((i : Nat) : Int)
def EE (m k j : Nat) (x : Option Ent) : PEnv := [ow (.int (m : Int)), ow (.int (k : Int)), ow (.int ((m ^ j : Nat) : Int)), x]
theorem s1 (m k : Nat) : vasg 2 (vc (.int 1)) [ow (.int (m : Int)), ow (.int (k : Int)), Option.none, Option.none] = Option.some (.nx (EE m k 0 Option.none)) := by
  unfold EE
  rw [Nat.pow_zero]
  exact x_asg (g := vc (.int 1)) rfl rfl
theorem s2 (m k : Nat) (hk : k ≤ 1000) : viRg1 (rd [99] 1) (EE m k 0 Option.none) = Option.some (rgA 0 (k : Int), [], EE m k 0 Option.none) := by
  refine x_viRg1 (x_rd rfl rfl) ⟨by omega, by omega⟩
theorem s3 (m k : Nat) (x : Option Ent) : vret (mv 2) (EE m k k x) = Option.some (.rt (.int ((m ^ k : Nat) : Int)) (EE m k k x)) := x_ret (x_mvd rfl rfl)
/-- power -/
theorem power_ok {m k : Nat} (hk : k ≤ 1000) (hm : m ≤ 1000) : v_law_power [.int (m : Int), .int (k : Int)] = Option.some (.int ((m ^ k : Nat) : Int), .non) := by
  have big : ∀ j, j ≤ 1000 → ((m ^ j : Nat) : Int).natAbs < 2 ^ 10001 := fun j hj => by
    rw [Int.natAbs_natCast]
    calc m ^ j ≤ (2 ^ 10) ^ j := Nat.pow_le_pow_left (by omega) j
      _ = 2 ^ (10 * j) := by rw [← Nat.pow_mul]
      _ < 2 ^ 10001 := Nat.pow_lt_pow_right (by decide) (by omega)
  obtain ⟨r, h1, x, rfl⟩ := vloop_inv (b := vbN 3) (src := []) (h := vasg 2 (vN1 bInt (vC (v2 pMul (rd [2] 2) (rd [99] 0)) vN))) (fun xs e => ∃ j x, j + xs.length = k ∧ (∃ l : List Int, xs = iL l) ∧ (x = Option.none ∨ ∃ z, x = ow (.int z)) ∧ e = EE m k j x) (fun r => ∃ x, r = .nx (EE m k k x)) (by
      rintro e ⟨j, x, hj, _, _, rfl⟩
      exact ⟨x, by rw [← hj]; rfl⟩) (by
      rintro y ys e ⟨j, x, hj, ⟨l, hl⟩, hx, rfl⟩
      cases l with
      | nil => cases hl
      | cons z l =>
        cases hl
        simp only [List.length_cons] at hj
        have m1 : CMulW ((m ^ j : Nat) : Int) (m : Int) := wide_mul (a := 10001) (b := 11) (big j (by omega)) (by rw [Int.natAbs_natCast]; omega) (by decide) (by decide) (by decide)
        refine ⟨EE m k j (ow (.int z)), by rcases hx with rfl | ⟨w, rfl⟩ <;> rfl, .inl ⟨EE m k (j + 1) (ow (.int z)), .inl ?_, j + 1, _, by omega, ⟨l, rfl⟩, .inr ⟨z, rfl⟩, rfl⟩⟩
        have e1 : ((m ^ j : Nat) : Int) * (m : Int) = ((m ^ (j + 1) : Nat) : Int) := by rw [Nat.pow_succ, Int.natCast_mul]
        exact x_asg (x_N1 (x_C (x_2 (x_rd rfl rfl) (x_rd rfl rfl) (if_pos m1)) x_N) rfl) (by rw [e1]; rcases hx with rfl | ⟨w, rfl⟩ <;> rfl)) (xs := rgA 0 (k : Int)) (e := EE m k 0 Option.none) ⟨0, _, by rw [rgA_len]; omega, ⟨rgV0 k, by unfold rgV0 rgA iL; rw [List.map_map]; simp⟩, .inl rfl, rfl⟩
  refine vdefF rfl (e := EE m k k x) ?_
  show h_law_power [ow (.int (m : Int)), ow (.int (k : Int)), Option.none, Option.none] = _
  unfold h_law_power
  refine vseq_nx (s1 m k) (vseq_nx (x_for (s2 m k hk) h1) (s3 m k x))
end Vl
/-! the basics of the program, as functions on values -/
namespace Vl
open PySem PySem.Spec PyProof.Rows L2 Gd Ev Vs
noncomputable def h_is_whole : VS := (vret (vAnd (vIsi .int (rd [99] 0)) (vNot (vIsi .bl (rd [99] 0)))))
noncomputable def v_is_whole : List A → Option (A × A) := fun ps => if ps.length = 1 then vdef false 0 h_is_whole ps else none
noncomputable def h_is_number : VS := (vret (vAnd (vcall v_is_whole (vC (rd [99] 0) vN)) (v2 opGe (rd [99] 0) (vc (.int 0)))))
noncomputable def v_is_number : List A → Option (A × A) := fun ps => if ps.length = 1 then vdef false 0 h_is_number ps else none
noncomputable def h_is_tuple_of : VS := (vret (vAnd (vIsi .tup (rd [99] 0)) (v2 pEq (vN1 bLen (vC (rd [99] 0) vN)) (rd [99] 1))))
noncomputable def v_is_tuple_of : List A → Option (A × A) := fun ps => if ps.length = 2 then vdef false 0 h_is_tuple_of ps else none
noncomputable def h_is_sequence_of_numbers : VS := (vseq (vif (qNot (qT (vIsi2 .lst .tup (rd [99] 0)))) (vret (vc (.bl false))) vnil)
    (vseq (vfor (viV [99] 0) (vbN 1) (vif (qNot (qT (vcall v_is_number (vC (rd [1] 1) vN)))) (vret (vc (.bl false))) vnil))
    (vret (vc (.bl true)))))
noncomputable def v_is_sequence_of_numbers : List A → Option (A × A) := fun ps => if ps.length = 1 then vdef false 1 h_is_sequence_of_numbers ps else none
noncomputable def h_is_all_below : VS := (vret (v2 pEq (vN1 bSrt (vC (rd [99] 0) vN)) (vLRg1 (vN1 bLen (vC (rd [99] 0) vN)))))
noncomputable def v_is_all_below : List A → Option (A × A) := fun ps => if ps.length = 1 then vdef false 0 h_is_all_below ps else none
/-! an argument is read -/
theorem rd_pt {i : Nat} {e : PEnv} {p : A} (h : e[i]? = some (some (ptE p))) : rd [99] i e = some (p, e) := by
  unfold ptE at h
  by_cases hd : p.dry = true
  · rw [if_pos hd] at h
    exact x_rd h (by rw [hd]; rfl)
  · rw [if_neg hd] at h
    exact x_rdb h (by simp)
def isW (t : Ty) : Bool := t.is .int && !(t.is .bl)
theorem is_whole_ok {p : A} {t : Ty} (h : tyA p [] = some t) : v_is_whole [p] = some (.bl (isW t), .non) := by
  have hr : rd [99] 0 [some (ptE p)] = some (p, [some (ptE p)]) := rd_pt rfl
  refine vdefF rfl (e := [some (ptE p)]) ?_
  exact x_ret (x_And (x_Isi hr h) fun _ => x_Not (x_Isi hr h))
/-- is it a number -/
def isNu : A → Bool
  | .int i => decide (0 ≤ i)
  | _ => false
theorem is_number_ok {p : A} {t : Ty} (h : tyA p [] = some t) : v_is_number [p] = some (.bl (isNu p), .non) := by
  have hr : rd [99] 0 [some (ptE p)] = some (p, [some (ptE p)]) := rd_pt rfl
  refine vdefF rfl (e := [some (ptE p)]) ?_
  have hw := is_whole_ok h
  have : ∃ c, vAnd (vcall v_is_whole (vC (rd [99] 0) vN)) (v2 opGe (rd [99] 0) (vc (.int 0))) [some (ptE p)] = some (.bl (isW t && c), [some (ptE p)]) ∧ (isW t && c) = isNu p := by
    cases p with
    | int i =>
      cases h
      exact ⟨decide (0 ≤ i), x_And (x_call (x_C hr x_N) hw) fun _ => x_2 (o := opGe) (q := .int 0) (e1 := [some (ptE (.int i))]) hr rfl rfl, rfl⟩
    | _ => exact ⟨false, x_And (x_call (x_C hr x_N) hw) fun z => by first | (cases h; cases z; done) | (exfalso; revert h z; unfold tyA; intro h z; cases h), by rw [Bool.and_false]; rfl⟩
  obtain ⟨c, h1, h2⟩ := this
  rw [h2] at h1
  exact x_ret h1
theorem is_tuple_of_no {p : A} {n : Int} {t : Ty} (h : tyA p [] = some t) (ht : t.is .tup = false) : v_is_tuple_of [p, .int n] = some (.bl false, .non) := by
  have hr : rd [99] 0 [some (ptE p), ow (.int n)] = some (p, [some (ptE p), ow (.int n)]) := rd_pt rfl
  refine vdefF rfl (e := [some (ptE p), ow (.int n)]) ?_
  have := x_And (h := v2 pEq (vN1 bLen (vC (rd [99] 0) vN)) (rd [99] 1)) (c := false) (x_Isi (t := .tup) hr h) (fun z => by rw [ht] at z; cases z)
  rw [Bool.and_false] at this
  exact x_ret this
theorem is_tuple_of_tup {xs : List A} {n : Nat} : v_is_tuple_of [.tup xs, .int (n : Int)] = some (.bl (decide (xs.length = n)), .non) := by
  have hr : rd [99] 0 [some (ptE (.tup xs)), ow (.int (n : Int))] = some (.tup xs, [some (ptE (.tup xs)), ow (.int (n : Int))]) := rd_pt rfl
  refine vdefF rfl (e := [some (ptE (.tup xs)), ow (.int (n : Int))]) ?_
  have e1 : decide (((xs.length : Nat) : Int) = (n : Int)) = decide (xs.length = n) := by
    by_cases h : xs.length = n
    · rw [decide_eq_true h, decide_eq_true (by omega)]
    · rw [decide_eq_false h, decide_eq_false (by omega)]
  have h2 : v2 pEq (vN1 bLen (vC (rd [99] 0) vN)) (rd [99] 1) [some (ptE (.tup xs)), ow (.int (n : Int))] = some (.bl (decide (xs.length = n)), [some (ptE (.tup xs)), ow (.int (n : Int))]) := by
    refine x_2 (x_N1 (x_C hr x_N) rfl) (x_rd rfl rfl) ?_
    rw [pEq_int, e1]
  have := x_And (c := decide (xs.length = n)) (x_Isi (t := .tup) (k := .tup) hr rfl) (fun _ => h2)
  exact x_ret this

/-- all numbers of a tuple, of a list -/
theorem isq_loop {x : A} : ∀ {xs : List A} {y : Option Ent}, (∀ z ∈ xs, ∃ t, tyA z [] = some t ∧ z.dry = true) → (y = none ∨ ∃ z, y = ow z) → ∃ r, vloop (vbN 1) [] (vif (qNot (qT (vcall v_is_number (vC (rd [1] 1) vN)))) (vret (vc (.bl false))) vnil) xs [some (ptE x), y] = some r ∧ ((xs.all isNu = true ∧ ∃ y, (y = none ∨ ∃ z, y = ow z) ∧ r = .nx [some (ptE x), y]) ∨ (xs.all isNu = false ∧ ∃ y, r = .rt (.bl false) [some (ptE x), y]))
  | [], y, _, hy => ⟨_, rfl, .inl ⟨rfl, y, hy, rfl⟩⟩
  | z :: zs, y, h, hy => by
    obtain ⟨t, h1, h2⟩ := h z List.mem_cons_self
    have hb : vbN 1 [] z [some (ptE x), y] = some [some (ptE x), ow z] := by
      have hi : itE [] z = some (.own z) := if_pos h2
      show (match itE [] z with | some en => vbT [] [] [] ((kill 1 [some (ptE x), y]).set 1 (some en)) | none => none) = _
      rw [hi]
      rcases hy with rfl | ⟨w, rfl⟩ <;> (simp only [kill_pt (show (1 : Nat) ≠ 99 by decide), kill_x, kill_o, kill_n]; rfl)
    have hc : qNot (qT (vcall v_is_number (vC (rd [1] 1) vN))) [some (ptE x), ow z] = some (!isNu z, [some (ptE x), ow z]) := x_qNot (x_qT (x_call (x_C (x_rd rfl (by simp)) x_N) (is_number_ok h1)) rfl)
    rw [vloop, hb]
    simp only
    cases hn : isNu z with
    | true =>
      rw [hn] at hc
      have hbody : vif (qNot (qT (vcall v_is_number (vC (rd [1] 1) vN)))) (vret (vc (.bl false))) vnil [some (ptE x), ow z] = some (.nx [some (ptE x), ow z]) := x_ifF hc rfl
      rw [hbody]
      obtain ⟨r, h3, h4⟩ := isq_loop (x := x) (xs := zs) (y := ow z) (fun w hw => h w (List.mem_cons_of_mem _ hw)) (.inr ⟨z, rfl⟩)
      refine ⟨r, h3, ?_⟩
      rw [List.all_cons, hn, Bool.true_and]
      exact h4
    | false =>
      rw [hn] at hc
      have hbody : vif (qNot (qT (vcall v_is_number (vC (rd [1] 1) vN)))) (vret (vc (.bl false))) vnil [some (ptE x), ow z] = some (.rt (.bl false) [some (ptE x), ow z]) := x_ifT hc rfl
      rw [hbody]
      refine ⟨_, rfl, .inr ⟨?_, _, rfl⟩⟩
      rw [List.all_cons, hn, Bool.false_and]
theorem is_seq_ok {xs : List A} (h : ∀ z ∈ xs, ∃ t, tyA z [] = some t ∧ z.dry = true) : v_is_sequence_of_numbers [.tup xs] = some (.bl (xs.all isNu), .non) := by
  have hd : dryL xs = true := by
    induction xs with
    | nil => rfl
    | cons x xs ih =>
      obtain ⟨_, _, hx⟩ := h x List.mem_cons_self
      show (x.dry && dryL xs) = true
      rw [hx, ih fun z hz => h z (List.mem_cons_of_mem _ hz)]
      rfl
  have hp : ptE (.tup xs) = .own (.tup xs) := if_pos hd
  have c1 : qNot (qT (vIsi2 .lst .tup (rd [99] 0))) [some (ptE (.tup xs)), none] = some (false, [some (ptE (.tup xs)), none]) := x_qNot (x_qT (x_Isi2 (t := .lst) (t2 := .tup) (k := .tup) (rd_pt rfl) rfl) rfl)
  obtain ⟨r, h1, h2⟩ := isq_loop (x := .tup xs) (xs := xs) (y := none) h (.inl rfl)
  have hv : viV [99] 0 [some (ptE (.tup xs)), none] = some (xs, [], [some (ptE (.tup xs)), none]) := by
    rw [hp]
    exact x_viV rfl (by show ((A.tup xs).dry || _) = true; rw [show (A.tup xs).dry = true from hd]; rfl) rfl hd
  rcases h2 with ⟨h2, y, hy, rfl⟩ | ⟨h2, y, rfl⟩
  · rw [h2]
    refine vdefF rfl (e := [some (ptE (.tup xs)), y]) ?_
    exact vseq_nx (x_ifF c1 rfl) (vseq_nx (x_for hv h1) rfl)
  · rw [h2]
    refine vdefF rfl (e := [some (ptE (.tup xs)), y]) ?_
    exact vseq_nx (x_ifF c1 rfl) (vseq_rt (x_for hv h1))
/-- == of lists of ints -/
theorem eqv_ints (as bs : List Int) : PyData.eqv (.list (as.map PyData.int)) (.list (bs.map PyData.int)) = decide (as = bs) := by
  show PyData.eqvAll _ _ = _
  induction as generalizing bs with
  | nil => cases bs <;> rfl
  | cons a as ih =>
    cases bs with
    | nil => rfl
    | cons b bs =>
      show (PyData.eqv (.int a) (.int b) && PyData.eqvAll _ _) = _
      rw [ih, eqv_int]
      by_cases h1 : a = b <;> by_cases h2 : as = bs <;> simp [h1, h2]
theorem pEq_iL (as bs : List Int) : pEq (.tmp (iL as)) (.tmp (iL bs)) [] = .ok (.bl (decide (as = bs))) [] := by
  simp only [pEq, dP_iL]
  show (if (SeqAt.shaped (.list (as.map PyData.int)) && SeqAt.shaped (.list (bs.map PyData.int))) = true then R.ok (A.bl (PyData.eqv (.list (as.map PyData.int)) (.list (bs.map PyData.int)))) ([] : Sto) else .no) = _
  rw [shaped_iL, shaped_iL, eqv_ints]
  rfl

/-! tuples of numbers -/
theorem nL_iL (xs : List Nat) : nL xs = iL (xs.map fun n : Nat => (n : Int)) := by
  unfold nL iL
  rw [List.map_map]
  rfl
theorem ints_nL (xs : List Nat) : intsOf (nL xs) = some (xs.map fun n : Nat => (n : Int)) := by rw [nL_iL]; exact intsOf_map _
theorem rgA_nL (n : Nat) : rgA 0 (n : Int) = nL (List.range n) := rg_nat n
theorem cast_inj {as bs : List Nat} (h : as.map (fun n : Nat => (n : Int)) = bs.map fun n : Nat => (n : Int)) : as = bs := by
  induction as generalizing bs with
  | nil => cases bs with | nil => rfl | cons _ _ => cases h
  | cons a as ih =>
    cases bs with
    | nil => cases h
    | cons b bs =>
      rw [List.map_cons, List.map_cons, List.cons.injEq] at h
      rw [ih h.2, show a = b by have := h.1; omega]
/-- are they 0, 1, .. in some order -/
theorem below_ok {xs : List Int} : xs.length ≤ 1000000 → v_is_all_below [.tup (iL xs)] = some (.bl (decide (srtI xs = (List.range xs.length).map fun n : Nat => (n : Int))), .non) := fun hl => by
  have hd : ptE (.tup (iL xs)) = .own (.tup (iL xs)) := if_pos (dry_iL xs)
  have hr : rd [99] 0 [some (ptE (.tup (iL xs)))] = some (.tup (iL xs), [some (ptE (.tup (iL xs)))]) := rd_pt rfl
  have ll : (iL xs).length = xs.length := List.length_map ..
  have h1 : vN1 bSrt (vC (rd [99] 0) vN) [some (ptE (.tup (iL xs)))] = some (.tmp (iL (srtI xs)), [some (ptE (.tup (iL xs)))]) := by
    refine x_N1 (x_C hr x_N) ?_
    show (match intsOf (iL xs) with | some ns => R.ok (A.tmp ((srtI ns).map A.int)) ([] : Sto) | none => .no) = _
    rw [show intsOf (iL xs) = some xs from intsOf_map xs]
  have h2 : vLRg1 (vN1 bLen (vC (rd [99] 0) vN)) [some (ptE (.tup (iL xs)))] = some (.tmp (iL ((List.range xs.length).map fun n : Nat => (n : Int))), [some (ptE (.tup (iL xs)))]) := by
    have h3 := x_LRg1 (g := vN1 bLen (vC (rd [99] 0) vN)) (j := ((xs.length : Nat) : Int)) (x_N1 (o := bLen) (x_C hr x_N) (by show R.ok (A.int ((iL xs).length : Nat)) ([] : Sto) = _; rw [ll])) (show RgOk 0 _ from ⟨by omega, by omega, by omega, by omega, by omega⟩)
    rw [h3, rgA_nL, nL_iL]
  refine vdefF rfl (e := [some (ptE (.tup (iL xs)))]) ?_
  exact x_ret (x_2 h1 h2 (by rw [pEq_iL]))
end Vl
/-! three names at once; tuple(range(a, b)) -/
namespace Ev
open PySem PySem.Spec PyProof.Rows L2 Gd
section
variable {X : Cx} {K : PySem.W.Frag} {a b c : Expr} {pos : Pos}
theorem ds_par3 {i j l : Nat} {x y z : Str} {ga : FA} {px py pz pt : Pos} {kt k2 pt2} (hc : X.calm = true) (hN : X.N.Nodup) (hi : X.N[i]? = some x) (hj : X.N[j]? = some y) (hl : X.N[l]? = some z) (hij : i ≠ j) (hil : i ≠ l) (hjl : j ≠ l)
    (hx : X.env.scope.names.lookup x = some .local) (hy : X.env.scope.names.lookup y = some .local) (hz : X.env.scope.names.lookup z = some .local) (ha : PA X [a, b, c] (bOf K ga))
    (hw : swappedStores [.Tuple [.Name x px, .Name y py, .Name z pz] kt pt] (.Tuple [a, b, c] k2 pt2) X.env = pure (some [x, y, z]))
    (hs : swapsWithSole [.Tuple [.Name x px, .Name y py, .Name z pz] kt pt] (.Tuple [a, b, c] k2 pt2) pos.line X.env = pure false := by rfl) :
    PS X (.Assign [.Tuple [.Name x px, .Name y py, .Name z pz] kt pt] (.Tuple [a, b, c] k2 pt2) pos) (sOf K (sPar3 i j l ga)) := by
  refine ps_weak (ps_par3 hc hN hi hj hl hij hil hjl hx hy hz ha hw hs) ?_
  rintro D σ H ⟨μ, st, ρ, S, E, q⟩
  unfold sPar3 at q
  split at q
  · rename_i a1 b1 c1 st1 h1
    refine ⟨μ, st, ρ, [a1, b1, c1], st1, S, E, h1, fun vs μ1 H1 S1 E1 r1 => ?_⟩
    cases r1 with
    | cons r1 r2 =>
      cases r2 with
      | cons r2 r3 =>
        cases r3 with
        | cons r3 r4 =>
          cases r4
          exact ⟨_, _, _, rfl, q _ μ1 H1 S1 ((((E.ext S E1).set r1.1 r1.2).set r2.1 r2.2).set r3.1 r3.2) E1⟩
  · exact q.elim
def fTRg2 (f g : FE) : FE := fun ρ st => match f ρ st with
  | .ok (.int i) st1 => (match g ρ st1 with
    | .ok (.int j) st2 => if rgOk i j then .ok (.tup (rgA i j)) st2 else .no
    | _ => .no)
  | _ => .no
theorem dx_trg2 {e e2 : Expr} {f g : FE} {p p2 pos pos2 : Pos} (hc : X.calm = true) (hm : X.mg "tuple" = none) (hm2 : X.mg "range" = none) (he : PE X e (tOf K f)) (he2 : PE X e2 (tOf K g)) (hg : Gl X "tuple" := by rfl) (hg2 : Gl X "range" := by rfl)
    (na : starEach [e, e2] X.env = (false, eval e X.env) :: starEach [e2] X.env := by rfl) (nb : starEach [e2] X.env = (false, eval e2 X.env) :: starEach [] X.env := by rfl) (hp : (backTo pos2 (starEach [e2] X.env)).any (·.1) = false := by rfl) (na2 : starEach [Expr.Call (.Name "range" p2) [e, e2] [] pos2] X.env = (false, eval (.Call (.Name "range" p2) [e, e2] [] pos2) X.env) :: starEach [] X.env := by rfl) : PE X (.Call (.Name "tuple" p) [.Call (.Name "range" p2) [e, e2] [] pos2] [] pos) (tOf K (fTRg2 f g)) := by
  refine pe_weak (pe_tupRX hc hg hm (prg_2 hg2 hm2 he he2 na nb hp) na2) ?_
  rintro σ H Q ⟨μ, st, ρ, a, st', S, E, h, q⟩
  unfold fTRg2 at h
  split at h
  · rename_i i0 st1 h1
    split at h
    · rename_i j st2 h2
      split at h
      · rename_i hr
        cases h
        refine ⟨μ, st, ρ, _, _, S, E, h1, fun v μ1 H1 S1 E1 r1 f1 => ?_⟩
        refine ⟨μ1, st1, ρ, _, _, S1, E.ext S E1, h2, fun u μ2 H2 S2 E2 r2 f2 => ?_⟩
        exact ⟨i0, j, r1, r2, hr, (q.from (E1.trans E2)).tup S2 (repL_rg i0 j)⟩
      · cases h
    · cases h
  · cases h
end
end Ev
/-! tuple(range(a, b)) -/
namespace Vs
open PySem PySem.Spec PyProof.Rows L2 Gd Ev
def vTRg2 (g h : VE) : VE := fun e => match g e with
  | some (.int i, e1) => (match h e1 with
    | some (.int j, e2) => if rgOk i j then some (.tup (rgA i j), e2) else none
    | _ => none)
  | _ => none
section
variable {S1 S2 T1 T2 : List Nat}
theorem s_fTRg2 {f f2 : FE} {g g2 : VE} (ha : SE S1 T1 f g) (hb : SE S2 T2 f2 g2) : SE [] (T1 ++ T2) (fTRg2 f f2) (vTRg2 g g2) := by
  intro st ρ e F p e' E q
  unfold vTRg2 at q
  split at q
  · rename_i i e1 h1
    split at q
    · rename_i j e2 h2
      split at q
      · rename_i hc
        cases q
        obtain ⟨a, st1, F1, fa, a1, E1, x1, r1, k1⟩ := ha E h1
        obtain ⟨b, st2, F2, fb, a2, E2, x2, r2, k2⟩ := hb E1 h2
        exact ⟨_, st2, F2, [], by unfold fTRg2; rw [a1, r1.int]; simp only; rw [a2, r2.int]; exact if_pos hc, E2, x1.trans x2, .inl (Vr.of_dry (show dryL _ = true from dryL_rg _ _)), Fro.nil⟩
      · cases q
    · cases q
  · cases q
end
end Vs
/-! x[f(..)].append(..): an index that is a call -/
namespace Vs
open PySem PySem.Spec PyProof.Rows L2 Gd Ev
def vM1g (i : Nat) (act : Act) (gk : VE) (gs : VA) : VE := fun e => match gk e with
  | some (.int k, e0) => (match e0[i]? with
    | some (some (.own (.tmp ps0))) => (match ixN ps0.length k with
      | some j0 => (match ps0[j0]? with
        | some (.tmp ys0) => (match gs e0 with
          | some (qs, e1) => (match e1[i]? with
            | some (some (.own (.tmp ps))) => (match ixN ps.length k with
              | some j => (match ps[j]? with
                | some (.tmp ys) => (match act ys qs with
                  | some (ys', r) => some (r, (kill i e1).set i (some (.own (.tmp (ps.set j (.tmp ys'))))))
                  | none => none)
                | _ => none)
              | none => none)
            | _ => none)
          | none => none)
        | _ => none)
      | none => none)
    | _ => none)
  | _ => none
section
variable {S0 T0 T : List Nat}
theorem s_M1g {gg : A → FN} {act : Act} {i : Nat} {fk : FE} {gk : VE} {fs : FA} {gs : VA} (hm : MA gg act) (hq : SE S0 T0 fk gk) (h : SB [] T fs gs) (hi : T.contains i = false := by rfl) : SE [] (T0 ++ (T ++ [i])) (fM gg (f2 opIx (fVar i) fk) fs) (vM1g i act gk gs) := by
  intro st ρ e F p e' E q
  unfold vM1g at q
  split at q
  · rename_i k e0 hk
    split at q
    · rename_i ps0 h0
      split at q
      · rename_i j0 hj0
        split at q
        · rename_i ys0 hy0
          split at q
          · rename_i qs e1 h1
            split at q
            · rename_i ps h2
              split at q
              · rename_i j hj
                split at q
                · rename_i ys hy
                  split at q
                  · rename_i ys' r h3
                    cases q
                    obtain ⟨ka, st0, F0, fk0, kv, E0, x0, kr, kk⟩ := hq E hk
                    cases kr.int
                    obtain ⟨bs, st1, F1, fb, a1, E1, x1, r1, k1⟩ := h E0 h1
                    obtain ⟨l0, as0, m0, bs0, fq0, b1, b2, b2', b3, P0⟩ := Plc.one E0 h0 hy0
                    obtain ⟨l, as, m, bs1, fq, c1, c2, c2', c3, P⟩ := Plc.one E1 h2 hy
                    obtain rfl : l0 = l := by rw [b1] at c1; cases c1; rfl
                    have hiT : i ∉ T := fun z => by
                      have := List.contains_iff_mem.mpr z
                      rw [hi] at this
                      cases this
                    obtain ⟨l', as', fq', d1, d2, d3, d4⟩ := E0.slotL h0
                    obtain rfl : l0 = l' := by rw [b1] at d1; cases d1; rfl
                    have lF : l0 ∈ F0 i := by rw [d3]; exact List.mem_cons_self
                    have same : st1[l0]? = st0[l0]? := x1.fr l0 (E0.lt i l0 lF) fun n hn z => E0.dj i n l0 (fun y => hiT (y ▸ hn)) lF z
                    rw [c2, b2] at same
                    cases same
                    have ej : j = j0 := by
                      rw [← c2'] at hj
                      rw [← b2'] at hj0
                      rw [hj] at hj0
                      exact Option.some.inj hj0
                    subst ej
                    rw [c3] at b3
                    cases b3
                    obtain ⟨a, as'', f, fr, g1, g2, g3, g4, g5⟩ := plc_act hm E1 x1 P r1 k1 h3
                    refine ⟨a, _, _, fr, ?_, g2, x0.trans g3, .inl g4, ?_⟩
                    · unfold fM f2
                      rw [fVar_of b1]
                      simp only
                      rw [kv]
                      simp only
                      rw [opIx_loc b2 (by rw [b2']; exact hj0) c3]
                      simp only
                      rw [if_pos (by unfold isL Ev.lstOf; simp only [P0.at_]; rfl), a1]
                      exact g1
                    · exact Fro.from x0 g5
                  · cases q
                · cases q
              · cases q
            · cases q
          · cases q
        · cases q
      · cases q
    · cases q
  · cases q
end
end Vs
/-! what many laws use: numbers, tuples of numbers, counted loops, draws within a law's body (taken from law k47) -/
namespace Vl
open PySem PySem.Spec PyProof.Rows L2 Gd Ev Vs
def ins (x : Nat) : List Nat → List Nat
  | [] => [x]
  | y :: ys => if x ≤ y then x :: y :: ys else y :: ins x ys
def isrt : List Nat → List Nat
  | [] => []
  | x :: xs => ins x (isrt xs)
theorem ins_perm (x : Nat) : ∀ ys, (ins x ys).Perm (x :: ys)
  | [] => List.Perm.refl _
  | y :: ys => by
    rw [ins]
    split
    · exact List.Perm.refl _
    · exact ((ins_perm x ys).cons y).trans (List.Perm.swap x y ys)
theorem isrt_perm : ∀ xs, (isrt xs).Perm xs
  | [] => List.Perm.refl _
  | x :: xs => (ins_perm x _).trans ((isrt_perm xs).cons x)
theorem ins_pair (x : Nat) : ∀ {ys}, ys.Pairwise (· ≤ ·) → (ins x ys).Pairwise (· ≤ ·)
  | [], _ => List.pairwise_singleton _ _
  | y :: ys, h => by
    rw [ins]
    have h2 := List.pairwise_cons.mp h
    split
    · rename_i hxy
      exact List.pairwise_cons.mpr ⟨fun z hz => by
        rcases List.mem_cons.mp hz with rfl | hz
        · exact hxy
        · exact Nat.le_trans hxy (h2.1 z hz), h⟩
    · rename_i hxy
      exact List.pairwise_cons.mpr ⟨fun z hz => by
        rcases List.mem_cons.mp ((ins_perm x ys).mem_iff.mp hz) with rfl | hz
        · omega
        · exact h2.1 z hz, ins_pair x h2.2⟩
theorem isrt_pair : ∀ xs, (isrt xs).Pairwise (· ≤ ·)
  | [] => List.Pairwise.nil
  | x :: xs => ins_pair x (isrt_pair xs)
theorem isrt_cast (xs : List Nat) : srtI (xs.map fun n : Nat => (n : Int)) = (isrt xs).map fun n : Nat => (n : Int) := by
  refine (srtI_of ((isrt_perm xs).map _) ?_).symm
  exact List.pairwise_map.mpr ((isrt_pair xs).imp fun h => by omega)
theorem zip_le : ∀ {row : List Nat}, row.Pairwise (· ≤ ·) → ∀ p ∈ row.zip (row.drop 1), p.1 ≤ p.2
  | [], _, p, hp => by cases hp
  | [x], _, p, hp => by cases hp
  | x :: y :: r, h, p, hp => by
    have h2 := List.pairwise_cons.mp h
    rcases List.mem_cons.mp (show p ∈ (x, y) :: (y :: r).zip ((y :: r).drop 1) from hp) with rfl | hp
    · exact h2.1 y List.mem_cons_self
    · exact zip_le h2.2 p hp
theorem sum_cast (xs : List Nat) : (xs.map fun n : Nat => (n : Int)).sum = ((xs.sum : Nat) : Int) := by
  induction xs with
  | nil => rfl
  | cons x xs ih => rw [List.map_cons, List.sum_cons, List.sum_cons, ih]; omega
theorem sum_add {α : Type} (f g : α → Nat) (xs : List α) : (xs.map fun x => f x + g x).sum = (xs.map f).sum + (xs.map g).sum := by
  induction xs with
  | nil => rfl
  | cons x xs ih => rw [List.map_cons, List.map_cons, List.map_cons, List.sum_cons, List.sum_cons, List.sum_cons, ih]; omega
theorem sum_swap {α β : Type} (f : α → β → Nat) (ys : List β) : ∀ (xs : List α), (xs.map fun x => (ys.map (f x)).sum).sum = (ys.map fun y => (xs.map fun x => f x y).sum).sum
  | [] => by
    induction ys with
    | nil => rfl
    | cons y ys ih => rw [List.map_cons, List.sum_cons, ← ih]; rfl
  | x :: xs => by
    rw [List.map_cons, List.sum_cons, sum_swap f ys xs, ← sum_add]
    rfl
theorem o_shl {n : Nat} (h : n ≤ 1000000) : opShl (.int 1) (.int (n : Int)) [] = .ok (.int ((2 ^ n : Nat) : Int)) [] := by
  have c : CPow 1 (n : Int) := ⟨by omega, by omega, by decide⟩
  show (if CPow 1 (n : Int) then R.ok (A.int (1 * 2 ^ (n : Int).toNat)) ([] : Sto) else .no) = _
  rw [if_pos c, Int.one_mul, Int.toNat_natCast]
  congr 2
theorem o_shr {a n : Nat} : opShr (.int (a : Int)) (.int (n : Int)) [] = .ok (.int ((a / 2 ^ n : Nat) : Int)) [] := by
  show (if 0 ≤ (n : Int) then R.ok (A.int ((a : Int) / 2 ^ (n : Int).toNat)) ([] : Sto) else .no) = _
  rw [if_pos (by omega), Int.toNat_natCast]
  congr 2
theorem o_sub {a b : Nat} (h : b ≤ a) : opSub (.int (a : Int)) (.int (b : Int)) [] = .ok (.int ((a - b : Nat) : Int)) [] := by
  show R.ok (A.int ((a : Int) - (b : Int))) ([] : Sto) = _
  rw [Int.ofNat_sub h]
theorem o_add {a b : Nat} : opAdd (.int (a : Int)) (.int (b : Int)) [] = .ok (.int ((a + b : Nat) : Int)) [] := by
  show R.ok (A.int ((a : Int) + (b : Int))) ([] : Sto) = _
  rw [Int.natCast_add]
theorem o_div {a b : Nat} (h : 0 < b) (hb : b < 2 ^ 64) : opDiv (.int (a : Int)) (.int (b : Int)) [] = .ok (.int ((a / b : Nat) : Int)) [] := by
  have c : CDivW (a : Int) (b : Int) := wide_div (by omega) (b := 64) (by omega) (by decide) (by decide)
  show (if CDivW (a : Int) (b : Int) then R.ok (A.int ((a : Int) / (b : Int))) ([] : Sto) else .no) = _
  rw [if_pos c, Int.natCast_ediv]
theorem at_nL {xs : List Nat} {i : Nat} (h : i < xs.length) : atI (nL xs) (i : Int) = some (.int ((xs.getD i 0 : Nat) : Int)) := by
  refine atI_nat ?_
  show (xs.map fun n : Nat => A.int (n : Int))[i]? = _
  rw [List.getElem?_map, List.getElem?_eq_getElem h, List.getD_eq_getElem?_getD, List.getElem?_eq_getElem h]
  rfl
theorem o_ix {xs : List Nat} {i : Nat} (h : i < xs.length) : opIx (.tmp (nL xs)) (.int (i : Int)) [] = .ok (.int ((xs.getD i 0 : Nat) : Int)) [] := by
  show (match atI (nL xs) (i : Int) with | some x => R.ok x ([] : Sto) | none => .no) = _
  rw [at_nL h]
theorem o_ixt {xs : List Nat} {i : Nat} (h : i < xs.length) : opIx (.tup (nL xs)) (.int (i : Int)) [] = .ok (.int ((xs.getD i 0 : Nat) : Int)) [] := by
  show (match atI (nL xs) (i : Int) with | some x => R.ok x ([] : Sto) | none => .no) = _
  rw [at_nL h]
theorem nL_len (xs : List Nat) : (nL xs).length = xs.length := List.length_map ..
theorem o_lent (xs : List Nat) : bLen [.tup (nL xs)] [] = .ok (.int ((xs.length : Nat) : Int)) [] := by
  show R.ok (A.int ((nL xs).length : Nat)) ([] : Sto) = _
  rw [nL_len]
theorem o_lenm (xs : List Nat) : bLen [.tmp (nL xs)] [] = .ok (.int ((xs.length : Nat) : Int)) [] := by
  show R.ok (A.int ((nL xs).length : Nat)) ([] : Sto) = _
  rw [nL_len]
theorem o_tup (xs : List A) : bTup [.tmp xs] [] = .ok (.tup xs) [] := rfl
theorem nL_app {xs : List Nat} {r : Nat} (h : xs.length < 1000000) : aApp (nL xs) [.int (r : Int)] = some (nL (xs ++ [r]), .non) := by
  unfold aApp
  simp only
  rw [if_pos (size_big (by rw [nL_len]; omega)), nL, nL, List.map_append]
  rfl
theorem dry_nL (xs : List Nat) : dryL (nL xs) = true := dryL_map fun _ _ => rfl
theorem nL_map {α : Type} (f : α → Nat) (xs : List α) : (xs.map fun x => A.int ((f x : Nat) : Int)) = nL (xs.map f) := by
  unfold nL
  rw [List.map_map]
  rfl
theorem mul2 {n : Nat} (h : n < 2 ^ 60) : pMul (.int 2) (.int (n : Int)) [] = .ok (.int ((2 * n : Nat) : Int)) [] := by
  have c : CMulW 2 (n : Int) := wide_mul (a := 2) (b := 60) (by decide) (by omega) (by decide) (by decide) (by decide)
  show (if CMulW 2 (n : Int) then R.ok (A.int (2 * (n : Int))) ([] : Sto) else .no) = _
  rw [if_pos c]
  congr 2
def In (y : Option Ent) : Prop := y = none ∨ ∃ z : Int, y = ow (.int z)
theorem zeros (n : Nat) : (List.replicate n [A.int 0]).flatten = nL (List.replicate n 0) := by
  induction n with
  | zero => rfl
  | succ n ih => rw [List.replicate_succ, List.flatten_cons, ih, List.replicate_succ]; rfl
theorem o_zeros {n : Nat} (h : n ≤ 1000) : pMul (.tmp [.int 0]) (.int (n : Int)) [] = .ok (.tmp (nL (List.replicate n 0))) [] := by
  have c : dryL [A.int 0] = true ∧ -(2 ^ 63) ≤ (n : Int) ∧ (n : Int) < 2 ^ 63 ∧ [A.int 0].length * (n : Int).toNat ≤ sizeLine := ⟨rfl, by omega, by omega, by
    have := size_big (n := n) (by omega)
    simp only [List.length_cons, List.length_nil, Int.toNat_natCast]
    omega⟩
  simp only [pMul]
  rw [if_pos c, Int.toNat_natCast, zeros]
theorem nL_set (xs : List Nat) (i v : Nat) : (nL xs).set i (.int (v : Int)) = nL (xs.set i v) := by
  unfold nL
  rw [List.map_set]
theorem ptN (xs : List Nat) : ptE (.tup (nL xs)) = .own (.tup (nL xs)) := if_pos (dry_nL xs)
theorem fold_fst {α β γ : Type} {f : β → α → β} {g : γ → α → γ} {p : β → γ} (h : ∀ b a, p (f b a) = g (p b) a) : ∀ (xs : List α) (b : β), p (xs.foldl f b) = xs.foldl g (p b)
  | [], _ => rfl
  | x :: xs, b => by rw [List.foldl_cons, List.foldl_cons, fold_fst h xs, h]
theorem bitOr_nat (a b : Nat) : Builtin.bitOr (a : Int) (b : Int) = ((a ||| b : Nat) : Int) := by
  unfold Builtin.bitOr
  have h : ¬ (0 ≤ -(a : Int) - 1) := by omega
  have h2 : ¬ (0 ≤ -(b : Int) - 1) := by omega
  simp only [Builtin.bitAnd, Builtin.bitNot, h, h2, decide_false]
  have e1 : (-(-(a : Int) - 1) - 1).toNat = a := by omega
  have e2 : (-(-(b : Int) - 1) - 1).toNat = b := by omega
  rw [e1, e2]
  omega
theorem o_bor (a b : Nat) : opBOr (.int (a : Int)) (.int (b : Int)) [] = .ok (.int ((a ||| b : Nat) : Int)) [] := by
  show R.ok (A.int (Builtin.bitOr (a : Int) (b : Int))) ([] : Sto) = _
  rw [bitOr_nat]
theorem vloop_foldn {α β : Type} {b : VB} {src : List Nat} {h : VS} {f : α → A} (env : β → PEnv) (step : β → α → β) (I : Nat → β → Prop) : ∀ {xs : List α} {n : Nat} {s : β}, I n s → (∀ i x s, xs[i]? = some x → I (n + i) s → I (n + i + 1) (step s x) ∧ ∃ e1, b src (f x) (env s) = some e1 ∧ h e1 = some (.nx (env (step s x)))) → vloop b src h (xs.map f) (env s) = some (.nx (env (xs.foldl step s)))
  | [], _, s, _, _ => rfl
  | x :: xs, n, s, i, hs => by
    obtain ⟨i2, e1, h1, h2⟩ := hs 0 x s rfl i
    rw [List.map_cons, vloop, h1]
    simp only
    rw [List.foldl_cons, ← vloop_foldn env step I (n := n + 1) i2 fun k y t hk ht => by
      have := hs (k + 1) y t hk (by rw [show n + (k + 1) = n + 1 + k by omega]; exact ht)
      rw [show n + (k + 1) + 1 = n + 1 + k + 1 by omega] at this
      exact this]
    rw [h2]
theorem tdry (lay : List Nat) (b : Bool) : ((A.tup (nL lay)).dry || b) = true := by
  rw [show (A.tup (nL lay)).dry = true from dry_nL lay]
  rfl
theorem rg_map (n : Nat) : rgA 0 (n : Int) = (List.range n).map fun i : Nat => A.int (i : Int) := rgA_nL n
theorem rg_in {n : Nat} (h : n ≤ 1000000) : -(2 ^ 62) ≤ (n : Int) ∧ (n : Int) < 2 ^ 62 := ⟨by omega, by omega⟩
theorem zip_range (lay : List Nat) : lay.zipIdx = (List.range lay.length).map fun i => (lay.getD i 0, i) := by
  refine List.ext_getElem (by simp) fun i h1 h2 => ?_
  rw [List.length_zipIdx] at h1
  rw [List.getElem_zipIdx, List.getElem_map, List.getElem_range, List.getD_eq_getElem?_getD, List.getElem?_eq_getElem h1]
  simp
theorem getD_map_range {f : Nat → Nat} {n i : Nat} (h : i < n) : ((List.range n).map f).getD i 0 = f i := by
  rw [List.getD_eq_getElem?_getD, List.getElem?_map, List.getElem?_range h]
  rfl
theorem getD_app {xs ys : List Nat} {i : Nat} (h : i < xs.length) : (xs ++ ys).getD i 0 = xs.getD i 0 := by
  rw [List.getD_eq_getElem?_getD, List.getD_eq_getElem?_getD, List.getElem?_append_left h]
theorem rg1_map {n : Nat} (h : 1 ≤ n) : rgA 1 (n : Int) = (List.range (n - 1)).map fun i : Nat => A.int ((i + 1 : Nat) : Int) := by
  unfold rgA
  rw [show ((n : Int) - 1).toNat = n - 1 by omega]
  refine List.map_congr_left fun i _ => ?_
  congr 1
  omega
theorem cut_nL (cs : List Nat) {a : Nat} (ha : a ≤ cs.length) : pCut (.tmp (nL cs)) (some (a : Int)) none = some (.tmp (nL (cs.drop a))) := by
  unfold pCut
  simp only [dry_nL, if_true]
  congr 2
  unfold cutA
  rw [show HT.sIx (nL cs).length 0 (some (a : Int)) = min a (nL cs).length from HT.sIx_nat _ _ a, show HT.sIx (nL cs).length (nL cs).length none = (nL cs).length from rfl]
  rw [nL_len, Nat.min_eq_left ha]
  rw [show (nL cs).drop a = nL (cs.drop a) by unfold nL; rw [List.map_drop]]
  rw [List.take_of_length_le (by rw [nL_len, List.length_drop]; omega)]
theorem dbl_range (f : Nat → Nat) : ∀ n, ((List.range n).map f).flatMap (fun k => [k, k]) = (List.range (2 * n)).map fun e => f (e / 2)
  | 0 => rfl
  | n + 1 => by
    rw [List.range_succ, List.map_append, List.flatMap_append, dbl_range f n, show 2 * (n + 1) = 2 * n + 1 + 1 by omega, List.range_succ, List.range_succ, List.map_append, List.map_append, List.append_assoc]
    congr 1
    show [f n, f n] = [f (2 * n / 2), f ((2 * n + 1) / 2)]
    rw [show 2 * n / 2 = n by omega, show (2 * n + 1) / 2 = n by omega]
theorem zipA_nL : ∀ (xs ys : List Nat), zipA (nL xs) (nL ys) = (xs.zip ys).map fun p : Nat × Nat => A.pr (.int (p.1 : Int)) (.int (p.2 : Int))
  | [], ys => by cases ys <;> rfl
  | x :: xs, [] => rfl
  | x :: xs, y :: ys => by
    show A.pr _ _ :: zipA (nL xs) (nL ys) = _
    rw [zipA_nL xs ys]
    rfl
theorem o_addI {a b : Nat} : opAddI (.int (a : Int)) (.int (b : Int)) [] = .ok (.int ((a + b : Nat) : Int)) [] := by
  show R.ok (A.int ((a : Int) + (b : Int))) ([] : Sto) = _
  rw [Int.natCast_add]
theorem o_min {a b : Nat} : bMin [.int (a : Int), .int (b : Int)] [] = .ok (.int ((min a b : Nat) : Int)) [] := by
  show R.ok (A.int (if (b : Int) < (a : Int) then (b : Int) else (a : Int))) ([] : Sto) = _
  congr 2
  split <;> omega
theorem o_sum (xs : List Nat) : bSum [.tmp (nL xs)] [] = .ok (.int ((xs.sum : Nat) : Int)) [] := by
  show (match intsOf (nL xs) with | some ns => R.ok (A.int ns.sum) ([] : Sto) | none => .no) = _
  rw [ints_nL]
  simp only
  rw [sum_cast]
theorem o_sumt (xs : List Nat) : bSum [.tup (nL xs)] [] = .ok (.int ((xs.sum : Nat) : Int)) [] := by
  show (match intsOf (nL xs) with | some ns => R.ok (A.int ns.sum) ([] : Sto) | none => .no) = _
  rw [ints_nL]
  simp only
  rw [sum_cast]
theorem o_srt (xs : List Nat) : bSrt [.tmp (nL xs)] [] = .ok (.tmp (nL (isrt xs))) [] := by
  show (match intsOf (nL xs) with | some ns => R.ok (A.tmp ((srtI ns).map A.int)) ([] : Sto) | none => .no) = _
  rw [ints_nL]
  simp only
  rw [isrt_cast]
  congr 2
  unfold nL
  rw [List.map_map]
  rfl
def dt (z : A) : Prop := ∃ t, tyA z [] = some t ∧ z.dry = true
theorem perm_cast {as bs : List Nat} (h : (as.map fun n : Nat => (n : Int)).Perm (bs.map fun n : Nat => (n : Int))) : as.Perm bs := by
  have := h.map Int.toNat
  rw [List.map_map, List.map_map] at this
  have e : ∀ xs : List Nat, xs.map (Int.toNat ∘ fun n : Nat => (n : Int)) = xs := fun xs => by
    rw [show (Int.toNat ∘ fun n : Nat => (n : Int)) = id from funext fun n => Int.toNat_natCast n, List.map_id]
  rw [e, e] at this
  exact this
theorem below_nL {ns : List Nat} (hl : ns.length ≤ 1000000) : ∃ c : Bool, (c = true ↔ ns.Perm (List.range ns.length)) ∧ v_is_all_below [.tup (nL ns)] = some (.bl c, .non) := by
  have := below_ok (xs := ns.map fun n : Nat => (n : Int)) (by rw [List.length_map]; exact hl)
  rw [← nL_iL, List.length_map] at this
  refine ⟨_, ?_, this⟩
  rw [decide_eq_true_iff]
  refine ⟨fun e => ?_, fun p => ?_⟩
  · have h1 := srtI_perm (ns.map fun n : Nat => (n : Int))
    rw [e] at h1
    exact (perm_cast h1).symm
  · refine (srtI_of ((p.map _).symm) ?_).symm
    exact List.pairwise_map.mpr ((List.pairwise_lt_range).imp fun h => by omega)
theorem all_nL (ns : List Nat) : (nL ns).all isNu = true := by
  unfold nL
  rw [List.all_map]
  exact List.all_eq_true.mpr fun x _ => show decide (0 ≤ (x : Int)) = true from decide_eq_true (by omega)
theorem dt_nL (ns : List Nat) : ∀ z ∈ nL ns, dt z := by
  intro z hz
  obtain ⟨n, _, rfl⟩ := List.mem_map.mp hz
  exact ⟨.int, rfl, rfl⟩
abbrev E (x D : A) (r : PEnv) : PEnv := Option.some (ptE x) :: ow D :: r
def Ok (y : Option Ent) : Prop := y = none ∨ ∃ p, y = ow p
def Okl : PEnv → Prop
  | [] => True
  | y :: r => Ok y ∧ Okl r
theorem kill_okl {i : Nat} : ∀ {r : PEnv}, Okl r → kill i r = r
  | [], _ => rfl
  | y :: r, h => by
    rcases h.1 with rfl | ⟨p, rfl⟩
    · rw [kill_x, kill_okl h.2]
    · rw [kill_o, kill_okl h.2]
theorem kill_E {i : Nat} (hi : i ≠ 99) {x D : A} {r : PEnv} (hr : Okl r) : kill i (E x D r) = E x D r := by
  rw [E, kill_pt hi, kill_o, kill_okl hr]
theorem asgE {i : Nat} (hi : i + 2 ≠ 99) {x D D' : A} {r : PEnv} {g : VE} {p : A} (hr : Okl r) (h : g (E x D r) = some (p, E x D' r)) : vasg (i + 2) g (E x D r) = some (.nx (E x D' (r.set i (ow p)))) := by
  refine x_asg h ?_
  rw [kill_E hi hr]
  rfl
theorem anyD {x : A} {cs cs1 : List Int} {b b1 : Int} {n : Nat} {r : PEnv} {g : VE} (S : Src cs1 b1) (hr : Okl r) (hg : g (E x (dl cs b) r) = some (.int (n : Int), E x (dl cs1 b1) r)) (n0 : 0 < n) (n1 : n < 2 ^ 60) : ∃ (k : Nat) (cs' : List Int) (b' : Int), Src cs' b' ∧ k < n ∧ vcallD 1 v_law_any (vC g vN) (E x (dl cs b) r) = some (.int (k : Int), E x (dl cs' b') r) := by
  obtain ⟨k, cs', b', S', k0, k1, h⟩ := any_ok S (n := (n : Int)) (by omega) (by omega)
  refine ⟨k.toNat, cs', b', S', by omega, ?_⟩
  rw [show ((k.toNat : Nat) : Int) = k by omega]
  refine x_callD (p0 := dl cs b) rfl (x_C hg x_N) rfl (by exact h) ?_
  rw [kill_E (by decide) hr]
  rfl
theorem perm_nat {n : Nat} {ys : List Int} (h : ys.Perm ((List.range n).map fun n : Nat => (n : Int))) : ∃ lay : List Nat, iL ys = nL lay ∧ lay.Perm (List.range n) := by
  have hy : (ys.map Int.toNat).map (fun n : Nat => (n : Int)) = ys := by
    rw [List.map_map]
    conv => rhs; rw [← List.map_id ys]
    refine List.map_congr_left fun y hy => ?_
    obtain ⟨m, _, rfl⟩ := List.mem_map.mp (h.mem_iff.mp hy)
    show (((m : Int).toNat : Nat) : Int) = (m : Int)
    rw [Int.toNat_natCast]
  refine ⟨ys.map Int.toNat, by rw [nL_iL, hy], perm_cast ?_⟩
  rw [hy]
  exact h
theorem mixD {x : A} {cs : List Int} {b : Int} {n : Nat} {r : PEnv} {g : VE} (S : Src cs b) (hr : Okl r) (hg : g (E x (dl cs b) r) = some (.int (n : Int), E x (dl cs b) r)) (n1 : n ≤ 1000) : ∃ (lay : List Nat) (cs' : List Int) (b' : Int), Src cs' b' ∧ lay.Perm (List.range n) ∧ vcallD 1 v_law_mixed (vC (vLRg1 g) vN) (E x (dl cs b) r) = some (.tmp (nL lay), E x (dl cs' b') r) := by
  obtain ⟨ys, cs', b', hp, S', h⟩ := mixed_ok (x := .tmp (rgA 0 (n : Int))) (xs := (List.range n).map fun n : Nat => (n : Int)) S (by rw [rgA_nL, nL_iL]; rfl) (by rw [List.length_map, List.length_range]; omega)
  obtain ⟨lay, e, hp⟩ := perm_nat hp
  rw [e] at h
  refine ⟨lay, cs', b', S', hp, ?_⟩
  refine x_callD (p0 := dl cs b) rfl (x_C (x_LRg1 hg (show RgOk 0 _ from ⟨by omega, by omega, by omega, by omega, by omega⟩)) x_N) rfl (by exact h) ?_
  rw [kill_E (by decide) hr]
  rfl
theorem dP_tup (ds : List Nat) : dP (.tup (nL ds)) = some (dN ds) := by
  rw [nL_iL]
  unfold dP
  have : lv 2 (.tup (iL (ds.map fun n : Nat => (n : Int)))) = true := lvL_iL 2 _
  rw [if_pos this]
  show (dWs _ (iL (ds.map fun n : Nat => (n : Int)))).map PyData.tuple = _
  rw [dWs_iL]
  unfold dN
  rw [Option.map_some, List.map_map]
  rfl
theorem reprN {xs : List Nat} (h : ∀ x ∈ xs, x ≤ 999999999999) (hl : xs.length ≤ 20000) : pRepr [.tup (nL xs)] [] = .ok (.str (dN xs).shown) [] := by
  unfold pRepr
  simp only [dP_tup]
  exact if_pos (repr_dN h hl)
theorem pNe_same (s : Str) : pNe (.str s) (.str s) [] = .ok (.bl false) [] := by rw [pNe_str, decide_eq_true rfl]; rfl
theorem o_cat {xs ys : List A} (h : xs.length + ys.length ≤ 1000000) : opAdd (.tup xs) (.tup ys) [] = .ok (.tup (xs ++ ys)) [] := by
  have := size_big h
  show (if xs.length + ys.length ≤ sizeLine then R.ok (A.tup (xs ++ ys)) ([] : Sto) else .no) = _
  rw [if_pos (by omega)]
theorem o_catL {xs ys : List A} (h : xs.length + ys.length ≤ 1000000) : opAdd (.tmp xs) (.tmp ys) [] = .ok (.tmp (xs ++ ys)) [] := by
  have := size_big h
  show (if xs.length + ys.length ≤ sizeLine then R.ok (A.tmp (xs ++ ys)) ([] : Sto) else .no) = _
  rw [if_pos (by omega)]
theorem cut_t1 (xs : List Nat) (h : 1 ≤ xs.length) : pCut (.tup (nL xs)) (some 1) none = some (.tup (nL (xs.drop 1))) := by
  unfold pCut
  simp only [dry_nL, if_true]
  congr 2
  unfold cutA
  rw [show HT.sIx (nL xs).length 0 (some 1) = min 1 (nL xs).length from HT.sIx_nat _ _ 1, show HT.sIx (nL xs).length (nL xs).length none = (nL xs).length from rfl]
  rw [nL_len, Nat.min_eq_left h]
  rw [show (nL xs).drop 1 = nL (xs.drop 1) by unfold nL; rw [List.map_drop]]
  rw [List.take_of_length_le (by rw [nL_len, List.length_drop]; omega)]
theorem cut_t2 (xs : List Nat) (h : 1 ≤ xs.length) : pCut (.tup (nL xs)) none (some (-1)) = some (.tup (nL (xs.take (xs.length - 1)))) := by
  unfold pCut
  simp only [dry_nL, if_true]
  congr 2
  unfold cutA
  rw [show HT.sIx (nL xs).length 0 none = 0 from rfl, show HT.sIx (nL xs).length (nL xs).length (some (-1)) = xs.length - 1 by
    show (if (-1 : Int) < 0 then ((-1 : Int) + ((nL xs).length : Int)).toNat else min (-1 : Int).toNat (nL xs).length) = xs.length - 1
    rw [if_pos (by decide), nL_len]
    omega]
  rw [List.drop_zero, Nat.sub_zero]
  unfold nL
  rw [List.map_take]
theorem dt_app {xs ys : List A} (h1 : ∀ z ∈ xs, dt z) (h2 : ∀ z ∈ ys, dt z) : ∀ z ∈ xs ++ ys, dt z := fun z hz => (List.mem_append.mp hz).elim (h1 z) (h2 z)
theorem dt_one {z : A} (h : dt z) : ∀ w ∈ [z], dt w := fun w hw => by rw [List.mem_singleton.mp hw]; exact h
theorem rep_flat {α : Type} (x : α) : ∀ n, (List.replicate n [x]).flatten = List.replicate n x
  | 0 => rfl
  | n + 1 => by rw [List.replicate_succ, List.flatten_cons, rep_flat x n]; rfl
theorem nL_snoc (xs : List Nat) (a : Nat) : nL xs ++ [.int (a : Int)] = nL (xs ++ [a]) := by
  unfold nL
  rw [List.map_append]
  rfl
theorem sum_le {c : Nat} : ∀ {xs : List Nat}, (∀ x ∈ xs, x ≤ c) → xs.sum ≤ c * xs.length
  | [], _ => Nat.zero_le _
  | x :: xs, h => by
    rw [List.sum_cons, List.length_cons, Nat.mul_add, Nat.mul_one]
    have := h x List.mem_cons_self
    have := sum_le fun y hy => h y (List.mem_cons_of_mem x hy)
    omega
theorem reprI {n : Nat} (h : n ≤ 999999999999) : pRepr [.int (n : Int)] [] = .ok (.str (PyData.int (n : Int)).shown) [] := by
  have hd : dP (.int (n : Int)) = some (PyData.int (n : Int)) := rfl
  unfold pRepr
  simp only [hd]
  exact if_pos (repr_int (by omega) (by omega))
theorem vbE {i : Nat} (hi : i + 2 ≠ 99) {D : A} {v : Int} {r : PEnv} (hr : Okl r) : vbN (i + 2) [] (.int v) (E x D r) = some (E x D (r.set i (ow (.int v)))) := by
  show some ((kill (i + 2) (E x D r)).set (i + 2) (ow (.int v))) = _
  rw [kill_E hi hr]
  rfl
theorem ofD {x : A} {cs cs1 : List Int} {b b1 : Int} {r : PEnv} {g : VE} {xs : List A} (S : Src cs1 b1) (hr : Okl r) (hg : g (E x (dl cs b) r) = some (.tmp xs, E x (dl cs1 b1) r)) (hx : xs ≠ []) (hl : xs.length ≤ 1000000) : ∃ k : Nat, ∃ hk : k < xs.length, ∃ (cs' : List Int) (b' : Int), Src cs' b' ∧ vcallD 1 v_law_of (vC g vN) (E x (dl cs b) r) = some (xs[k], E x (dl cs' b') r) := by
  obtain ⟨k, hk, cs', b', S', ho⟩ := of_ok (some_ := .tmp xs) S rfl hx hl
  refine ⟨k, hk, cs', b', S', x_callD (p0 := dl cs b) rfl (x_C hg x_N) rfl ho ?_⟩
  rw [kill_E (by decide) hr]
  rfl
end Vl
/-! slots that nothing is borrowed from: one construct after another, without kill -/
namespace Vl
open PySem PySem.Spec PyProof.Rows L2 Gd Ev Vs
abbrev pt (p : A) : Option Ent := Option.some (ptE p)
class Co (y : Option Ent) : Prop where
  k : ∀ i e, i ≠ 99 → kill i (y :: e) = y :: kill i e
instance Co_x : Co none := ⟨fun i e _ => kill_x i e⟩
instance Co_o {p : A} : Co (some (.own p)) := ⟨fun i e _ => kill_o i p e⟩
instance Co_p {p : A} : Co (some (ptE p)) := ⟨fun i e h => kill_pt h p e⟩
class Cl (e : PEnv) : Prop where
  k : ∀ i, i ≠ 99 → kill i e = e
instance Cl_n : Cl [] := ⟨fun _ _ => rfl⟩
instance Cl_c {y : Option Ent} {r : PEnv} [hy : Co y] [hr : Cl r] : Cl (y :: r) := ⟨fun i h => by rw [hy.k i r h, hr.k i h]⟩
theorem kill_len' (i : Nat) (e : PEnv) : (kill i e).length = e.length := List.length_map ..
instance Cl_set {e : PEnv} {j : Nat} {y : Option Ent} [he : Cl e] [hy : Co y] : Cl (e.set j y) := ⟨fun i h => by
  have h1 : kill i [y] = [y] := hy.k i [] h
  have h2 : kill i (e.set j y) = (kill i e).set j (((kill i [y]).head?).getD none) := by
    unfold kill
    rw [List.map_set]
    rfl
  rw [h2, h1, he.k i h]
  rfl⟩
theorem Cl_wp {e : PEnv} (he : Cl e) : ∀ js, Cl (wipeE e js)
  | [] => he
  | j :: js => by
    have := Cl_wp he js
    show Cl ((wipeE e js).set j none)
    infer_instance
instance Cl_wipe {e : PEnv} {js : List Nat} [he : Cl e] : Cl (wipeE e js) := Cl_wp he js
theorem Cl.co {y : Option Ent} {r : PEnv} (h : Cl (y :: r)) : Co y := ⟨fun i e hi => by
  have := h.k i hi
  unfold kill at this ⊢
  rw [List.map_cons, List.cons.injEq] at this
  rw [List.map_cons, this.1]⟩
theorem Cl.tl {y : Option Ent} {r : PEnv} (h : Cl (y :: r)) : Cl r := ⟨fun i hi => by
  have := h.k i hi
  unfold kill at this ⊢
  rw [List.map_cons, List.cons.injEq] at this
  exact this.2⟩
theorem Ok.co {y : Option Ent} (h : Ok y) : Co y := by
  rcases h with rfl | ⟨p, rfl⟩
  · infer_instance
  · infer_instance
section
variable {g h ga gb gc gk : VE} {gs : VA} {u w : VT} {e e1 e2 e3 e4 : PEnv} {p q r p0 : A} {ps qs xs ys : List A} {i : Nat}
theorem n_rd {S : List Nat} (h1 : e[i]? = some (some (Ent.own p))) (h2 : S.contains i = true := by rfl) : rd S i e = some (p, e) := x_rd h1 (by rw [h2, Bool.or_true])
theorem n_mvp (h1 : e[i]? = some (some (ptE p))) (hd : p.dry = true) : mv i e = some (p, e) := by
  rw [ptE, if_pos hd] at h1
  exact x_mvd h1 hd
theorem n_mv [hc : Cl e] (h1 : e[i]? = some (some (Ent.own p))) (h2 : p.dry = false) (hi : i ≠ 99 := by decide) : mv i e = some (p, e.set i none) := x_mv h1 h2 (by rw [hc.k i hi])
theorem n_asg [hc : Cl e1] (h1 : g e = some (p, e1)) (hi : i ≠ 99 := by decide) : vasg i g e = some (.nx (e1.set i (some (.own p)))) := x_asg h1 (by rw [hc.k i hi])
theorem n_M0 {act : Vs.Act} [hc : Cl e1] (h1 : e[i]? = some (some (Ent.own (.tmp ps)))) (h2 : gs e = some (qs, e1)) (h3 : e1[i]? = some (some (Ent.own (.tmp xs)))) (h4 : act xs qs = some (ys, r)) (hi : i ≠ 99 := by decide) : vM0 i act gs e = some (r, e1.set i (some (.own (.tmp ys)))) := x_M0 h1 h2 h3 h4 (by rw [hc.k i hi])
theorem n_callD {v : List A → Option (A × A)} {z : A} [hc : Cl e1] (h1 : e[i]? = some (some (Ent.own p0))) (h2 : gs e = some (qs, e1)) (h3 : e1[i]? = some (some (Ent.own p))) (h4 : v (p :: qs) = some (r, z)) (hi : i ≠ 99 := by decide) : vcallD i v gs e = some (r, e1.set i (some (.own z))) := x_callD h1 h2 h3 h4 (by rw [hc.k i hi])
theorem n_set0 {j : Nat} {k : Int} {e0 : PEnv} [hc : Cl e1] (h1 : g e = some (p, e1)) (h2 : e1[i]? = some (some (Ent.own (.tmp xs)))) (h3 : gk e1 = some (.int k, e0)) (h4 : ixN xs.length k = some j) (hi : i ≠ 99 := by decide) : vset0 i gk g e = some (.nx (e1.set i (some (.own (.tmp (xs.set j p)))))) := x_set0 h1 h2 h3 h4 (by rw [hc.k i hi])
def sets : List Nat → List A → PEnv → PEnv
  | i :: is, p :: ps, e => sets is ps (e.set i (some (.own p)))
  | _, _, e => e
theorem setOwn_sets : ∀ {is : List Nat} {ps : List A} {e : PEnv} [hc : Cl e] (hi : is.contains 99 = false), setOwn is ps e = sets is ps e
  | [], _, _, _, _ => rfl
  | i :: is, [], _, _, _ => rfl
  | i :: is, p :: ps, e, hc, hi => by
    have h1 : i ≠ 99 ∧ is.contains 99 = false := by
      rw [List.contains_cons, Bool.or_eq_false_iff] at hi
      refine ⟨fun z => ?_, hi.2⟩
      have := hi.1
      rw [z] at this
      exact absurd this (by decide)
    show setOwn is ps ((kill i e).set i (some (.own p))) = sets is ps (e.set i (some (.own p)))
    rw [hc.k i h1.1]
    exact setOwn_sets h1.2
theorem n_par {is : List Nat} [hc : Cl e1] (h1 : gs e = some (ps, e1)) (h2 : ps.length = is.length) (hi : is.contains 99 = false := by rfl) : vpar is gs e = some (.nx (sets is ps e1)) := x_par h1 h2 (setOwn_sets hi)
theorem n_asgT {is : List Nat} [hc : Cl e1] (h1 : g e = some (.tup ps, e1)) (h2 : ps.length = is.length) (hi : is.contains 99 = false := by rfl) : vasgT is g e = some (.nx (sets is ps e1)) := x_asgT h1 h2 (setOwn_sets hi)
theorem n_bN {src : List Nat} [hc : Cl e] (hd : p.dry = true) (hi : i ≠ 99 := by decide) : vbN i src p e = some (e.set i (some (.own p))) := by
  have h1 : itE src p = some (.own p) := if_pos hd
  show (match itE src p with | some en => vbT [] src [] ((kill i e).set i (some en)) | none => none) = _
  rw [h1, hc.k i hi]
  rfl
theorem n_bNp [hc : Cl e] (hi : i ≠ 99 := by decide) : vbN i [99] p e = some (e.set i (some (ptE p))) := by
  have h1 : itE [99] p = some (ptE p) := by
    unfold itE ptE
    split
    · rfl
    · rfl
  show (match itE [99] p with | some en => vbT [] [99] [] ((kill i e).set i (some en)) | none => none) = _
  rw [h1, hc.k i hi]
  rfl
theorem n_bT : ∀ {is src : List Nat} {ps : List A} {e : PEnv} [hc : Cl e] (hd : dryL ps = true) (hl : ps.length = is.length) (hi : is.contains 99 = false), vbT is src ps e = some (sets is ps e)
  | [], _, [], _, _, _, _, _ => rfl
  | i :: is, src, p :: ps, e, hc, hd, hl, hi => by
    have h1 : i ≠ 99 ∧ is.contains 99 = false := by
      rw [List.contains_cons, Bool.or_eq_false_iff] at hi
      refine ⟨fun z => ?_, hi.2⟩
      have := hi.1
      rw [z] at this
      exact absurd this (by decide)
    have hd' : (p.dry && dryL ps) = true := hd
    rw [Bool.and_eq_true] at hd'
    have h2 : itE src p = some (.own p) := if_pos hd'.1
    show (match itE src p with | some en => vbT is src ps ((kill i e).set i (some en)) | none => none) = some (sets is ps (e.set i (some (.own p))))
    rw [h2, hc.k i h1.1]
    exact n_bT hd'.2 (by simpa using hl) h1.2
  | [], _, _ :: _, _, _, _, hl, _ => by simp at hl
  | _ :: _, _, [], _, _, _, hl, _ => by simp at hl
theorem n_bP {is src : List Nat} [hc : Cl e] (hd : dryL ps = true) (hl : ps.length = is.length) (hi : is.contains 99 = false := by rfl) : vbP is src (.tup ps) e = some (sets is ps e) := n_bT hd hl hi
theorem n_bPp {is src : List Nat} [hc : Cl e] (hd : (p.dry && q.dry) = true) (hl : is.length = 2) (hi : is.contains 99 = false := by rfl) : vbP is src (.pr p q) e = some (sets is [p, q] e) := by
  rw [Bool.and_eq_true] at hd
  refine n_bT (ps := [p, q]) ?_ (by rw [hl]; rfl) hi
  show (p.dry && (q.dry && true)) = true
  rw [hd.1, hd.2]
  rfl
/-- a slot is gone through -/
theorem n_viV {S : List Nat} (h1 : e[i]? = some (some (Ent.own p))) (h3 : seqI p = some ps) (h4 : dryL ps = true) (h2 : S.contains i = true := by rfl) : viV S i e = some (ps, [], e) := x_viV h1 (by rw [h2, Bool.or_true]) h3 h4
theorem n_viP (h1 : e[i]? = some (some (ptE p))) (h3 : seqI p = some ps) (h4 : dryL ps = true) : viV [99] i e = some (ps, [], e) := by
  unfold ptE at h1
  split at h1
  · rename_i hd
    exact x_viV h1 (by rw [hd]; rfl) h3 h4
  · exact x_viVb h1 (by simp) h3 h4
end
/-- a comprehension that draws -/
theorem vlc_draw {α : Type} {js src : List Nat} {b : VB} {g : VE} {f : α → A} {Q : A → Prop} {σ : List Int → Int → PEnv} : ∀ {xs : List α} {acc : List A} {cs : List Int} {z : Int}, (∀ x ∈ xs, ∀ cs z, Src cs z → ∃ cs' z' q e1 e3, Src cs' z' ∧ Q q ∧ b src (f x) (σ cs z) = some e1 ∧ g e1 = some (q, e3) ∧ wipeE e3 js = σ cs' z') → Src cs z → acc.length + xs.length ≤ 1000000 →
    ∃ qs cs' z', Src cs' z' ∧ qs.length = xs.length ∧ (∀ q ∈ qs, Q q) ∧ vlc js b src qYes g (xs.map f) acc (σ cs z) = some (acc ++ qs, σ cs' z')
  | [], acc, cs, z, _, S, _ => ⟨[], cs, z, S, rfl, fun _ h => (List.not_mem_nil h).elim, by simp [vlc]⟩
  | x :: xs, acc, cs, z, h, S, hl => by
    obtain ⟨cs1, z1, q, e1, e3, S1, hq, h1, h2, h3⟩ := h x List.mem_cons_self cs z S
    have hs : acc.length < sizeLine := size_big (by simp only [List.length_cons] at hl; omega)
    obtain ⟨qs, cs2, z2, S2, h4, h5, h6⟩ := vlc_draw (acc := acc ++ [q]) (fun y hy => h y (List.mem_cons_of_mem _ hy)) S1 (by rw [List.length_append]; simp only [List.length_cons, List.length_nil] at hl ⊢; omega)
    refine ⟨q :: qs, cs2, z2, S2, by rw [List.length_cons, List.length_cons, h4], fun y hy => ?_, ?_⟩
    · rcases List.mem_cons.mp hy with rfl | hy
      · exact hq
      · exact h5 y hy
    · rw [List.map_cons, vlc, h1]
      simp only [qYes, h2, if_pos hs, h3]
      rw [h6, List.append_assoc]
      rfl
theorem vLc_draw {α : Type} {vi : VI} {js src : List Nat} {b : VB} {g : VE} {f : α → A} (Q : A → Prop) (σ τ : List Int → Int → PEnv) {xs : List α} {cs : List Int} {z : Int} (S : Src cs z) (hv : vi (τ cs z) = some (xs.map f, src, τ cs z)) (hc : clr (τ cs z) js = true) (hw : ∀ cs z, wipeE (τ cs z) js = σ cs z) (hb : ∀ cs' z', bck (τ cs z) (σ cs' z') js = τ cs' z') (h : ∀ x ∈ xs, ∀ cs z, Src cs z → ∃ cs' z' q e1 e3, Src cs' z' ∧ Q q ∧ b src (f x) (σ cs z) = some e1 ∧ g e1 = some (q, e3) ∧ wipeE e3 js = σ cs' z') (hl : xs.length ≤ 1000000) :
    ∃ qs cs' z', Src cs' z' ∧ qs.length = xs.length ∧ (∀ q ∈ qs, Q q) ∧ vLc vi js b qYes g (τ cs z) = some (.tmp qs, τ cs' z') := by
  obtain ⟨qs, cs2, z2, S2, h4, h5, h6⟩ := vlc_draw (acc := []) h S (by simpa using hl)
  refine ⟨qs, cs2, z2, S2, h4, h5, ?_⟩
  unfold vLc
  rw [hv]
  simp only
  rw [if_pos hc, hw, h6]
  simp only [List.nil_append, hb]
/-- a for, counted -/
theorem vloop_at {α : Type} {b : VB} {src : List Nat} {h : VS} {f : α → A} (P : Nat → PEnv → Prop) : ∀ {xs : List α} (k : Nat), (∀ i x e, xs[i]? = some x → P (k + i) e → ∃ e1 e2, b src (f x) e = some e1 ∧ (h e1 = some (.nx e2) ∨ h e1 = some (.ct e2)) ∧ P (k + i + 1) e2) → ∀ {e : PEnv}, P k e → ∃ e', vloop b src h (xs.map f) e = some (.nx e') ∧ P (k + xs.length) e'
  | [], k, _, e, p => ⟨e, rfl, p⟩
  | x :: xs, k, hs, e, p => by
    obtain ⟨e1, e2, h1, h2, h3⟩ := hs 0 x e rfl p
    obtain ⟨e', h4, h5⟩ := vloop_at P (xs := xs) (k + 1) (fun i y e hy hp => by
      have := hs (i + 1) y e hy (by rw [show k + (i + 1) = k + 1 + i by omega]; exact hp)
      rw [show k + (i + 1) + 1 = k + 1 + i + 1 by omega] at this
      exact this) h3
    refine ⟨e', ?_, by rw [List.length_cons, show k + (xs.length + 1) = k + 1 + xs.length by omega]; exact h5⟩
    rw [List.map_cons, vloop, h1]
    simp only
    rcases h2 with h2 | h2
    · rw [h2]; exact h4
    · rw [h2]; exact h4
theorem vfor_at {α : Type} {vi : VI} {b : VB} {src : List Nat} {h : VS} {f : α → A} {xs : List α} {e0 e : PEnv} (P : Nat → PEnv → Prop) (hv : vi e0 = some (xs.map f, src, e)) (h0 : P 0 e) (hs : ∀ i x e, xs[i]? = some x → P i e → ∃ e1 e2, b src (f x) e = some e1 ∧ (h e1 = some (.nx e2) ∨ h e1 = some (.ct e2)) ∧ P (i + 1) e2) : ∃ e', vfor vi b h e0 = some (.nx e') ∧ P xs.length e' := by
  obtain ⟨e', h1, h2⟩ := vloop_at P (xs := xs) 0 (fun i x e hx hp => by
    rw [Nat.zero_add] at hp ⊢
    exact hs i x e hx hp) h0
  rw [Nat.zero_add] at h2
  exact ⟨e', x_for hv h1, h2⟩
theorem range_lt {n i x : Nat} (h : (List.range n)[i]? = some x) : x = i ∧ i < n := by
  obtain ⟨h1, h2⟩ := List.getElem?_eq_some_iff.mp h
  rw [List.length_range] at h1
  rw [List.getElem_range] at h2
  exact ⟨h2.symm, h1⟩
/-- while, step by step -/
theorem whileV_F {u : VT} {h : VS} {n : Nat} {e e1 : PEnv} (h1 : u e = some (false, e1)) : whileV u h (n + 1) e = some (.nx e1) := by rw [whileV, h1]
theorem whileV_T {u : VT} {h : VS} {n : Nat} {e e1 e2 : PEnv} {r : Option PF} (h1 : u e = some (true, e1)) (h2 : h e1 = some (.nx e2)) (h3 : whileV u h n e2 = r) : whileV u h (n + 1) e = r := by
  rw [whileV, h1]
  simp only [h2]
  exact h3
theorem bitAnd_nat (a b : Nat) : Builtin.bitAnd (a : Int) (b : Int) = ((a &&& b : Nat) : Int) := by
  unfold Builtin.bitAnd
  have h : 0 ≤ (a : Int) := by omega
  have h2 : 0 ≤ (b : Int) := by omega
  simp only [h, h2, decide_true]
  rfl
theorem o_band (a b : Nat) : opBAnd (.int (a : Int)) (.int (b : Int)) [] = .ok (.int ((a &&& b : Nat) : Int)) [] := by
  show R.ok (A.int (Builtin.bitAnd (a : Int) (b : Int))) ([] : Sto) = _
  rw [bitAnd_nat]
theorem o_max {a b : Nat} : bMax [.int (a : Int), .int (b : Int)] [] = .ok (.int ((max a b : Nat) : Int)) [] := by
  show R.ok (A.int (if (b : Int) > (a : Int) then (b : Int) else (a : Int))) ([] : Sto) = _
  congr 2
  split <;> omega
theorem o_mod {a b : Nat} (h : 0 < b) : opMod (.int (a : Int)) (.int (b : Int)) [] = .ok (.int ((a % b : Nat) : Int)) [] := by
  show (if (0 : Int) < (b : Int) then R.ok (A.int ((a : Int) % (b : Int))) ([] : Sto) else .no) = _
  rw [if_pos (by omega)]
  congr 2
theorem o_mul {a b : Nat} (ha : a < 2 ^ 60) (hb : b < 2 ^ 60) : pMul (.int (a : Int)) (.int (b : Int)) [] = .ok (.int ((a * b : Nat) : Int)) [] := by
  have c : CMulW (a : Int) (b : Int) := wide_mul (a := 60) (b := 60) (by omega) (by omega) (by decide) (by decide) (by decide)
  show (if CMulW (a : Int) (b : Int) then R.ok (A.int ((a : Int) * (b : Int))) ([] : Sto) else .no) = _
  rw [if_pos c]
  congr 2
theorem o_ltN {a b : Nat} : opLt (.int (a : Int)) (.int (b : Int)) [] = .ok (.bl (decide (a < b))) [] := by
  show R.ok (A.bl (decide ((a : Int) < (b : Int)))) ([] : Sto) = _
  congr 2
  exact decide_eq_decide.mpr (by omega)
theorem o_leN {a b : Nat} : opLe (.int (a : Int)) (.int (b : Int)) [] = .ok (.bl (decide (a ≤ b))) [] := by
  show R.ok (A.bl (decide ((a : Int) ≤ (b : Int)))) ([] : Sto) = _
  congr 2
  exact decide_eq_decide.mpr (by omega)
theorem o_gtN {a b : Nat} : opGt (.int (a : Int)) (.int (b : Int)) [] = .ok (.bl (decide (b < a))) [] := by
  show R.ok (A.bl (decide ((b : Int) < (a : Int)))) ([] : Sto) = _
  congr 2
  exact decide_eq_decide.mpr (by omega)
theorem o_eqN {a b : Nat} : pEq (.int (a : Int)) (.int (b : Int)) [] = .ok (.bl (decide (a = b))) [] := by
  rw [pEq_int]
  congr 2
  exact decide_eq_decide.mpr (by omega)
theorem o_neN {a b : Nat} : pNe (.int (a : Int)) (.int (b : Int)) [] = .ok (.bl (!decide (a = b))) [] := by
  rw [pNe_int]
  congr 3
  exact decide_eq_decide.mpr (by omega)
/-- a range with a difference -/
theorem rg_sub (n d : Nat) : rgA 0 ((n : Int) - (d : Int)) = (List.range (n - d)).map fun i : Nat => A.int (i : Int) := by
  by_cases h : d ≤ n
  · rw [show (n : Int) - (d : Int) = ((n - d : Nat) : Int) by omega, rg_map]
  · unfold rgA
    rw [show n - d = 0 by omega, show ((n : Int) - (d : Int) - 0).toNat = 0 by omega]
    rfl
theorem pEqLL (as bs : List Nat) : pEq (.tmp (nL as)) (.tmp (nL bs)) [] = .ok (.bl (decide (as = bs))) [] := by
  rw [nL_iL, nL_iL, pEq_iL]
  congr 2
  exact decide_eq_decide.mpr ⟨cast_inj, fun h => by rw [h]⟩
theorem pNe_iL (as bs : List Int) : pNe (.tmp (iL as)) (.tmp (iL bs)) [] = .ok (.bl (!decide (as = bs))) [] := by
  simp only [pNe, dP_iL]
  show (if (SeqAt.shaped (.list (as.map PyData.int)) && SeqAt.shaped (.list (bs.map PyData.int))) = true then R.ok (A.bl (!PyData.eqv (.list (as.map PyData.int)) (.list (bs.map PyData.int)))) ([] : Sto) else .no) = _
  rw [shaped_iL, shaped_iL, eqv_ints]
  rfl
theorem pNeLL (as bs : List Nat) : pNe (.tmp (nL as)) (.tmp (nL bs)) [] = .ok (.bl (!decide (as = bs))) [] := by
  rw [nL_iL, nL_iL, pNe_iL]
  congr 3
  exact decide_eq_decide.mpr ⟨cast_inj, fun h => by rw [h]⟩
theorem seq_nL (xs : List Nat) : seqI (.tmp (nL xs)) = some (nL xs) := rfl
theorem o_lstt (xs : List A) : bLst [.tup xs] [] = .ok (.tmp xs) [] := rfl
theorem o_lstm (xs : List A) : bLst [.tmp xs] [] = .ok (.tmp xs) [] := rfl
theorem nL_take (xs : List Nat) (k : Nat) : (nL xs).take k = nL (xs.take k) := by unfold nL; rw [List.map_take]
theorem nL_drop (xs : List Nat) (k : Nat) : (nL xs).drop k = nL (xs.drop k) := by unfold nL; rw [List.map_drop]
theorem cut_take (xs : List Nat) (k : Nat) : pCut (.tmp (nL xs)) none (some (k : Int)) = some (.tmp (nL (xs.take k))) := by
  unfold pCut
  simp only [dry_nL, if_true]
  congr 2
  unfold cutA
  rw [show HT.sIx (nL xs).length 0 none = 0 from rfl, show HT.sIx (nL xs).length (nL xs).length (some (k : Int)) = min k (nL xs).length from HT.sIx_nat _ _ k, List.drop_zero, Nat.sub_zero, nL_take, nL_len]
  by_cases h : k ≤ xs.length
  · rw [Nat.min_eq_left h]
  · rw [Nat.min_eq_right (by omega), List.take_length, List.take_of_length_le (by omega)]
theorem ixAt {α : Type} {xs : List α} {n i : Nat} (hl : xs.length = n) (h : i < n) : ixN n (i : Int) = some i := ixN_nat' h
end Vl
namespace Vl
open PySem PySem.Spec PyProof.Rows L2 Gd Ev Vs
/-! draws within a law's body -/
theorem drawE {x : A} {cs cs1 : List Int} {b b1 : Int} {n : Nat} {r r1 : PEnv} {g : VE} [hr : Cl r1] (S : Src cs1 b1) (hg : g (E x (dl cs b) r) = some (.int (n : Int), E x (dl cs1 b1) r1)) (n0 : 0 < n) (n1 : n < 2 ^ 60) : ∃ (k : Nat) (cs' : List Int) (b' : Int), Src cs' b' ∧ k < n ∧ vcallD 1 v_law_any (vC g vN) (E x (dl cs b) r) = some (.int (k : Int), E x (dl cs' b') r1) := by
  obtain ⟨k, cs', b', S', k0, k1, h⟩ := any_ok S (n := (n : Int)) (by omega) (by omega)
  refine ⟨k.toNat, cs', b', S', by omega, ?_⟩
  rw [show ((k.toNat : Nat) : Int) = k by omega]
  exact n_callD (e1 := E x (dl cs1 b1) r1) rfl (x_C hg x_N) rfl h
theorem pickE {x : A} {cs cs1 : List Int} {b b1 : Int} {r r1 : PEnv} {g : VE} {xs : List A} [hr : Cl r1] (S : Src cs1 b1) (hg : g (E x (dl cs b) r) = some (.tmp xs, E x (dl cs1 b1) r1)) (hx : xs ≠ []) (hl : xs.length ≤ 1000000) : ∃ (z : A) (cs' : List Int) (b' : Int), Src cs' b' ∧ z ∈ xs ∧ vcallD 1 v_law_of (vC g vN) (E x (dl cs b) r) = some (z, E x (dl cs' b') r1) := by
  obtain ⟨k, hk, cs', b', S', ho⟩ := of_ok (some_ := .tmp xs) S rfl hx hl
  exact ⟨xs[k], cs', b', S', List.getElem_mem hk, n_callD (e1 := E x (dl cs1 b1) r1) rfl (x_C hg x_N) rfl ho⟩
theorem list_of {α : Type} {f : α → A} {P : α → Prop} : ∀ {qs : List A}, (∀ q ∈ qs, ∃ a, P a ∧ q = f a) → ∃ as : List α, qs = as.map f ∧ ∀ a ∈ as, P a
  | [], _ => ⟨[], rfl, fun _ h => (List.not_mem_nil h).elim⟩
  | q :: qs, h => by
    obtain ⟨a, ha, rfl⟩ := h q List.mem_cons_self
    obtain ⟨as, rfl, hs⟩ := list_of (qs := qs) (f := f) (P := P) fun z hz => h z (List.mem_cons_of_mem _ hz)
    exact ⟨a :: as, rfl, fun z hz => by
      rcases List.mem_cons.mp hz with rfl | hz
      · exact ha
      · exact hs z hz⟩
end Vl
/-! xs.count(i) of a list of ints -/
namespace Vs
open PySem PySem.Spec PyProof.Rows L2 Gd Ev
def pCount : Ev.F2 := fun p q st => match q with
  | .int z => (match Ev.lstOf p [] with
    | some xs => (match intsOf xs with
      | some ns => .ok (.int (ns.count z : Nat)) st
      | none => .no)
    | none => .no)
  | _ => .no
theorem of_mCount : OfM mCount pCount true := by
  intro st p q a b c fa fb s' ra rb h
  unfold pCount at h
  split at h
  · split at h
    · rename_i xs h0
      split at h
      · rename_i ns h1
        cases h
        obtain ⟨as, fq, h4, h5, _⟩ := ra.lstOf h0
        obtain ⟨e2, _⟩ := h5.dry (dry_of_ints h1)
        cases (rb.dry rfl).1
        subst e2
        refine ⟨rfl, ?_, ?_⟩
        · unfold mCount
          simp only
          rw [h4]
          simp only
          rw [h1]
        · show isL a st = true
          unfold isL
          rw [h4]
          rfl
      · cases h
    · cases h
  · cases h
end Vs
/-! a test of three comparisons in a row -/
namespace Ev
open PySem PySem.Spec PyProof.Rows L2 Gd
section
variable {X : Cx} {K : PySem.W.Frag} {pos : Pos}
def tC3 (r r' r2 : R2) (ta tb tc td : TE) : TE := fun σ H Q => ta σ H fun x H1 => tb σ H1 fun y H2 => r x y H2 fun z H3 => ∃ k, z = .bl k ∧
  (if k = true then tc σ H3 fun w H4 => r' y w H4 fun z2 H5 => ∃ k2, z2 = .bl k2 ∧ (if k2 = true then td σ H5 fun v H6 => r2 w v H6 Q else Q (.bl false) H5) else Q (.bl false) H3)
theorem pt_c3 {op op' op2 : CmpOp} {r r' r2 : R2} {a b c d : Expr} {ta tb tc td : TE} (ho : OpR X (compareOp op) r) (ho' : OpR X (compareOp op') r') (ho2 : OpR X (compareOp op2) r2) (ha : PE X a ta) (hb : PE X b tb) (hc : PE X c tc) (hd : PE X d td)
    (hm : lastMarks [op, op', op2] [b, c, d] = false := by with_unfolding_all rfl) : PT X (.Compare a [op, op', op2] [b, c, d] pos) (tTest (tC3 r r' r2 ta tb tc td)) := by
  constructor
  intro pins s σ H Q I h
  apply isTrue_chain _ hm
  apply thn (ha.run pins s σ H _ I h)
  rintro v s1 ⟨x, H1, I1, r1, q1⟩
  apply test_link
  apply thn (hb.run pins s1 σ H1 _ I1 q1)
  rintro u s2 ⟨y, H2, I2, ry, q2⟩
  apply thn (ho pins s2 σ H2 x y v u _ I2 r1 ry q2)
  rintro e3 s3 ⟨z, H3, I3, r3, k, rfl, q3⟩
  cases r3
  apply wpAny_truthy_bool
  cases k with
  | false =>
    obtain ⟨k', e', q'⟩ := q3
    cases e'
    exact ite_ff ⟨H3, I3, q'⟩
  | true =>
    apply ite_tt
    apply test_link
    apply thn (hc.run pins s3 σ H3 _ I3 q3)
    rintro w s4 ⟨z4, H4, I4, r4, q4⟩
    apply thn (ho' pins s4 σ H4 y z4 u w _ I4 ry r4 q4)
    rintro e5 s5 ⟨z5, H5, I5, r5, k2, rfl, q5⟩
    cases r5
    apply wpAny_truthy_bool
    cases k2 with
    | false =>
      obtain ⟨k', e', q'⟩ := q5
      cases e'
      exact ite_ff ⟨H5, I5, q'⟩
    | true =>
      apply ite_tt
      apply test_last
      apply thn (hd.run pins s5 σ H5 _ I5 q5)
      rintro w6 s6 ⟨z6, H6, I6, r6, q6⟩
      apply thn (ho2 pins s6 σ H6 z4 z6 w w6 _ I6 r4 r6 q6)
      rintro e7 s7 ⟨z7, H7, I7, r7, k3, rfl, q7⟩
      cases r7
      exact wpAny_truthy_bool ⟨H7, I7, q7⟩
def fChain3 (g h l : F2) (fa fb fc fd : FE) : FE := fun ρ st => match fa ρ st with
  | .ok a st1 => (match fb ρ st1 with
    | .ok b st2 => (match g a b st2 with
      | .ok (.bl true) st3 => (match fc ρ st3 with
        | .ok c st4 => (match h b c st4 with
          | .ok (.bl true) st5 => (match fd ρ st5 with
            | .ok d st6 => l c d st6
            | .no => .no)
          | .ok (.bl false) st5 => .ok (.bl false) st5
          | _ => .no)
        | .no => .no)
      | .ok (.bl false) st3 => .ok (.bl false) st3
      | _ => .no)
    | .no => .no)
  | .no => .no
theorem w_chain3 {r r' r2 : R2} {g h l : F2} {fa fb fc fd : FE} (hg : Op2 K r g) (hh : Op2 K r' h) (hl : Op2 K r2 l) {σ : L2.St} {H : Hp} {Q : VK} (w : tOf K (fChain3 g h l fa fb fc fd) σ H Q) : tC3 r r' r2 (tOf K fa) (tOf K fb) (tOf K fc) (tOf K fd) σ H Q := by
  obtain ⟨μ, st, ρ, z, st', S, E, w, q⟩ := w
  unfold fChain3 at w
  split at w
  · rename_i a1 st1 h1
    split at w
    · rename_i b1 st2 h2
      refine ⟨μ, st, ρ, a1, st1, S, E, h1, fun v μ1 H1 S1 E1 r1 _ => ?_⟩
      refine ⟨μ1, st1, ρ, b1, st2, S1, E.ext S E1, h2, fun u μ2 H2 S2 E2 ry _ => ?_⟩
      have E12 := E1.trans E2
      split at w
      · rename_i st3 h3
        refine hg S2 (r1.ext S1 E2) ry h3 fun z μ3 H3 S3 E3 r3 f3 => ⟨_, r3, iteT ?_⟩
        have E13 := E12.trans E3
        split at w
        · rename_i c1 st4 h4
          refine ⟨μ3, st3, ρ, c1, st4, S3, E.ext S E13, h4, fun y μ4 H4 S4 E4 r4 f4 => ?_⟩
          have E14 := E13.trans E4
          split at w
          · rename_i st5 h5
            refine hh S4 ((ry.ext S2 E3).ext S3 E4) r4 h5 fun z5 μ5 H5 S5 E5 r5 f5 => ⟨_, r5, iteT ?_⟩
            have E15 := E14.trans E5
            split at w
            · rename_i d1 st6 h6
              refine ⟨μ5, st5, ρ, d1, st6, S5, E.ext S E15, h6, fun y6 μ6 H6 S6 E6 r6 f6 => ?_⟩
              exact hl S6 ((r4.ext S4 E5).ext S5 E6) r6 w (q.from (E15.trans E6))
            · cases w
          · rename_i st5 h5
            cases w
            exact hh S4 ((ry.ext S2 E3).ext S3 E4) r4 h5 fun z5 μ5 H5 S5 E5 r5 f5 => ⟨_, r5, iteF (q _ μ5 H5 S5 (E14.trans E5) rfl (.of trivial))⟩
          · cases w
        · cases w
      · rename_i st3 h3
        cases w
        exact hg S2 (r1.ext S1 E2) ry h3 fun z μ3 H3 S3 E3 r3 f3 => ⟨_, r3, iteF (q _ μ3 H3 S3 (E12.trans E3) rfl (.of trivial))⟩
      · cases w
    · cases w
  · cases w
theorem dt_chain3 {op op' op2 : CmpOp} {r r' r2 : R2} {g h l : F2} {a b c d : Expr} {fa fb fc fd : FE} (ho : OpR X (compareOp op) r) (ho' : OpR X (compareOp op') r') (ho2 : OpR X (compareOp op2) r2) (hg : Op2 K r g) (hh : Op2 K r' h) (hl : Op2 K r2 l) (ha : PE X a (tOf K fa)) (hb : PE X b (tOf K fb)) (hc : PE X c (tOf K fc)) (hd : PE X d (tOf K fd))
    (hm : lastMarks [op, op', op2] [b, c, d] = false := by with_unfolding_all rfl) : PT X (.Compare a [op, op', op2] [b, c, d] pos) (uOf K (uB (fChain3 g h l fa fb fc fd))) := pt_weak (pt_c3 ho ho' ho2 ha hb hc hd hm) fun _ _ _ w => w_chain3 hg hh hl (w_bool w)
end
end Ev
/-! three comparisons in a row -/
namespace Vs
open PySem PySem.Spec PyProof.Rows L2 Gd Ev
def vChain3 (g h l : Ev.F2) (ga gb gc gd : VE) : VE := fun e => match ga e with
  | some (p, e1) => (match gb e1 with
    | some (q, e2) => (match g p q [] with
      | .ok (.bl true) _ => (match gc e2 with
        | some (r, e3) => (match h q r [] with
          | .ok (.bl true) _ => (match gd e3 with
            | some (s, e4) => (match l r s [] with
              | .ok c _ => some (c, e4)
              | .no => none)
            | none => none)
          | .ok (.bl false) _ => some (.bl false, e3)
          | _ => none)
        | none => none)
      | .ok (.bl false) _ => some (.bl false, e2)
      | _ => none)
    | none => none)
  | none => none
section
variable {S1 S2 S3 S4 T1 T2 T3 T4 : List Nat}
theorem s_chain3 {g h l g' h' l' : Ev.F2} {fa fb fc fd : FE} {ga gb gc gd : VE} (hg : Of2 g g') (hh : Of2 h h') (hl : Of2 l l') (ha : SE S1 T1 fa ga) (hb : SE S2 T2 fb gb) (hc : SE S3 T3 fc gc) (hd : SE S4 T4 fd gd) (d1 : dsj S1 T2 = true := by rfl) (d2 : dsj S2 T3 = true := by rfl) (d3 : dsj S3 T4 = true := by rfl) :
    SE [] (T1 ++ (T2 ++ (T3 ++ T4))) (fChain3 g h l fa fb fc fd) (vChain3 g' h' l' ga gb gc gd) := by
  intro st ρ e F p e' E q
  unfold vChain3 at q
  split at q
  · rename_i p1 e1 h1
    obtain ⟨a, st1, F1, fa1, a1, E1, x1, r1, k1⟩ := ha E h1
    split at q
    · rename_i p2 e2 h2
      obtain ⟨b, st2, F2, fb1, a2, E2, x2, r2, k2⟩ := hb E1 h2
      obtain ⟨u, _⟩ := k1.later r1.lt E1 x2 d1
      split at q
      · rename_i h3
        obtain ⟨_, h4⟩ := hg (r1.mono u) r2 h3
        split at q
        · rename_i p3 e3 h5
          obtain ⟨c, st3, F3, fc1, a3, E3, x3, r3, k3⟩ := hc E2 h5
          obtain ⟨u2, _⟩ := k2.later r2.lt E2 x3 d2
          split at q
          · rename_i h6
            obtain ⟨_, h8⟩ := hh (r2.mono u2) r3 h6
            split at q
            · rename_i p4 e4 h9
              obtain ⟨d, st4, F4, fd1, a4, E4, x4, r4, k4⟩ := hd E3 h9
              obtain ⟨u3, _⟩ := k3.later r3.lt E3 x4 d3
              split at q
              · rename_i c' s' h10
                cases q
                obtain ⟨h11, h12⟩ := hl (r3.mono u3) r4 h10
                exact ⟨_, st4, F4, [], by unfold fChain3; rw [a1]; simp only; rw [a2]; simp only; rw [h4]; simp only; rw [a3]; simp only; rw [h8]; simp only; rw [a4]; exact h12, E4, x1.trans (x2.trans (x3.trans x4)), .inl (Vr.of_dry h11), Fro.nil⟩
              · cases q
            · cases q
          · rename_i h6
            cases q
            obtain ⟨_, h8⟩ := hh (r2.mono u2) r3 h6
            exact ⟨.bl false, st3, F3, [], by unfold fChain3; rw [a1]; simp only; rw [a2]; simp only; rw [h4]; simp only; rw [a3]; simp only; rw [h8], E3, x1.trans (x2.trans x3.inl), .inl ⟨rfl, rfl⟩, Fro.nil⟩
          · cases q
        · cases q
      · rename_i h3
        cases q
        obtain ⟨_, h4⟩ := hg (r1.mono u) r2 h3
        exact ⟨.bl false, st2, F2, [], by unfold fChain3; rw [a1]; simp only; rw [a2]; simp only; rw [h4], E2, x1.trans x2.inl, .inl ⟨rfl, rfl⟩, Fro.nil⟩
      · cases q
    · cases q
  · cases q
end
end Vs
/-! a slot is forgotten ahead of a comprehension with the same name -/
namespace Vs
open PySem PySem.Spec PyProof.Rows L2 Gd Ev
def fgt (j : Nat) (e : PEnv) : PEnv := (kill j e).set j none
def vW (j : Nat) (g : VE) : VE := fun e => g (fgt j e)
section
variable {S T : List Nat}
theorem s_W {j : Nat} {f : FE} {g : VE} (h : SE S T f g) : SE S ([j] ++ T) f (vW j g) := by
  intro st ρ e F p e' E q
  unfold vW fgt at q
  by_cases hj : j < e.length
  · have x : Stp [j] st F st (upF F j []) := Stp.put (Nat.le_refl _) (fun _ _ _ => rfl) (fun _ h => (List.not_mem_nil h).elim)
    have E1 : ER st ρ ((kill j e).set j none) (upF F j []) := E.put (Nat.le_refl _) (fun _ _ _ => rfl) rfl (fun _ _ => rfl) List.nodup_nil (fun _ h => (List.not_mem_nil h).elim) (fun _ h => (List.not_mem_nil h).elim) (fun _ h => nomatch h) (fun _ _ h => nomatch h) (fun _ _ => rfl) (fun h => by omega)
    obtain ⟨a, st', F', fa, h1, h2, h3, h4, h5⟩ := h E1 q
    exact ⟨a, st', F', fa, h1, h2, x.trans h3, h4, h5.from x⟩
  · rw [List.set_eq_of_length_le (by rw [kill_len]; omega)] at q
    have x : Stp [j] st F st F := Stp.refl.mono (T1 := []) fun _ h => (List.not_mem_nil h).elim
    obtain ⟨a, st', F', fa, h1, h2, h3, h4, h5⟩ := h E.kill q
    exact ⟨a, st', F', fa, h1, h2, x.trans h3, h4, h5.from x⟩
end
end Vs
/-! a def that calls itself; list(range(a, b)); bit_length; a module's int -/
namespace Ev
open PySem PySem.Spec PyProof.Rows L2 Gd
section
variable {X : Cx} {K : PySem.W.Frag}
theorem FnG_no {P : Program} {w : World} {mg : Str → Option Value} {base : Heap} {k : Nat} {f : Addr} {fd : FuncData} {ps : List Str} : FnG P w K mg base k f fd ps (spOf K fun _ _ => .no) where
  len := by
    rintro vs H Q E0 ⟨_, _, _, _, _, _, _, h, _⟩
    cases h
  run := by
    rintro A outer s H args us vs Q E0 _ _ _ _ _ ⟨_, _, _, _, _, _, _, h, _⟩
    cases h
def fLRg2 (f g : FE) : FE := fun ρ st => match f ρ st with
  | .ok (.int i) st1 => (match g ρ st1 with
    | .ok (.int j) st2 => if rgOk i j then .ok (.tmp (rgA i j)) st2 else .no
    | _ => .no)
  | _ => .no
theorem dx_lrg2 {e e2 : Expr} {f g : FE} {p p2 pos pos2 : Pos} (hc : X.calm = true) (hm : X.mg "list" = none) (hm2 : X.mg "range" = none) (he : PE X e (tOf K f)) (he2 : PE X e2 (tOf K g)) (hg : Gl X "list" := by rfl) (hg2 : Gl X "range" := by rfl)
    (na : starEach [e, e2] X.env = (false, eval e X.env) :: starEach [e2] X.env := by rfl) (nb : starEach [e2] X.env = (false, eval e2 X.env) :: starEach [] X.env := by rfl) (hp : (backTo pos2 (starEach [e2] X.env)).any (·.1) = false := by rfl) (na2 : starEach [Expr.Call (.Name "range" p2) [e, e2] [] pos2] X.env = (false, eval (.Call (.Name "range" p2) [e, e2] [] pos2) X.env) :: starEach [] X.env := by rfl) : PE X (.Call (.Name "list" p) [.Call (.Name "range" p2) [e, e2] [] pos2] [] pos) (tOf K (fLRg2 f g)) := by
  refine pe_weak (pe_listRg hc hg hm (prg_2 hg2 hm2 he he2 na nb hp) na2) ?_
  rintro σ H Q ⟨μ, st, ρ, a, st', S, E, h, q⟩
  unfold fLRg2 at h
  split at h
  · rename_i i0 st1 h1
    split at h
    · rename_i j st2 h2
      split at h
      · rename_i hr
        cases h
        refine ⟨μ, st, ρ, _, _, S, E, h1, fun v μ1 H1 S1 E1 r1 f1 => ?_⟩
        refine ⟨μ1, st1, ρ, _, _, S1, E.ext S E1, h2, fun u μ2 H2 S2 E2 r2 f2 => ?_⟩
        exact ⟨i0, j, r1, r2, hr, fun t ht => (q.from (E1.trans E2)).tmp S2 ht (repL_rg i0 j)⟩
      · cases h
    · cases h
  · cases h
def fBits (f : FE) : FE := fun ρ st => match f ρ st with
  | .ok (.int i) st1 => .ok (.int (Builtin.Int.intBits i : Nat)) st1
  | _ => .no
theorem dx_bits {o : Expr} {f : FE} {apos pos : Pos} (ho : PE X o (tOf K f)) (hbase : attributeBase o "bit_length" X.env (eval o X.env) = eval o X.env := by rfl) (hline : (apos.endLine == pos.line) = true := by rfl) : PE X (.Call (.Attribute o "bit_length" apos) [] [] pos) (tOf K (fBits f)) := by
  refine pe_weak (pe_bits ho hbase hline) ?_
  rintro σ H Q ⟨μ, st, ρ, a, st', S, E, h, q⟩
  unfold fBits at h
  split at h
  · rename_i i st1 h1
    cases h
    exact ⟨μ, st, ρ, _, _, S, E, h1, fun v μ1 H1 S1 E1 r1 f1 => ⟨i, r1, (q.from E1).ok S1 rfl trivial⟩⟩
  · cases h
theorem dx_glob {x : Str} {k : Int} {pos : Pos} (hm : ∃ t, X.mg x = some (.int k t)) (hg : Gl X x := by rfl) (hd : (x == ("__debug__" : Str)) = false := by decide) : PE X (.Name x pos) (tOf K (fC (.int k))) := by
  obtain ⟨t, hm⟩ := hm
  refine pe_weak (pe_glob hg hm (v := .int k) ⟨t, rfl⟩ hd) ?_
  rintro σ H Q ⟨μ, st, ρ, a, st', S, E, h, q⟩
  cases h
  exact q.ok S rfl trivial
end
end Ev
/-! list(range(a, b)), bit_length by values -/
namespace Vs
open PySem PySem.Spec PyProof.Rows L2 Gd Ev
def vLRg2 (g h : VE) : VE := fun e => match g e with
  | some (.int i, e1) => (match h e1 with
    | some (.int j, e2) => if rgOk i j then some (.tmp (rgA i j), e2) else none
    | _ => none)
  | _ => none
def vBits (g : VE) : VE := fun e => match g e with
  | some (.int i, e1) => some (.int (Builtin.Int.intBits i : Nat), e1)
  | _ => none
section
variable {S T S1 S2 T1 T2 : List Nat}
theorem s_fLRg2 {f f2 : FE} {g g2 : VE} (ha : SE S1 T1 f g) (hb : SE S2 T2 f2 g2) : SE [] (T1 ++ T2) (fLRg2 f f2) (vLRg2 g g2) := by
  intro st ρ e F p e' E q
  unfold vLRg2 at q
  split at q
  · rename_i i e1 h1
    split at q
    · rename_i j e2 h2
      split at q
      · rename_i hc
        cases q
        obtain ⟨a, st1, F1, fa, a1, E1, x1, r1, k1⟩ := ha E h1
        obtain ⟨b, st2, F2, fb, a2, E2, x2, r2, k2⟩ := hb E1 h2
        exact ⟨_, st2, F2, [], by unfold fLRg2; rw [a1, r1.int]; simp only; rw [a2, r2.int]; exact if_pos hc, E2, x1.trans x2, .inr (.inl ⟨_, _, rfl, rfl, VrL.of_dry (dryL_rg _ _)⟩), Fro.nil⟩
      · cases q
    · cases q
  · cases q
theorem s_bits {f : FE} {g : VE} (ha : SE S T f g) : SE [] T (fBits f) (vBits g) := by
  intro st ρ e F p e' E q
  unfold vBits at q
  split at q
  · rename_i i e1 h1
    cases q
    obtain ⟨a, st1, F1, fa, a1, E1, x1, r1, k1⟩ := ha E h1
    exact ⟨_, st1, F1, [], by unfold fBits; rw [a1, r1.int], E1, x1, .inl ⟨rfl, rfl⟩, Fro.nil⟩
  · cases q
end
end Vs
/-! sorted(set(xs)), xs a list of ints -/
namespace Ev
open PySem PySem.Spec PyProof.Rows L2 Gd
section
variable {P : Program} {w : World} {A : Around} {E : Value → Shared → Prop} {s : Shared}
/-- an empty set, as it is made -/
abbrev nset (w : World) : Obj := { cls := .type "set", dict := none, data := .set #[] 0 (.fresh 0 0 (!w.params.followText "set-order")) }
abbrev hset (w : World) (s : Shared) : Shared := { s with heap := s.heap.push (nset w) }
/-- the set is filled: what is left as it was -/
abbrev Full (w : World) (s : Shared) (ns : List Int) (g : Heap) (c : Nat) : Prop :=
  SetR w g s.heap.objs.size (fun j => decide (j ∈ ns)) c ∧ c ≤ ns.length ∧ ∀ b o, s.heap.get? b = some o → g.get? b = some o
theorem set_of_list {l : Addr} {items : Array Value} (ns : List Int) {Q : Value → Shared → Prop} (hh : A.handled = none) (hl : s.heap.IsList l items) (hit : IntsAre items.toList ns) (hb : ns.length + 1 < scanBound)
    (h : ∀ (g : Heap) (tk c : Nat), Full w s ns g c → Q (.ref s.heap.objs.size) { s with heap := g, toks := tk }) : wpAny (model P w) A (call (.type "set") [.ref l]) Q E s := by
  have hsz : items.size = ns.length := (Array.length_toList (xs := items)).symm.trans (IntsAre.length hit)
  obtain ⟨c1, t1, m1⟩ := F.called_set.mro
  have m2 := F.called_set.made
  have m3 := F.called_set.sub
  have m4 := F.called_set.notType
  have m5 := F.called_set.canCreate
  have m6 := F.typeCall_set_1 (.ref l)
  have w1 := weight_type_call_type "set" [.ref l] []
  refine wpAny_call (codeAny_of_tree ?_)
  show wpAny _ _ (callAny (.type "set") _) _ _ _
  have qb := Code.quiet_builtin (args := ⟨[.type "set", .ref l], []⟩) (id := "type.__call__") (by decide +kernel)
  refine wpAny_pure ⟨qb, codeAny_builtin F.entry_type_call ?_⟩
  rw [Around.under_plain w1 rfl]
  repeat (any_goals (first | assumption | wp_step))
  have k1 : codeAny (model P w) A.in1 (.call (.builtin "set.__new__") ⟨[.type "set", .ref l], []⟩) (wants (fun v s1 => v = .ref s.heap.objs.size ∧ s1 = hset w s) E) s := code_set_led1 (.ref l) ⟨rfl, rfl⟩
  refine codeAny_mono k1 fun r s1 hr => ?_
  match r, hr with
  | .error e, hr => exact hr
  | .ok (.ret v), hr =>
    obtain ⟨rfl, rfl⟩ := hr
    have hS : (hset w s).heap.get? s.heap.objs.size = some (nset w) := Heap.get?_push_size _ rfl
    have hT : (hset w s).TypeIs (.ref s.heap.objs.size) "set" := ⟨_, hS, rfl⟩
    have i1 := F.called_set.init.lookup
    have i2 := F.called_set.init.bind (.ref s.heap.objs.size)
    repeat (any_goals (first | assumption | wp_step))
    have fill : codeAny (model P w) A.in1 (.call (.builtin "set.__init__") ⟨[.ref s.heap.objs.size, .ref l], []⟩) (wants (fun v s2 => v = .none ∧ ∃ g tk c, s2 = { s with heap := g, toks := tk } ∧ Full w s ns g c) E) (hset w s) := by
      refine codeAny_call_builtin F.called_set.init.plain F.entry_set_init (check_set_init_1 hT ?_)
      obtain ⟨ol, hol, hcl, nl, hdl⟩ := hl
      obtain ⟨kc, kd, ka, ks⟩ := ol
      simp only at hcl hdl
      subst hcl hdl
      have hlS : l < s.heap.objs.size := Heap.lt_size hol
      have hl1 : (hset w s).heap.IsList l items := ⟨_, Heap.get?_push_of_some _ hol, rfl, nl, rfl⟩
      have hz : (hset w s).heap.objs.size = s.heap.objs.size + 1 := Heap.size_push ..
      have z1 := F.sub_list_set
      have z2 := F.sub_list_frozenset
      have z3 : (Value.type "list" == Value.type "dict") = false := by decide
      have z4 := Heap.get?_push_of_some (nset w) hol
      unfold Builtin.«set.__init__» noKeywords Builtin.Frozenset.updateFrom
      generalize hPI : pyIter = PI
      wp_walk
      subst hPI
      refine wpAny_pyIter_list hl1 (wpAny_bind (wpAny_runValue ?_))
      have lt2 : s.heap.objs.size < (s.heap.push (nset w)).objs.size := Nat.lt_of_lt_of_eq (Nat.lt_succ_self _) (Heap.size_push ..).symm
      have y1 : l ≠ (s.heap.push (nset w)).objs.size := Nat.ne_of_lt (Nat.lt_trans hlS lt2)
      have y2 : s.heap.objs.size ∉ [(s.heap.push (nset w)).objs.size, l] := fun e => by
        rcases List.mem_cons.mp e with e | e
        · exact Nat.ne_of_lt lt2 e
        · exact Nat.ne_of_gt hlS (List.mem_singleton.mp e)
      have y3 : ∀ (i : Nat) (v : Value), items[i]? = some v → ∃ k t, ns[i]? = some k ∧ v = .int k t := by
        intro i v hv
        obtain ⟨t, rfl⟩ := IntsAre.int_at hit i v ((Array.getElem?_toList ..).trans hv)
        have hi : i < ns.length := hsz ▸ (Array.getElem?_eq_some_iff.mp hv).1
        exact ⟨_, t, List.getElem?_eq_getElem hi, by rw [List.getD_eq_getElem?_getD, List.getElem?_eq_getElem hi, Option.getD_some]⟩
      have y4 : A.in1.in1.in1.handled = none := hh
      refine set_update_ints (Walks.list y4 _ l y1 items).toS _ y2 ns hsz hb y3 _ 0 _ rfl (Nat.zero_le _) ⟨⟨_, Heap.get?_push_size _ rfl, rfl, rfl⟩, hl1.push _⟩ ?_ ?_
      · exact ⟨0, Nat.le_refl _, setR_new_at (Heap.get?_push_of_some _ hS)⟩
      · intro u c hm hc hR
        obtain ⟨g, g2, d2, tk, os⟩ := u
        obtain rfl : g2 = s.gens := hm.gens
        obtain rfl : d2 = s.drawn := hm.drawn
        obtain rfl : os = s.os := hm.os
        refine wpAny_pure (wpAny_pure ⟨rfl, g, tk, c, rfl, hR, hsz ▸ hc, fun b o e => ?_⟩)
        have hb0 := Heap.lt_size e
        refine hm.heap b o (fun q => ?_) (Heap.get?_push_of_some _ (Heap.get?_push_of_some _ e))
        rcases List.mem_cons.mp q with q | q
        · exact Nat.ne_of_lt hb0 q
        · exact Nat.ne_of_lt (Nat.lt_trans hb0 lt2) (List.mem_singleton.mp q)
    refine codeAny_mono fill fun r2 s2 h2 => ?_
    match r2, h2 with
    | .error e, h2 => exact h2
    | .ok (.ret v), h2 =>
      obtain ⟨rfl, g, tk, c, rfl, hf⟩ := h2
      repeat (any_goals (first | assumption | wp_step))
      exact h g tk c hf
end
section
variable {X : Cx} {K : PySem.W.Frag}
/-- the different ones, in order -/
def srtD (ns : List Int) : List Int := srtI (dedI ns)
theorem ded_spec (ns : List Int) : (dedI ns).Nodup ∧ ∀ k, k ∈ dedI ns ↔ k ∈ ns := by
  have key : ∀ (ns acc : List Int), acc.Nodup → (ns.foldl step_dedup acc).Nodup ∧ ∀ k, k ∈ ns.foldl step_dedup acc ↔ k ∈ acc ∨ k ∈ ns := by
    intro ns
    induction ns with
    | nil => intro acc h; exact ⟨h, fun k => by simp⟩
    | cons n ns ih =>
      intro acc h
      have hs : step_dedup acc n = acc ∧ n ∈ acc ∨ step_dedup acc n = acc ++ [n] ∧ n ∉ acc := by
        unfold step_dedup
        split
        · rename_i hc
          exact .inl ⟨rfl, by simpa using hc⟩
        · rename_i hc
          exact .inr ⟨rfl, by simpa using hc⟩
      rw [List.foldl_cons]
      rcases hs with ⟨e, hm⟩ | ⟨e, hm⟩
      · rw [e]
        refine ⟨(ih acc h).1, fun k => ?_⟩
        rw [(ih acc h).2, List.mem_cons]
        constructor
        · rintro (z | z)
          · exact .inl z
          · exact .inr (.inr z)
        · rintro (z | rfl | z)
          · exact .inl z
          · exact .inl hm
          · exact .inr z
      · rw [e]
        have h2 : (acc ++ [n]).Nodup := List.nodup_append.mpr ⟨h, by simp, fun a ha b hb z => hm (by rw [← List.mem_singleton.mp hb, ← z]; exact ha)⟩
        refine ⟨(ih _ h2).1, fun k => ?_⟩
        rw [(ih _ h2).2, List.mem_append, List.mem_cons, or_assoc]
        simp
  have := key ns [] List.nodup_nil
  exact ⟨this.1, fun k => by rw [show dedI ns = ns.foldl step_dedup [] from rfl, this.2]; simp⟩
theorem srtD_of {ns ms : List Int} (hs : ms.Pairwise (· < ·)) (hm : ∀ k, k ∈ ms ↔ k ∈ ns) : ms = srtD ns := by
  have hd := ded_spec ns
  refine srtI_of ?_ (hs.imp fun h => Int.le_of_lt h)
  refine (List.perm_ext_iff_of_nodup (hs.imp fun h => Int.ne_of_lt h) hd.1).mpr fun k => ?_
  rw [hm, hd.2]
def tSrtSet (K : PySem.W.Frag) (ta : TE) : TE := fun σ H Q => ta σ H fun x H1 => ∃ (l : Addr) (ns : List Int), x = .ref l ∧ SqL K H1 l (ns.map V.int) ∧ ns.length < 64 ∧ ∀ p, H1 p = none → Q (.ref p) (upd H1 p (.lst ((srtD ns).map V.int)))
theorem pe_srtSet {a : Expr} {ta : TE} {p p2 q pos : Pos} (hg : Gl X "sorted") (hm : X.mg "sorted" = none) (hg2 : Gl X "set") (hm2 : X.mg "set" = none) (ha : PE X a ta) (hc : X.calm = true := by rfl)
    (na : starEach [a] X.env = (false, eval a X.env) :: starEach [] X.env := by rfl) : PE X (.Call (.Name "sorted" p) [.Call (.Name "set" p2) [a] [] q] [] pos) (tSrtSet X.K ta) := by
  refine ⟨fun pins s σ H Q I h => ?_⟩
  refine Call_ (ld_blt I hg hm boot_sorted ?_)
  refine PyProof.Rows.callWith_builtin1 (PyProof.Rows.args_cons ?_ rfl) rfl rfl
  refine Call_ (ld_blt I hg2 hm2 boot_set ?_)
  refine PyProof.Rows.callWith_type1 (PyProof.Rows.args_cons (thn (ha.run pins s σ H _ I h) fun v s1 ⟨x, H1, I1, r1, q1⟩ => PyProof.Rows.args_nil ?_) na) na rfl
  obtain ⟨l, ns, rfl, hq, hl, q1⟩ := q1
  cases r1
  obtain ⟨its, r, pl, hz⟩ := I1.list hq
  have hi := ints_of_vals r
  refine set_of_list ns (I1.ok.hd hc) (items := its.toArray) pl.isList hi (by unfold scanBound; omega) fun g tk c hf => ?_
  refine PyProof.Rows.args_nil ?_
  obtain ⟨hR, hc2, kk⟩ := hf
  refine sorted_set (s := { s1 with heap := g, toks := tk }) hR (I1.ok.hd hc) (by omega) fun s' p out c ms k g2 o hp hg3 hi2 hs hm3 hl3 => ?_
  have hlt := hR.lt
  have hp1 : s1.heap.objs.size ≤ p := Nat.le_trans (Nat.le_of_lt hlt) hp
  have e1 : ms = srtD ns := srtD_of hs fun k => by rw [hm3, decide_eq_true_eq]
  have kall : ∀ b u, s1.heap.get? b = some u → s'.heap.get? b = some u := fun b u e => k b u (kk b u e)
  have hlen : (ms.map V.int).length ≤ sizeLine := by rw [List.length_map, hl3, sizeLine_eq]; omega
  have hn : H1 p = none := I1.hok.fresh hp1
  have J : Inv X pins σ (upd H1 p (.lst (ms.map V.int))) { s1 with heap := s'.heap, gens := s'.gens, drawn := s'.drawn, toks := s'.toks } :=
    I1.call (ch := []) (Un.laid kall hp1 hn) (I1.hok.laid kall hp1 ⟨hlen, out.toList, _, vals_of_ints hi2, hg3⟩) (by rw [g2]; exact I1.bare) (fun _ z => nomatch z)
  have e : s' = { s1 with heap := s'.heap, gens := s'.gens, drawn := s'.drawn, toks := s'.toks } := by
    cases s'
    cases o
    rfl
  rw [e]
  rw [e1] at J
  exact ⟨.ref p, _, J, rfl, q1 p hn⟩
def fSrtSet (f : FE) : FE := fun ρ st => match f ρ st with
  | .ok a st1 => (match lstOf a st1 with
    | some xs => (match intsOf xs with
      | some ns => if ns.length < 64 then .ok (.tmp ((srtD ns).map A.int)) st1 else .no
      | none => .no)
    | none => .no)
  | .no => .no
theorem dx_srtset {e : Expr} {f : FE} {p p2 q pos : Pos} (hK : X.K = K) (hc : X.calm = true) (hm : X.mg "sorted" = none) (hm2 : X.mg "set" = none) (he : PE X e (tOf K f)) (hg : Gl X "sorted" := by rfl) (hg2 : Gl X "set" := by rfl)
    (na : starEach [e] X.env = (false, eval e X.env) :: starEach [] X.env := by rfl) : PE X (.Call (.Name "sorted" p) [.Call (.Name "set" p2) [e] [] q] [] pos) (tOf K (fSrtSet f)) := by
  subst hK
  refine pe_weak (pe_srtSet hg hm hg2 hm2 he hc na) ?_
  rintro σ H Q ⟨μ, st, ρ, a, st', S, E, h, q⟩
  unfold fSrtSet at h
  split at h
  · rename_i a1 st1 h1
    split at h
    · rename_i xs h2
      split at h
      · rename_i ns h3
        split at h
        · rename_i hl
          cases h
          refine ⟨μ, st, ρ, a1, _, S, E, h1, fun v μ1 H1 S1 E1 r1 f1 => ?_⟩
          obtain ⟨p, vs, rfl, h4, h5, _⟩ := lstOf_sq S1 r1 h2
          obtain ⟨e1, _⟩ := intsOf_at h5 h3
          subst e1
          exact ⟨p, ns, rfl, h4, hl, fun t ht => (q.from E1).tmp S1 ht (repL_ints _)⟩
        · cases h
      · cases h
    · cases h
  · cases h
end
end Ev
/-! sorted(set(xs)) by values -/
namespace Vs
open PySem PySem.Spec PyProof.Rows L2 Gd Ev
def vSrtSet (g : VE) : VE := fun e => match g e with
  | some (p, e1) => (match lstOf p [] with
    | some xs => (match intsOf xs with
      | some ns => if ns.length < 64 then some (.tmp ((srtD ns).map A.int), e1) else none
      | none => none)
    | none => none)
  | none => none
section
variable {S T : List Nat}
theorem s_srtset {f : FE} {g : VE} (h : SE S T f g) : SE [] T (fSrtSet f) (vSrtSet g) := by
  intro st ρ e F p e' E q
  unfold vSrtSet at q
  split at q
  · rename_i p1 e1 h1
    split at q
    · rename_i xs h2
      split at q
      · rename_i ns h3
        split at q
        · rename_i hl
          cases q
          obtain ⟨a, st1, F1, fa, a1, E1, x1, r1, k1⟩ := h E h1
          obtain ⟨ys, fq, h4, h5, h6⟩ := r1.lstOf h2
          obtain ⟨e2, _⟩ := h5.dry (dry_of_ints h3)
          subst e2
          refine ⟨.tmp ((srtD ns).map A.int), st1, F1, [], ?_, E1, x1, .inr (.inl ⟨_, _, rfl, rfl, VrL.of_dry (dryL_ints _)⟩), Fro.nil⟩
          unfold fSrtSet
          rw [a1]
          simp only [h4, h3]
          exact if_pos hl
        · cases q
      · cases q
    · cases q
  · cases q
end
end Vs
/-! rows of blocks as values (taken from law k53), standings, more rules -/
namespace Vl
open PySem PySem.Spec PyProof.Rows L2 Gd Ev Vs
def bkA (B : List Nat) : A := .tup (nL B)
def bksA (R : List (List Nat)) : A := .tup (R.map bkA)
def rowA (R : List (List Nat)) : List A := R.map fun B => .tmp (nL B)
def stA (b : Nat) (R : List (List Nat)) : A := .tup [.int (b : Int), bksA R]
theorem dry_or {p : A} {c : Bool} (h : p.dry = true) : (p.dry || c) = true := by rw [h]; rfl
theorem dry_bs (R : List (List Nat)) : dryL (R.map bkA) = true := dryL_map fun B _ => dry_nL B
theorem dry_bk (B : List Nat) : (bkA B).dry = true := dry_nL B
theorem dry_bks (R : List (List Nat)) : (bksA R).dry = true := dry_bs R
theorem dry_st (b : Nat) (R : List (List Nat)) : (stA b R).dry = true := by
  show (true && ((bksA R).dry && true)) = true
  rw [dry_bks]
  rfl
theorem rowA_len (R : List (List Nat)) : (rowA R).length = R.length := List.length_map ..
theorem rowA_set (R : List (List Nat)) (i : Nat) (B : List Nat) : (rowA R).set i (.tmp (nL B)) = rowA (R.set i B) := by
  unfold rowA
  rw [List.map_set]
theorem rowA_at {R : List (List Nat)} {i : Nat} (h : i < R.length) : (rowA R)[i]? = some (.tmp (nL (R.getD i []))) := by
  unfold rowA
  rw [List.getElem?_map, List.getElem?_eq_getElem h, List.getD_eq_getElem?_getD, List.getElem?_eq_getElem h]
  rfl
theorem rowA_ix {R : List (List Nat)} {i : Nat} (h : i < R.length) : opIx (.tmp (rowA R)) (.int (i : Int)) [] = .ok (.tmp (nL (R.getD i []))) [] := by
  show (match atI (rowA R) (i : Int) with | some x => Ev.R.ok x ([] : Sto) | none => .no) = _
  rw [atI_nat (rowA_at h)]
theorem st_0 (b : Nat) (R : List (List Nat)) : opIx (stA b R) (.int 0) [] = .ok (.int (b : Int)) [] := rfl
theorem st_1 (b : Nat) (R : List (List Nat)) : opIx (stA b R) (.int 1) [] = .ok (bksA R) [] := rfl
theorem o_srtt (xs : List Nat) : bSrt [.tup (nL xs)] [] = .ok (.tmp (nL (isrt xs))) [] := o_srt xs
theorem isrt_len (xs : List Nat) : (isrt xs).length = xs.length := (isrt_perm xs).length_eq
theorem nL_cat {xs ys : List Nat} (h : xs.length + ys.length ≤ 1000000) : opAdd (.tmp (nL xs)) (.tmp (nL ys)) [] = .ok (.tmp (nL (xs ++ ys))) [] := by
  rw [o_catL (by rw [nL_len, nL_len]; exact h)]
  unfold nL
  rw [List.map_append]
theorem nT_cat {xs ys : List Nat} (h : xs.length + ys.length ≤ 1000000) : opAdd (.tup (nL xs)) (.tup (nL ys)) [] = .ok (.tup (nL (xs ++ ys))) [] := by
  rw [o_cat (by rw [nL_len, nL_len]; exact h)]
  unfold nL
  rw [List.map_append]
theorem srt_uniq {ys xs : List Nat} (p : ys.Perm xs) (s : ys.Pairwise (· ≤ ·)) : ys = isrt xs :=
  List.Perm.eq_of_pairwise (fun _ _ _ _ a b => Nat.le_antisymm a b) s (isrt_pair xs) (p.trans (isrt_perm xs).symm)
/-- tuple(tuple(x) for x in a list of lists) -/
theorem last_comp {js i : Nat} {S : List Nat} {e : PEnv} {R : List (List Nat)} (hs : S = [js, i]) (hj : js ≠ 99) (hlt : js < e.length) [hc : Cl e] (he : e[i]? = some (ow (.tmp (rowA R)))) (hn : e[js]? = some none) (hR : R.length ≤ 1000000) : vLc (viV [i] i) [js] (vbN js) qYes (fl (vN1 bTup (vC (rd S js) vN))) e = some (.tmp (R.map bkA), e) := by
  subst hs
  have hw : wipeE e [js] = e := by
    show e.set js none = e
    refine List.ext_getElem? fun k => ?_
    by_cases hk : js = k
    · subst hk
      rw [List.getElem?_set_self hlt, hn]
    · rw [List.getElem?_set_ne hk]
  have hwx : ∀ y, wipeE (e.set js y) [js] = e := fun y => by
    show (e.set js y).set js none = e
    rw [List.set_set]
    exact hw
  have hclr : clr e [js] = true := by
    unfold clr
    simp only [List.all_cons, List.all_nil, hn, Bool.and_true]
  by_cases hd : dryL (rowA R) = true
  · have hz : R = [] := by
      cases R with
      | nil => rfl
      | cons B R =>
        have : (A.dry (.tmp (nL B)) && dryL (rowA R)) = true := hd
        cases this
    subst hz
    exact vLc_map (vi := viV [i] i) (js := [js]) (src := []) (b := vbN js) (g := fl (vN1 bTup (vC (rd [js, i] js) vN))) (e := e) (e0 := e) (f := bkA) bkA (fun _ => e) (xs := []) (n_viV he rfl rfl (by simp)) hclr (fun B hB => (List.not_mem_nil hB).elim) (by decide)
  · have hv : viV [i] i e = some (R.map (fun B => A.tmp (nL B)), [i], e) := by
      unfold viV
      rw [he]
      simp only [A.dry, Bool.false_or, List.contains_cons, beq_self_eq_true, Bool.true_or, if_true, seqI]
      rw [if_neg hd]
      rfl
    refine vLc_map (f := fun B => A.tmp (nL B)) bkA (fun B => e.set js (some (.bor [i] (.tmp (nL B))))) hv hclr (fun B _ => ⟨?_, ?_, by rw [hwx, hw]⟩) hR
    · rw [hw]
      show (match itE [i] (A.tmp (nL B)) with | some en => vbT [] [i] [] ((kill js e).set js (some en)) | none => none) = _
      rw [hc.k js hj]
      rfl
    · refine x_fl (x_N1 (x_C (x_rdb (B := [i]) (List.getElem?_set_self hlt) ?_) x_N) (o_tup _)) (dry_nL B)
      simp
/-- blocks[..].append(x) -/
theorem n_appR {i j x : Nat} {gk : VE} {gs : VA} {e e0 e1 : PEnv} {R : List (List Nat)} [hc : Cl e1] (h1 : gk e = some (.int (j : Int), e0)) (h2 : e0[i]? = some (ow (.tmp (rowA R)))) (h3 : gs e0 = some ([.int (x : Int)], e1)) (h4 : e1[i]? = some (ow (.tmp (rowA R)))) (hj : j < R.length) (hl : (R.getD j []).length < 1000000) (hi : i ≠ 99 := by decide) :
    vM1g i aApp gk gs e = some (.non, e1.set i (ow (.tmp (rowA (R.set j (R.getD j [] ++ [x])))))) := by
  unfold vM1g
  have k1 : ixN (rowA R).length (j : Int) = some j := by rw [rowA_len]; exact ixN_nat' hj
  simp only [h1, h2, k1, rowA_at hj, h3, h4, nL_app hl, rowA_set]
  rw [hc.k i hi]
theorem n_appR1 {i j x : Nat} {gk : VE} {gs : VA} {e e1 : PEnv} {R : List (List Nat)} [hc : Cl e1] (h1 : gk e = some (.int (j : Int), e)) (h2 : e[i]? = some (ow (.tmp (rowA R)))) (h3 : gs e = some ([.int (x : Int)], e1)) (h4 : e1[i]? = some (ow (.tmp (rowA R)))) (hj : j < R.length) (hl : (R.getD j []).length < 1000000) (hi : i ≠ 99 := by decide) :
    vM1 i aApp gk gs e = some (.non, e1.set i (ow (.tmp (rowA (R.set j (R.getD j [] ++ [x])))))) := by
  have k1 : ixN (rowA R).length (j : Int) = some j := by rw [rowA_len]; exact ixN_nat' hj
  refine x_M1 (zs0 := nL (R.getD j [])) (zs := nL (R.getD j [])) h2 h1 k1 (rowA_at hj) h3 h4 k1 (rowA_at hj) (nL_app hl) ?_
  rw [rowA_set, hc.k i hi]
theorem dP_bks (R : List (List Nat)) : dP (bksA R) = some (dR R) := by
  have hv : ∀ R : List (List Nat), lvL 2 (R.map bkA) = true := by
    intro R
    induction R with
    | nil => rfl
    | cons B R ih =>
      have h1 : lv 2 (bkA B) = true := by
        show lvL 2 (nL B) = true
        rw [nL_iL]
        exact lvL_iL 2 _
      show (lv 2 (bkA B) && lvL 2 (R.map bkA)) = true
      rw [h1, ih]
      rfl
  unfold dP
  rw [if_pos (show lv 2 (bksA R) = true from hv R)]
  exact dW_tR _ R
theorem dP_st (b : Nat) (R : List (List Nat)) : dP (stA b R) = some (dSD b R) := by
  have h1 := dP_bks R
  unfold dP at h1 ⊢
  split at h1
  · rename_i h2
    have h3 : lv 2 (stA b R) = true := by
      show (lv 2 (.int (b : Int)) && (lv 2 (bksA R) && true)) = true
      rw [h2]
      rfl
    rw [if_pos h3]
    exact dW_sD _ b R
  · cases h1
theorem repr_bks {R : List (List Nat)} {m : Nat} (hm : (41 * m + 1) * R.length ≤ 1000000) (h : ∀ B ∈ R, B.length ≤ m ∧ ∀ v ∈ B, v ≤ 999999999999) : pRepr [bksA R] [] = .ok (.str (dR R).shown) [] := by
  unfold pRepr
  simp only [dP_bks]
  exact if_pos (repr_dR m hm h)
theorem repr_st {b : Nat} {R : List (List Nat)} {m : Nat} (hb : b ≤ 999999999999) (hm : (41 * m + 1) * R.length ≤ 1000000) (h : ∀ B ∈ R, B.length ≤ m ∧ ∀ v ∈ B, v ≤ 999999999999) : pRepr [stA b R] [] = .ok (.str (dSD b R).shown) [] := by
  unfold pRepr
  simp only [dP_st]
  exact if_pos (repr_dSD m hb hm h)
theorem x_viRg3 {g h k : VE} {e e1 e2 e3 : PEnv} {i j c : Int} (h1 : g e = some (.int i, e1)) (h2 : h e1 = some (.int j, e2)) (h3 : k e2 = some (.int c, e3)) (h4 : RgC i j c (Builtin.Range.rangeSize i j c).toNat) : viRg3 g h k e = some (rg3A i c (Builtin.Range.rangeSize i j c).toNat, [], e3) := by
  unfold viRg3
  simp only [h1, h2, h3]
  exact if_pos h4
theorem x_LRg2 {g h : VE} {e e1 e2 : PEnv} {i j : Int} (h1 : g e = some (.int i, e1)) (h2 : h e1 = some (.int j, e2)) (h3 : rgOk i j) : vLRg2 g h e = some (.tmp (rgA i j), e2) := by
  unfold vLRg2
  simp only [h1, h2]
  exact if_pos h3
theorem x_TRg2 {g h : VE} {e e1 e2 : PEnv} {i j : Int} (h1 : g e = some (.int i, e1)) (h2 : h e1 = some (.int j, e2)) (h3 : rgOk i j) : vTRg2 g h e = some (.tup (rgA i j), e2) := by
  unfold vTRg2
  simp only [h1, h2]
  exact if_pos h3
theorem rg2_nL (i n : Nat) : rgA (i : Int) ((i + n : Nat) : Int) = nL (List.range' i n) := by
  unfold rgA nL
  rw [show (((i + n : Nat) : Int) - (i : Int)).toNat = n by omega, List.range'_eq_map_range, List.map_map]
  refine List.map_congr_left fun k _ => ?_
  show A.int ((i : Int) + (k : Int)) = A.int (((i + k : Nat)) : Int)
  rw [Int.natCast_add]
theorem rgOk_nat {i j : Nat} (h : j ≤ 1000000) (hi : i ≤ 1000000) : rgOk (i : Int) (j : Int) := ⟨by omega, by omega, by omega, by omega, by omega⟩
theorem x_Mr' {o : Ev.F2} {g : VE} {gs : VA} {e e1 e2 : PEnv} {p q r : A} (h1 : g e = some (p, e1)) (h2 : gs e1 = some ([q], e2)) (h3 : o p q [] = .ok r []) : vMr o g gs e = some (r, e2) := x_Mr h1 h2 h3
theorem o_count (xs : List Nat) (a : Nat) : pCount (.tmp (nL xs)) (.int (a : Int)) [] = .ok (.int ((xs.count a : Nat) : Int)) [] := by
  show (match intsOf (nL xs) with | some ns => Ev.R.ok (A.int (ns.count (a : Int) : Nat)) ([] : Sto) | none => .no) = _
  rw [ints_nL]
  simp only
  congr 3
  induction xs with
  | nil => rfl
  | cons x xs ih =>
    rw [List.map_cons, List.count_cons, List.count_cons, ih]
    congr 1
    by_cases h : x = a
    · subst h; simp
    · have h2 : ¬ ((x : Int) = (a : Int)) := by omega
      simp [h, h2]
theorem shaped_nL (xs : List Nat) : SeqAt.shaped (.list (xs.map fun n : Nat => PyData.int (n : Int))) = true := by
  have := shaped_iL (xs.map fun n : Nat => (n : Int))
  rw [List.map_map] at this
  exact this
theorem dP_nL (xs : List Nat) : dP (.tmp (nL xs)) = some (.list (xs.map fun n : Nat => PyData.int (n : Int))) := by
  rw [nL_iL, dP_iL, List.map_map]
  rfl
def idxN (x : Nat) : List Nat → Nat
  | [] => 0
  | y :: ys => if y = x then 0 else idxN x ys + 1
theorem o_index {xs : List Nat} {a : Nat} (h : a ∈ xs) : pIndex (.tmp (nL xs)) (.int (a : Int)) [] = .ok (.int ((idxN a xs : Nat) : Int)) [] := by
  have hd : dP (.int (a : Int)) = some (PyData.int (a : Int)) := rfl
  unfold pIndex
  simp only [dP_nL, hd, shaped_nL]
  have key : ∀ xs : List Nat, a ∈ xs → (xs.map fun n : Nat => PyData.int (n : Int)).findIdx? (fun z => PyData.eqv z (.int (a : Int))) = some (idxN a xs) := by
    intro xs
    induction xs with
    | nil => intro h; cases h
    | cons x xs ih =>
      intro h
      rw [List.map_cons, List.findIdx?_cons, eqv_int, idxN]
      by_cases hx : x = a
      · rw [if_pos hx, decide_eq_true (by omega)]
        rfl
      · rw [if_neg hx, decide_eq_false (by omega)]
        rw [ih ((List.mem_cons.mp h).resolve_left fun z => hx z.symm)]
        rfl
  rw [key xs h]
  rfl
/-- == of tuples of numbers -/
theorem pEqTT (as bs : List Nat) : pEq (.tup (nL as)) (.tup (nL bs)) [] = .ok (.bl (decide (as = bs))) [] := by
  have hs : ∀ xs : List Nat, SeqAt.shaped (dN xs) = true := fun xs => shaped_nL xs
  simp only [pEq, dP_tup]
  show (if (SeqAt.shaped (dN as) && SeqAt.shaped (dN bs)) = true then Ev.R.ok (A.bl (PyData.eqv (dN as) (dN bs))) ([] : Sto) else .no) = _
  rw [hs, hs]
  show Ev.R.ok (A.bl (PyData.eqvAll _ _)) ([] : Sto) = _
  have key : ∀ as bs : List Nat, PyData.eqvAll (as.map fun n : Nat => PyData.int (n : Int)) (bs.map fun n : Nat => PyData.int (n : Int)) = decide (as = bs) := by
    intro as
    induction as with
    | nil => intro bs; cases bs <;> rfl
    | cons a as ih =>
      intro bs
      cases bs with
      | nil => rfl
      | cons b bs =>
        show (PyData.eqv (.int (a : Int)) (.int (b : Int)) && PyData.eqvAll _ _) = _
        rw [ih, eqv_int]
        by_cases h1 : a = b
        · subst h1
          simp
        · have h3 : ¬ ((a : Int) = (b : Int)) := by omega
          simp [h1, h3]
  rw [key]
theorem cut_dropT (xs : List Nat) {a : Nat} (ha : a ≤ xs.length) : pCut (.tup (nL xs)) (some (a : Int)) none = some (.tup (nL (xs.drop a))) := by
  unfold pCut
  simp only [dry_nL, if_true]
  congr 2
  unfold cutA
  rw [show HT.sIx (nL xs).length 0 (some (a : Int)) = min a (nL xs).length from HT.sIx_nat _ _ a, show HT.sIx (nL xs).length (nL xs).length none = (nL xs).length from rfl, nL_len, Nat.min_eq_left ha, nL_drop, List.take_of_length_le (by rw [nL_len, List.length_drop]; omega)]
theorem cut_mid (xs : List Nat) (a b : Nat) : pCut (.tmp (nL xs)) (some (a : Int)) (some (b : Int)) = some (.tmp (nL ((xs.drop a).take (b - a)))) := by
  unfold pCut
  simp only [dry_nL, if_true]
  congr 2
  unfold cutA
  rw [show HT.sIx (nL xs).length 0 (some (a : Int)) = min a (nL xs).length from HT.sIx_nat _ _ a, show HT.sIx (nL xs).length (nL xs).length (some (b : Int)) = min b (nL xs).length from HT.sIx_nat _ _ b, nL_drop, nL_take, nL_len]
  congr 1
  by_cases h1 : a ≤ xs.length
  · rw [Nat.min_eq_left h1]
    by_cases h2 : b ≤ xs.length
    · rw [Nat.min_eq_left h2]
    · rw [Nat.min_eq_right (show xs.length ≤ b by omega), List.take_of_length_le (by rw [List.length_drop]; omega), List.take_of_length_le (by rw [List.length_drop]; omega)]
  · rw [Nat.min_eq_right (show xs.length ≤ a by omega), List.drop_eq_nil_of_le (Nat.le_refl _), List.drop_eq_nil_of_le (show xs.length ≤ a by omega)]
    simp
def ddN (ns : List Nat) : List Nat := ns.foldl (fun acc x => if acc.contains x then acc else acc ++ [x]) []
theorem dd_spec (ns : List Nat) : (ddN ns).Nodup ∧ ∀ k, k ∈ ddN ns ↔ k ∈ ns := by
  have key : ∀ (ns acc : List Nat), acc.Nodup → (ns.foldl (fun acc x => if acc.contains x then acc else acc ++ [x]) acc).Nodup ∧ ∀ k, k ∈ ns.foldl (fun acc x => if acc.contains x then acc else acc ++ [x]) acc ↔ k ∈ acc ∨ k ∈ ns := by
    intro ns
    induction ns with
    | nil => intro acc h; exact ⟨h, fun k => by simp⟩
    | cons n ns ih =>
      intro acc h
      rw [List.foldl_cons]
      by_cases hm : acc.contains n = true
      · rw [if_pos hm]
        have hm' : n ∈ acc := by simpa using hm
        refine ⟨(ih acc h).1, fun k => ?_⟩
        rw [(ih acc h).2, List.mem_cons]
        constructor
        · rintro (z | z)
          · exact .inl z
          · exact .inr (.inr z)
        · rintro (z | rfl | z)
          · exact .inl z
          · exact .inl hm'
          · exact .inr z
      · rw [if_neg hm]
        have hm' : n ∉ acc := fun z => hm (by simpa using z)
        have h2 : (acc ++ [n]).Nodup := List.nodup_append.mpr ⟨h, by simp, fun a ha b hb z => hm' (by rw [← List.mem_singleton.mp hb, ← z]; exact ha)⟩
        refine ⟨(ih _ h2).1, fun k => ?_⟩
        rw [(ih _ h2).2, List.mem_append, List.mem_cons, or_assoc]
        simp
  have := key ns [] List.nodup_nil
  exact ⟨this.1, fun k => by rw [show ddN ns = ns.foldl (fun acc x => if acc.contains x then acc else acc ++ [x]) [] from rfl, this.2]; simp⟩
theorem srtD_nat (ns : List Nat) : srtD (ns.map fun n : Nat => (n : Int)) = (isrt (ddN ns)).map fun n : Nat => (n : Int) := by
  have hd := dd_spec ns
  have hp := isrt_perm (ddN ns)
  refine (srtD_of ?_ fun k => ?_).symm
  · rw [List.pairwise_map]
    have hn := hp.nodup_iff.mpr hd.1
    have := (isrt_pair (ddN ns)).and hn
    exact this.imp fun h => by have := h.1; have := h.2; omega
  · constructor
    · intro h
      obtain ⟨a, ha, rfl⟩ := List.mem_map.mp h
      exact List.mem_map.mpr ⟨a, (hd.2 a).mp (hp.mem_iff.mp ha), rfl⟩
    · intro h
      obtain ⟨a, ha, rfl⟩ := List.mem_map.mp h
      exact List.mem_map.mpr ⟨a, hp.mem_iff.mpr ((hd.2 a).mpr ha), rfl⟩
theorem x_srtset {g : VE} {e e1 : PEnv} {xs : List Nat} (h1 : g e = some (.tmp (nL xs), e1)) (h2 : xs.length < 64) : vSrtSet g e = some (.tmp (nL (isrt (ddN xs))), e1) := by
  unfold vSrtSet
  have h3 : lstOf (.tmp (nL xs)) [] = some (nL xs) := rfl
  simp only [h1, h3, ints_nL]
  rw [if_pos (by rw [List.length_map]; exact h2), srtD_nat, List.map_map]
  rfl
theorem rep_n (b q : Nat) : (List.replicate b [A.int (q : Int)]).flatten = nL (List.replicate b q) := by
  induction b with
  | zero => rfl
  | succ b ih => rw [List.replicate_succ, List.flatten_cons, ih, List.replicate_succ]; rfl
theorem o_repL {q b : Nat} (h : b ≤ 1000) : pMul (.tmp [.int (q : Int)]) (.int (b : Int)) [] = .ok (.tmp (nL (List.replicate b q))) [] := by
  have c : dryL [A.int (q : Int)] = true ∧ -(2 ^ 63) ≤ (b : Int) ∧ (b : Int) < 2 ^ 63 ∧ [A.int (q : Int)].length * (b : Int).toNat ≤ sizeLine := ⟨rfl, by omega, by omega, by
    have := size_big (n := b) (by omega)
    simp only [List.length_cons, List.length_nil, Int.toNat_natCast]
    omega⟩
  simp only [pMul]
  rw [if_pos c, Int.toNat_natCast, rep_n]
end Vl
namespace Vl
open PySem PySem.Spec PyProof.Rows L2 Gd Ev Vs
theorem perm_natL {xs : List Nat} {ys : List Int} (h : ys.Perm (xs.map fun n : Nat => (n : Int))) : ∃ zs : List Nat, iL ys = nL zs ∧ zs.Perm xs := by
  have hy : (ys.map Int.toNat).map (fun n : Nat => (n : Int)) = ys := by
    rw [List.map_map]
    conv => rhs; rw [← List.map_id ys]
    refine List.map_congr_left fun y hy => ?_
    obtain ⟨m, _, rfl⟩ := List.mem_map.mp (h.mem_iff.mp hy)
    show (((m : Int).toNat : Nat) : Int) = (m : Int)
    rw [Int.toNat_natCast]
  refine ⟨ys.map Int.toNat, by rw [nL_iL, hy], perm_cast ?_⟩
  rw [hy]
  exact h
theorem any_nat {cs : List Int} {b : Int} {n : Nat} (S : Src cs b) (n0 : 0 < n) (n1 : n < 2 ^ 60) : ∃ (k : Nat) (cs' : List Int) (b' : Int), Src cs' b' ∧ k < n ∧ v_law_any [dl cs b, .int (n : Int)] = some (.int (k : Int), dl cs' b') := by
  obtain ⟨k, cs', b', S', k0, k1, h⟩ := any_ok S (n := (n : Int)) (by omega) (by omega)
  refine ⟨k.toNat, cs', b', S', by omega, ?_⟩
  rw [show ((k.toNat : Nat) : Int) = k by omega]
  exact h
theorem shufE {x : A} {cs cs1 : List Int} {b b1 : Int} {r r1 : PEnv} {g : VE} {xs : List Nat} [hr : Cl r1] (S : Src cs1 b1) (hg : g (E x (dl cs b) r) = some (.tmp (nL xs), E x (dl cs1 b1) r1)) (hl : xs.length ≤ 1000000) : ∃ (ys : List Nat) (cs' : List Int) (b' : Int), Src cs' b' ∧ ys.Perm xs ∧ vcallD 1 v_law_mixed (vC g vN) (E x (dl cs b) r) = some (.tmp (nL ys), E x (dl cs' b') r1) := by
  obtain ⟨ys, cs', b', hp, S', h⟩ := mixed_ok (x := .tmp (nL xs)) (xs := xs.map fun n : Nat => (n : Int)) S (by rw [nL_iL]; rfl) (by rw [List.length_map]; exact hl)
  obtain ⟨zs, e, hp⟩ := perm_natL hp
  rw [e] at h
  exact ⟨zs, cs', b', S', hp, n_callD (e1 := E x (dl cs1 b1) r1) rfl (x_C hg x_N) rfl h⟩
end Vl
/-! digits of places, checked for all small cases -/
namespace M24
open Vl Ev
def readN (x m : Nat) (places : List Nat) : Nat := places.foldr (fun p acc => acc * m + x / m ^ p % m) 0
def yN (m : Nat) (order : List Nat) (x h : Nat) : Nat := (List.range h).foldl (fun y t => y + x / m ^ (order.getD t 0) % m * m ^ t) 0
def appN (R : List (List Nat)) (x i : Nat) : List (List Nat) := R.set i (R.getD i [] ++ [x])
def rowsN (N M : Nat) (f : Nat → Nat) : List (List Nat) := (List.range N).foldl (fun R x => appN R x (f x)) (List.replicate M [])
def laidN (m k : Nat) (order : List Nat) : List (List Nat) := rowsN (m ^ order.length) (m ^ (order.length - k)) fun x => readN x m (order.drop k)
def placesN (rows : List (List Nat)) : List (Option Nat) := rows.zipIdx.foldl (fun F p => p.1.foldl (fun F r => F.set r (some p.2)) F) (List.replicate (rows.map List.length).sum none)
def plN (rows : List (List Nat)) : List Nat := (placesN rows).map fun o => o.getD 0
def forN (k : Nat) (order : List Nat) : Nat := ((order.drop k).filter fun e => decide (e < k)).length
/-- all rows of n numbers below b -/
def allL (b : Nat) : Nat → List (List Nat)
  | 0 => [[]]
  | n + 1 => (allL b n).flatMap fun w => (List.range b).map fun x => x :: w
theorem mem_allL {b : Nat} : ∀ {w : List Nat}, (∀ x ∈ w, x < b) → w ∈ allL b w.length
  | [], _ => List.mem_singleton.mpr rfl
  | x :: w, h => List.mem_flatMap.mpr ⟨w, mem_allL fun y hy => h y (List.mem_cons_of_mem _ hy), List.mem_map.mpr ⟨x, List.mem_range.mpr (h x List.mem_cons_self), rfl⟩⟩
def isPerm (h : Nat) (w : List Nat) : Bool := (List.range h).all fun x => w.contains x
def dom : List (Nat × Nat) := [(2, 1), (2, 2), (2, 3), (2, 4), (3, 1), (3, 2), (3, 3)]
def okLaid (m h : Nat) (order : List Nat) (k : Nat) : Bool := (List.range (m ^ h)).all fun x => decide (yN m order x h / m ^ k = readN x m (order.drop k)) && decide (readN x m (order.drop k) < m ^ (h - k))
def good (rows : List (List Nat)) : Bool := (placesN rows).all (fun o => o.isSome) && rows.all fun B => B.all fun r => decide (r < (rows.map List.length).sum)
def okSpread (m h : Nat) (order : List Nat) (k : Nat) : Bool :=
  let R2 := laidN m k order; let G := plN R2; let d := forN k order
  good R2 && decide (((List.range' k (h - k)).filter fun t => decide (order.getD t 0 < k)).length = d) && decide (d ≤ k) &&
  (laidN m k (List.range h)).all fun B => B.all (fun r => decide (r < G.length)) && decide (isrt ((isrt (ddN (B.map fun r => G.getD r 0))).map fun a => (B.map fun r => G.getD r 0).count a) = List.replicate (m ^ d) (m ^ (k - d))) && decide (B.length < 64)
theorem chk1 : (dom.all fun p => (allL p.2 p.2).all fun order => !isPerm p.2 order || (List.range (p.2 + 1)).all fun k => okLaid p.1 p.2 order k && okSpread p.1 p.2 order k) = true := by decide +kernel
end M24
namespace M24
open Vl Ev
def chunksN (b : Nat) : Nat → List Nat → List (List Nat)
  | 0, _ => []
  | f + 1, xs => if xs = [] then [] else xs.take b :: chunksN b f (xs.drop b)
def sliceN (b n : Nat) : List (List Nat) := (List.range ((n + b - 1) / b)).map fun i => ((List.range n).drop (i * b)).take b
def twN (b rows columns : Nat) : List Nat := (List.range rows).flatMap fun r => (List.range columns).map fun c => (c * rows + r) / b
def colN (rows columns : Nat) : List Nat := (List.range columns).flatMap fun c => (List.range rows).map fun r => r * columns + c
def okTab (b rows columns : Nat) : Bool := decide (chunksN b (rows * columns + 1) (List.range (rows * columns)) = sliceN b (rows * columns)) && decide ((List.range (rows * columns)).map (fun x => idxN x (colN rows columns) / b) = twN b rows columns) && (List.range (rows * columns)).all fun x => (colN rows columns).contains x
theorem chk2 : ((List.range 5).all fun b => (List.range 6).all fun r => (List.range 6).all fun c => okTab (b + 1) (r + 1) (c + 1)) = true := by decide +kernel
def turnN (i j : Nat) : List Nat := List.range' j i ++ List.range j
def okTurn (m h i k : Nat) : Bool := let o := turnN i (h - i)
  decide (o.length = h) && o.all (fun t => decide (t < h)) && decide ((List.range h).map (fun t => if t < i then t + (h - i) else t - i) = o) && decide (twN (m ^ k) (m ^ i) (m ^ (h - i)) = plN (laidN m k o)) && okLaid m h o k && good (laidN m k o) && decide ((plN (laidN m k o)).length ≤ 1000)
theorem chk3 : (dom.all fun p => (List.range (p.2 + 1)).all fun i => (List.range (p.2 + 1)).all fun k => okTurn p.1 p.2 i k) = true := by decide +kernel
end M24
namespace Lw
open PySem PySem.Spec PyProof.Rows L2 Gd Ev
def topS (i : Nat) : Stmt := PySem.Challenge.pw_fewestpours_k24_tables_and_digits.main.body.getD i (.Pass ⟨0, 0, 0, 0⟩)
structure Zs (K : PySem.W.Frag) (mg : Str → Option Value) : Prop where
  z_abs : mg "abs" = none
  z_enumerate : mg "enumerate" = none
  z_int : mg "int" = none
  z_len : mg "len" = none
  z_list : mg "list" = none
  z_range : mg "range" = none
  z_repr : mg "repr" = none
  z_set : mg "set" = none
  z_sorted : mg "sorted" = none
  z_sum : mg "sum" = none
  z_tuple : mg "tuple" = none

abbrev s_raised : Stmt := topS 1
abbrev n_raised : List Str := ["base", "times", "product", "factor", "left"]
theorem sc_raised : FnScope n_raised ["base", "times"] (defScope s_raised) := ⟨rfl, rfl, rfl, by decide +kernel, rfl, by decide +kernel, by decide +kernel⟩
noncomputable def g_raised : FS := (sSeq (sAsg (fC (.int 1)) (gSet 2))
    (sSeq (sAsg (fVar 0) (gSet 3))
    (sSeq (sAsg (fVar 1) (gSet 4))
    (sSeq (sWhile (uB (f2 opGt (fVar 4) (fC (.int 0)))) (sSeq (sIf (uB (f2 opEq (f2 opMod (fVar 4) (fC (.int 2))) (fC (.int 1)))) (sAsg (f2 opMul (fVar 2) (fVar 3)) (gSet 2)) sNil)
    (sSeq (sAsg (f2 opDiv (fVar 4) (fC (.int 2))) (gSet 4))
    (sIf (uB (f2 opGt (fVar 4) (fC (.int 0)))) (sAsg (f2 opMul (fVar 3) (fVar 3)) (gSet 3)) sNil))))
    (sRet (fVar 2))))))
noncomputable def c_raised : FN := defn 2 3 g_raised
abbrev s_digit : Stmt := topS 3
abbrev n_digit : List Str := ["x", "m", "place"]
theorem sc_digit : FnScope n_digit ["x", "m", "place"] (defScope s_digit) := ⟨rfl, rfl, rfl, by decide +kernel, rfl, by decide +kernel, by decide +kernel⟩
noncomputable def g_digit : FS := (sRet (f2 opMod (f2 opDiv (fVar 0) (fN c_raised (aC (fB (fVar 1)) (aC (fB (fVar 2)) aN)))) (fVar 1)))
noncomputable def c_digit : FN := defn 3 0 g_digit
abbrev s_read_off : Stmt := topS 4
abbrev n_read_off : List Str := ["x", "m", "places", "number", "place"]
theorem sc_read_off : FnScope n_read_off ["x", "m", "places"] (defScope s_read_off) := ⟨rfl, rfl, rfl, by decide +kernel, rfl, by decide +kernel, by decide +kernel⟩
noncomputable def g_read_off : FS := (sSeq (sAsg (fC (.int 0)) (gSet 3))
    (sSeq (sFor (fIter (fRevT (fVar 2))) (gSet 4) (sAsg (f2 opAdd (f2 opMul (fVar 3) (fVar 1)) (fN c_digit (aC (fB (fVar 0)) (aC (fB (fVar 1)) (aC (fB (fVar 4)) aN))))) (gSet 3)))
    (sRet (fVar 3))))
noncomputable def c_read_off : FN := defn 3 2 g_read_off
abbrev s_laid_by : Stmt := topS 5
abbrev n_laid_by : List Str := ["m", "k", "order", "outer", "blocks", "x", "_", "block"]
theorem sc_laid_by : FnScope n_laid_by ["m", "k", "order"] (defScope s_laid_by) := ⟨rfl, rfl, rfl, by decide +kernel, rfl, by decide +kernel, by decide +kernel⟩
noncomputable def g_laid_by : FS := (sSeq (sAsg (fSl (fVar 2) (oS (fVar 1)) oN) (gSet 3))
    (sSeq (sAsg (fLc (fRg1 (fN c_raised (aC (fB (fVar 0)) (aC (fB (fN bLen (aC (fVar 3) aN))) aN)))) [6] (lN 6) uYes (fN mkLst aN)) (gSet 4))
    (sSeq (sFor (fRg1 (fN c_raised (aC (fB (fVar 0)) (aC (fB (fN bLen (aC (fVar 2) aN))) aN)))) (gSet 5) (sExp (fM mApp (f2 opIx (fVar 4) (fN c_read_off (aC (fB (fVar 5)) (aC (fB (fVar 0)) (aC (fB (fVar 3)) aN))))) (aC (fB (fVar 5)) aN))))
    (sRet (fN mkTup (aC (fB (fN c_raised (aC (fB (fVar 0)) (aC (fB (fVar 1)) aN)))) (aC (fB (fN bTup (aC (fLc (fIter (fVar 4)) [7] (lN 7) uYes (fN bTup (aC (fVar 7) aN))) aN))) aN)))))))
noncomputable def c_laid_by : FN := defn 3 5 g_laid_by
abbrev s_foreign_digits : Stmt := topS 6
abbrev n_foreign_digits : List Str := ["k", "order", "entry"]
theorem sc_foreign_digits : FnScope n_foreign_digits ["k", "order"] (defScope s_foreign_digits) := ⟨rfl, rfl, rfl, by decide +kernel, rfl, by decide +kernel, by decide +kernel⟩
noncomputable def g_foreign_digits : FS := (sRet (fN bLen (aC (fLc (fIter (fSl (fVar 1) (oS (fVar 0)) oN)) [2] (lN 2) (uB (f2 opLt (fVar 2) (fVar 0))) (fVar 2)) aN)))
noncomputable def c_foreign_digits : FN := defn 2 1 g_foreign_digits
abbrev s_table_standing : Stmt := topS 8
abbrev n_table_standing : List Str := ["b", "rows", "columns", "records", "at"]
theorem sc_table_standing : FnScope n_table_standing ["b", "rows", "columns"] (defScope s_table_standing) := ⟨rfl, rfl, rfl, by decide +kernel, rfl, by decide +kernel, by decide +kernel⟩
noncomputable def g_table_standing : FS := (sSeq (sAsg (fLRg1 (f2 opMul (fVar 1) (fVar 2))) (gSet 3))
    (sRet (fN mkTup (aC (fB (fVar 0)) (aC (fB (fN bTup (aC (fLc (fRg3 (fC (.int 0)) (fN bLen (aC (fVar 3) aN)) (fVar 0)) [4] (lN 4) uYes (fN bTup (aC (fSl (fVar 3) (oS (fVar 4)) (oS (f2 opAdd (fVar 4) (fVar 0)))) aN))) aN))) aN)))))
noncomputable def c_table_standing : FN := defn 3 2 g_table_standing
abbrev s_turned_wish : Stmt := topS 9
abbrev n_turned_wish : List Str := ["b", "rows", "columns", "row", "column"]
theorem sc_turned_wish : FnScope n_turned_wish ["b", "rows", "columns"] (defScope s_turned_wish) := ⟨rfl, rfl, rfl, by decide +kernel, rfl, by decide +kernel, by decide +kernel⟩
noncomputable def g_turned_wish : FS := (sRet (fN bTup (aC (fLc2 (fRg1 (fVar 1)) [3, 4] (lN 3) uYes (fVar 2) 4 uYes (f2 opDiv (f2 opAdd (f2 opMul (fVar 4) (fVar 1)) (fVar 3)) (fVar 0))) aN)))
noncomputable def c_turned_wish : FN := defn 3 2 g_turned_wish
abbrev s_turned_order : Stmt := topS 10
abbrev n_turned_order : List Str := ["i", "j"]
theorem sc_turned_order : FnScope n_turned_order ["i", "j"] (defScope s_turned_order) := ⟨rfl, rfl, rfl, by decide +kernel, rfl, by decide +kernel, by decide +kernel⟩
noncomputable def g_turned_order : FS := (sRet (f2 opAdd (fTRg2 (fVar 1) (f2 opAdd (fVar 0) (fVar 1))) (fTRg1 (fVar 1))))
noncomputable def c_turned_order : FN := defn 2 0 g_turned_order
abbrev s_law_draw : Stmt := topS 12
abbrev n_law_draw : List Str := ["script", "salt", "cells", "blend", "cell"]
theorem sc_law_draw : FnScope n_law_draw ["script", "salt"] (defScope s_law_draw) := ⟨rfl, rfl, rfl, by decide +kernel, rfl, by decide +kernel, by decide +kernel⟩
noncomputable def g_law_draw : FS := (sSeq (sAsg (fLc (fIter (fSl (fVar 0) oN (oS (fC (.int 48))))) [4] (lN 4) uYes (fN bAbs (aC (fN bInt (aC (fVar 4) aN)) aN))) (gSet 2))
    (sSeq (sAsg (f2 opAdd (fC (.int 7919)) (f2 opMul (fC (.int 104729)) (fVar 1))) (gSet 3))
    (sSeq (sFor (fIter (fVar 2)) (gSet 4) (sAsg (f2 opMod (fN bInt (aC (f2 opAdd (f2 opAdd (f2 opMul (fVar 3) (fC (.int 48271))) (f2 opMod (fVar 4) (fC (.int 2147483549)))) (fC (.int 11))) aN)) (fC (.int 2147483647))) (gSet 3)))
    (sRet (fN mkLst (aC (fB (fRev (fLc (fIter (fVar 2)) [4] (lN 4) (uB (f2 opGe (fVar 4) (f2 opPow (fC (.int 10)) (fC (.int 18))))) (fVar 4)))) (aC (fB (fVar 3)) aN)))))))
noncomputable def c_law_draw : FN := defn 2 3 g_law_draw
abbrev s_law_any : Stmt := topS 13
abbrev n_law_any : List Str := ["deal", "bound", "rest"]
theorem sc_law_any : FnScope n_law_any ["deal", "bound"] (defScope s_law_any) := ⟨rfl, rfl, rfl, by decide +kernel, rfl, by decide +kernel, by decide +kernel⟩
noncomputable def g_law_any : FS := (sSeq (sWhile (uAnd (uB (f2 opNe (f2 opIx (fVar 0) (fC (.int 0))) (fN mkLst aN))) (uB (f2 opEq (f2 opIx (f2 opIx (fVar 0) (fC (.int 0))) (fNeg (fC (.int 1)))) (fC (.int 0))))) (sExp (fM mPop (f2 opIx (fVar 0) (fC (.int 0))) aN)))
    (sSeq (sIf (uB (f2 opNe (f2 opIx (fVar 0) (fC (.int 0))) (fN mkLst aN))) (sSeq (sAsg (fN bInt (aC (fM mPop (f2 opIx (fVar 0) (fC (.int 0))) aN) aN)) (gSet 2))
    (sSeq (sExp (fM mApp (f2 opIx (fVar 0) (fC (.int 0))) (aC (fB (f2 opDiv (fVar 2) (fVar 1))) aN)))
    (sRet (f2 opMod (fVar 2) (fVar 1))))) sNil)
    (sSeq (sAsg (f2 opMod (fN bInt (aC (f2 opAdd (f2 opMul (f2 opIx (fVar 0) (fC (.int 1))) (fC (.int 40693))) (fC (.int 71))) aN)) (fC (.int 2147483647))) (gSubF (fVar 0) (fC (.int 1))))
    (sRet (f2 opMod (fN bInt (aC (f2 opDiv (f2 opIx (fVar 0) (fC (.int 1))) (fC (.int 64))) aN)) (fVar 1))))))
noncomputable def c_law_any : FN := defn 2 1 g_law_any
abbrev s_law_of : Stmt := topS 14
abbrev n_law_of : List Str := ["deal", "some"]
theorem sc_law_of : FnScope n_law_of ["deal", "some"] (defScope s_law_of) := ⟨rfl, rfl, rfl, by decide +kernel, rfl, by decide +kernel, by decide +kernel⟩
noncomputable def g_law_of : FS := (sRet (f2 opIx (fVar 1) (fN c_law_any (aC (fB (fVar 0)) (aC (fB (fN bLen (aC (fVar 1) aN))) aN)))))
noncomputable def c_law_of : FN := defn 2 0 g_law_of
abbrev s_law_mixed : Stmt := topS 15
abbrev n_law_mixed : List Str := ["deal", "some", "left", "found"]
theorem sc_law_mixed : FnScope n_law_mixed ["deal", "some"] (defScope s_law_mixed) := ⟨rfl, rfl, rfl, by decide +kernel, rfl, by decide +kernel, by decide +kernel⟩
noncomputable def g_law_mixed : FS := (sSeq (sPar 2 3 (aC (fB (fN bLst (aC (fVar 1) aN))) (aC (fB (fN mkLst aN)) aN)))
    (sSeq (sWhile (uB (f2 opNe (fVar 2) (fN mkLst aN))) (sExp (fM mApp (fVar 3) (aC (fB (fM mPopAt (fVar 2) (aC (fB (fN c_law_any (aC (fB (fVar 0)) (aC (fB (fN bLen (aC (fVar 2) aN))) aN)))) aN))) aN))))
    (sRet (fVar 3))))
noncomputable def c_law_mixed : FN := defn 2 2 g_law_mixed
abbrev s_law_power : Stmt := topS 16
abbrev n_law_power : List Str := ["m", "many", "found", "turn"]
theorem sc_law_power : FnScope n_law_power ["m", "many"] (defScope s_law_power) := ⟨rfl, rfl, rfl, by decide +kernel, rfl, by decide +kernel, by decide +kernel⟩
noncomputable def g_law_power : FS := (sSeq (sAsg (fC (.int 1)) (gSet 2))
    (sSeq (sFor (fRg1 (fVar 1)) (gSet 3) (sAsg (fN bInt (aC (f2 opMul (fVar 2) (fVar 0)) aN)) (gSet 2)))
    (sRet (fVar 2))))
noncomputable def c_law_power : FN := defn 2 2 g_law_power
abbrev s_law_digits : Stmt := topS 17
abbrev n_law_digits : List Str := ["m", "h", "x", "found", "rest", "turn"]
theorem sc_law_digits : FnScope n_law_digits ["m", "h", "x"] (defScope s_law_digits) := ⟨rfl, rfl, rfl, by decide +kernel, rfl, by decide +kernel, by decide +kernel⟩
noncomputable def g_law_digits : FS := (sSeq (sPar 3 4 (aC (fB (fN mkLst aN)) (aC (fB (fVar 2)) aN)))
    (sSeq (sFor (fRg1 (fVar 1)) (gSet 5) (sSeq (sExp (fM mApp (fVar 3) (aC (fB (f2 opMod (fVar 4) (fVar 0))) aN)))
    (sAsg (f2 opDiv (fVar 4) (fVar 0)) (gSet 4))))
    (sRet (fVar 3))))
noncomputable def c_law_digits : FN := defn 3 3 g_law_digits
abbrev s_law_laid : Stmt := topS 18
abbrev n_law_laid : List Str := ["m", "k", "order", "h", "b", "blocks", "x", "digits", "y", "t", "block"]
theorem sc_law_laid : FnScope n_law_laid ["m", "k", "order"] (defScope s_law_laid) := ⟨rfl, rfl, rfl, by decide +kernel, rfl, by decide +kernel, by decide +kernel⟩
noncomputable def g_law_laid : FS := (sSeq (sPar 3 4 (aC (fB (fN bLen (aC (fVar 2) aN))) (aC (fB (fN c_law_power (aC (fB (fVar 0)) (aC (fB (fVar 1)) aN)))) aN)))
    (sSeq (sAsg (fLc (fRg1 (fN c_law_power (aC (fB (fVar 0)) (aC (fB (f2 opSub (fVar 3) (fVar 1))) aN)))) [10] (lN 10) uYes (fN mkLst aN)) (gSet 5))
    (sSeq (sFor (fRg1 (fN c_law_power (aC (fB (fVar 0)) (aC (fB (fVar 3)) aN)))) (gSet 6) (sSeq (sPar 7 8 (aC (fB (fN c_law_digits (aC (fB (fVar 0)) (aC (fB (fVar 3)) (aC (fB (fVar 6)) aN))))) (aC (fB (fC (.int 0))) aN)))
    (sSeq (sFor (fRg1 (fVar 3)) (gSet 9) (sAsg (f2 opAdd (fVar 8) (f2 opMul (f2 opIx (fVar 7) (f2 opIx (fVar 2) (fVar 9))) (fN c_law_power (aC (fB (fVar 0)) (aC (fB (fVar 9)) aN))))) (gSet 8)))
    (sExp (fM mApp (f2 opIx (fVar 5) (f2 opDiv (fVar 8) (fVar 4))) (aC (fB (fVar 6)) aN))))))
    (sRet (fN mkTup (aC (fB (fVar 4)) (aC (fB (fN bTup (aC (fLc (fIter (fVar 5)) [10] (lN 10) uYes (fN bTup (aC (fVar 10) aN))) aN))) aN)))))))
noncomputable def c_law_laid : FN := defn 3 8 g_law_laid
abbrev s_law_column : Stmt := topS 19
abbrev n_law_column : List Str := ["rows", "columns", "found", "c", "r"]
theorem sc_law_column : FnScope n_law_column ["rows", "columns"] (defScope s_law_column) := ⟨rfl, rfl, rfl, by decide +kernel, rfl, by decide +kernel, by decide +kernel⟩
noncomputable def g_law_column : FS := (sSeq (sAsg (fN mkLst aN) (gSet 2))
    (sSeq (sFor (fRg1 (fVar 1)) (gSet 3) (sAsg (f2 opAdd (fVar 2) (fLc (fRg1 (fVar 0)) [4] (lN 4) uYes (f2 opAdd (f2 opMul (fVar 4) (fVar 1)) (fVar 3)))) (gSet 2)))
    (sRet (fVar 2))))
noncomputable def c_law_column : FN := defn 2 3 g_law_column
abbrev s_law_places : Stmt := topS 20
abbrev n_law_places : List Str := ["standing", "found", "at", "block", "record"]
theorem sc_law_places : FnScope n_law_places ["standing"] (defScope s_law_places) := ⟨rfl, rfl, rfl, by decide +kernel, rfl, by decide +kernel, by decide +kernel⟩
noncomputable def g_law_places : FS := (sSeq (sAsg (f2 opMul (fN mkLst (aC (fB (fC .non)) aN)) (fN bSum (aC (fLc (fIter (f2 opIx (fVar 0) (fC (.int 1)))) [3] (lN 3) uYes (fN bLen (aC (fVar 3) aN))) aN))) (gSet 1))
    (sSeq (sFor (fEnum (f2 opIx (fVar 0) (fC (.int 1)))) (gTupF 2 (gC (gSet 2) (gC (gSet 3) gN))) (sFor (fIter (fVar 3)) (gSet 4) (sAsg (fVar 2) (gSubF (fVar 1) (fVar 4)))))
    (sRet (fN bTup (aC (fVar 1) aN)))))
noncomputable def c_law_places : FN := defn 1 4 g_law_places
abbrev s_law_table : Stmt := topS 21
abbrev n_law_table : List Str := ["deal", "b", "rows", "columns", "many", "left", "blocks", "told", "turned", "x"]
theorem sc_law_table : FnScope n_law_table ["deal"] (defScope s_law_table) := ⟨rfl, rfl, rfl, by decide +kernel, rfl, by decide +kernel, by decide +kernel⟩
noncomputable def g_law_table : FS := (sSeq (sAsg (fN mkTup (aC (fB (f2 opAdd (fC (.int 1)) (fN c_law_any (aC (fB (fVar 0)) (aC (fB (fC (.int 5))) aN))))) (aC (fB (f2 opAdd (fC (.int 1)) (fN c_law_any (aC (fB (fVar 0)) (aC (fB (fC (.int 6))) aN))))) (aC (fB (f2 opAdd (fC (.int 1)) (fN c_law_any (aC (fB (fVar 0)) (aC (fB (fC (.int 6))) aN))))) aN)))) (gTupF 3 (gC (gSet 1) (gC (gSet 2) (gC (gSet 3) gN)))))
    (sSeq (sPar3 4 5 6 (aC (fB (f2 opMul (fVar 2) (fVar 3))) (aC (fB (fLRg1 (f2 opMul (fVar 2) (fVar 3)))) (aC (fB (fN mkLst aN)) aN))))
    (sSeq (sWhile (uB (f2 opNe (fVar 5) (fN mkLst aN))) (sSeq (sExp (fM mApp (fVar 6) (aC (fB (fN bTup (aC (fSl (fVar 5) oN (oS (fVar 1))) aN))) aN)))
    (sAsg (fSl (fVar 5) (oS (fVar 1)) oN) (gSet 5))))
    (sSeq (sIf (uB (f2 opNe (fN bRepr (aC (fNK c_table_standing (aC (fB (fVar 3)) (aC (fB (fVar 2)) (aC (fB (fVar 1)) aN)))) aN)) (fN bRepr (aC (fN mkTup (aC (fB (fVar 1)) (aC (fB (fN bTup (aC (fVar 6) aN))) aN))) aN)))) (sRet (fC (.bl false))) sNil)
    (sSeq (sAsg (fN mkTup (aC (fB (fNK c_turned_wish (aC (fB (fVar 3)) (aC (fB (fVar 2)) (aC (fB (fVar 1)) aN))))) (aC (fB (fN c_law_column (aC (fB (fVar 2)) (aC (fB (fVar 3)) aN)))) aN))) (gTupF 2 (gC (gSet 7) (gC (gSet 8) gN))))
    (sRet (f2 opEq (fN bRepr (aC (fVar 7) aN)) (fN bRepr (aC (fN bTup (aC (fLc (fRg1 (fVar 4)) [9] (lN 9) uYes (f2 opDiv (fM mIndex (fVar 8) (aC (fB (fVar 9)) aN)) (fVar 1))) aN)) aN)))))))))
noncomputable def c_law_table : FN := defn 1 9 g_law_table
abbrev s_law_spread : Stmt := topS 22
abbrev n_law_spread : List Str := ["m", "k", "order", "first", "other", "d", "block", "wished", "record", "t", "at"]
theorem sc_law_spread : FnScope n_law_spread ["m", "k", "order"] (defScope s_law_spread) := ⟨rfl, rfl, rfl, by decide +kernel, rfl, by decide +kernel, by decide +kernel⟩
noncomputable def g_law_spread : FS := (sSeq (sAsg (fN mkTup (aC (fB (fN c_law_laid (aC (fB (fVar 0)) (aC (fB (fVar 1)) (aC (fB (fTRg1 (fN bLen (aC (fVar 2) aN)))) aN))))) (aC (fB (fN c_law_places (aC (fB (fN c_law_laid (aC (fB (fVar 0)) (aC (fB (fVar 1)) (aC (fB (fVar 2)) aN))))) aN))) aN))) (gTupF 2 (gC (gSet 3) (gC (gSet 4) gN))))
    (sSeq (sAsg (fNK c_foreign_digits (aC (fB (fVar 2)) (aC (fB (fVar 1)) aN))) (gSet 5))
    (sSeq (sIf (uB (f2 opNe (fN bRepr (aC (fVar 5) aN)) (fN bRepr (aC (fN bLen (aC (fLc (fRg2 (fVar 1) (fN bLen (aC (fVar 2) aN))) [9] (lN 9) (uB (f2 opLt (f2 opIx (fVar 2) (fVar 9)) (fVar 1))) (fVar 9)) aN)) aN)))) (sRet (fC (.bl false))) sNil)
    (sSeq (sFor (fIter (f2 opIx (fVar 3) (fC (.int 1)))) (gSet 6) (sSeq (sAsg (fLc (fIter (fVar 6)) [8] (lN 8) uYes (f2 opIx (fVar 4) (fVar 8))) (gSet 7))
    (sIf (uB (f2 opNe (fN bSrt (aC (fLc (fIter (fSrtSet (fVar 7))) [10] (lN 10) uYes (fM mCount (fVar 7) (aC (fB (fVar 10)) aN))) aN)) (f2 opMul (fN mkLst (aC (fB (fN c_law_power (aC (fB (fVar 0)) (aC (fB (f2 opSub (fVar 1) (fVar 5))) aN)))) aN)) (fN c_law_power (aC (fB (fVar 0)) (aC (fB (fVar 5)) aN)))))) (sRet (fC (.bl false))) sNil)))
    (sRet (fC (.bl true)))))))
noncomputable def c_law_spread : FN := defn 3 8 g_law_spread
abbrev s_law : Stmt := topS 23
abbrev n_law : List Str := ["script", "deal", "turn", "m", "h", "order", "k", "i", "j", "t"]
theorem sc_law : FnScope n_law ["script"] (defScope s_law) := ⟨rfl, rfl, rfl, by decide +kernel, rfl, by decide +kernel, by decide +kernel⟩
noncomputable def g_law : FS := (sSeq (sAsg (fN c_law_draw (aC (fB (fVar 0)) (aC (fB (fC (.int 24))) aN))) (gSet 1))
    (sSeq (sFor (fRg1 (fC (.int 2))) (gSet 2) (sIf (uNot (uT (fN c_law_table (aC (fB (fVar 1)) aN)))) (sRet (fC (.bl false))) sNil))
    (sSeq (sAsg (f2 opAdd (fC (.int 2)) (fN c_law_any (aC (fB (fVar 1)) (aC (fB (fC (.int 2))) aN)))) (gSet 3))
    (sSeq (sAsg (f2 opAdd (fC (.int 1)) (fN c_law_any (aC (fB (fVar 1)) (aC (fB (f2 opSub (fC (.int 6)) (fVar 3))) aN)))) (gSet 4))
    (sSeq (sAsg (fN bTup (aC (fN c_law_mixed (aC (fB (fVar 1)) (aC (fB (fLRg1 (fVar 4))) aN))) aN)) (gSet 5))
    (sSeq (sFor (fRg1 (f2 opAdd (fVar 4) (fC (.int 1)))) (gSet 6) (sIf (uOr (uB (f2 opNe (fN bRepr (aC (fNK c_laid_by (aC (fB (fVar 5)) (aC (fB (fVar 6)) (aC (fB (fVar 3)) aN)))) aN)) (fN bRepr (aC (fN c_law_laid (aC (fB (fVar 3)) (aC (fB (fVar 6)) (aC (fB (fVar 5)) aN)))) aN)))) (uNot (uT (fN c_law_spread (aC (fB (fVar 3)) (aC (fB (fVar 6)) (aC (fB (fVar 5)) aN))))))) (sRet (fC (.bl false))) sNil))
    (sSeq (sAsg (fN c_law_any (aC (fB (fVar 1)) (aC (fB (f2 opAdd (fVar 4) (fC (.int 1)))) aN))) (gSet 7))
    (sSeq (sAsg (f2 opSub (fVar 4) (fVar 7)) (gSet 8))
    (sSeq (sIf (uB (f2 opNe (fN bRepr (aC (fNK c_turned_order (aC (fB (fVar 8)) (aC (fB (fVar 7)) aN))) aN)) (fN bRepr (aC (fN bTup (aC (fLc (fRg1 (fVar 4)) [9] (lN 9) uYes (fIf (uB (f2 opLt (fVar 9) (fVar 7))) (f2 opAdd (fVar 9) (fVar 8)) (f2 opSub (fVar 9) (fVar 7)))) aN)) aN)))) (sRet (fC (.bl false))) sNil)
    (sSeq (sAsg (fN c_law_any (aC (fB (fVar 1)) (aC (fB (f2 opAdd (fVar 4) (fC (.int 1)))) aN))) (gSet 6))
    (sRet (f2 opEq (fN c_turned_wish (aC (fB (fN c_law_power (aC (fB (fVar 3)) (aC (fB (fVar 6)) aN)))) (aC (fB (fN c_law_power (aC (fB (fVar 3)) (aC (fB (fVar 7)) aN)))) (aC (fB (fN c_law_power (aC (fB (fVar 3)) (aC (fB (fVar 8)) aN)))) aN)))) (fN c_law_places (aC (fB (fN c_law_laid (aC (fB (fVar 3)) (aC (fB (fVar 6)) (aC (fB (fN c_turned_order (aC (fB (fVar 7)) (aC (fB (fVar 8)) aN)))) aN))))) aN))))))))))))))
noncomputable def c_law : FN := defn 1 9 g_law
section
variable {P : Program} {w : World} {K : PySem.W.Frag} {mg : Str → Option Value} {base : Heap}
theorem ok_raised {f : Addr} {fd : FuncData} (F : Fun K "raised" "raised" s_raised f fd) (Z : Zs K mg) : FnG P w K mg base (0 + 1) f fd ["base", "times"] (spOf K c_raised) := by
  refine ok_def F sc_raised rfl fun cdv A outer s H E still hr0 => ?_
  have hr : Room 0 _ := hr0
  have st : Still _ := still
  have hu := hu_of hr
  have sc := sc_raised
  exact (dss_cons (ds_set (i := 2) sc.nd rfl (.inl rfl) dx_int) (dss_cons (ds_set (i := 3) sc.nd rfl (.inl rfl) (dv 0)) (dss_cons (ds_set (i := 4) sc.nd rfl (.inl rfl) (dv 1)) (dss_cons (ds_while PassesOwn.never (dt_cmp op_gt og_gt (dv 4) dx_int (nomark _)) (dss_cons (ds_if (dt_cmp (or_eq rfl hr.units) og_eq (dx_op op_mod (og_I (C := fun _ j => 0 < j) (f := (· % ·))) (dv 4) dx_int) dx_int (nomark _)) (dss_one (ds_set (i := 2) sc.nd rfl (.inl rfl) (dx_op (or_mul rfl) og_mul (dv 2) (dv 3)))) dss_nil) (dss_cons (ds_set (i := 4) sc.nd rfl (.inl rfl) (dx_op op_fdivW (og_I (C := CDivW) (f := (· / ·))) (dv 4) dx_int)) (dss_one (ds_if (dt_cmp op_gt og_gt (dv 4) dx_int (nomark _)) (dss_one (ds_set (i := 3) sc.nd rfl (.inl rfl) (dx_op (or_mul rfl) og_mul (dv 3) (dv 3)))) dss_nil))))) (dss_one (ds_ret (dv 2)))))))
theorem ok_digit {f : Addr} {fd : FuncData} (F : Fun K "digit" "digit" s_digit f fd) (Z : Zs K mg) (C_raised : Cal P w K mg base 1 "raised" ["base", "times"] (spOf K c_raised)) : FnG P w K mg base (1 + 1) f fd ["x", "m", "place"] (spOf K c_digit) := by
  refine ok_def F sc_digit rfl fun cdv A outer s H E still hr0 => ?_
  have hr : Room 1 _ := hr0
  have st : Still _ := still
  have hu := hu_of hr
  have sc := sc_digit
  exact (dss_one (ds_ret (dx_op op_mod (og_I (C := fun _ j => 0 < j) (f := (· % ·))) (dx_op op_fdivW (og_I (C := CDivW) (f := (· / ·))) (dv 0) (dx_call C_raised st (hr.mono (by decide)) (db_cons (dv 1) (db_cons (dv 2) db_nil)))) (dv 1))))
theorem ok_read_off {f : Addr} {fd : FuncData} (F : Fun K "read_off" "read_off" s_read_off f fd) (Z : Zs K mg) (C_digit : Cal P w K mg base 2 "digit" ["x", "m", "place"] (spOf K c_digit)) : FnG P w K mg base (2 + 1) f fd ["x", "m", "places"] (spOf K c_read_off) := by
  refine ok_def F sc_read_off rfl fun cdv A outer s H E still hr0 => ?_
  have hr : Room 2 _ := hr0
  have st : Still _ := still
  have hu := hu_of hr
  have sc := sc_read_off
  exact (dss_cons (ds_set (i := 3) sc.nd rfl (.inl rfl) dx_int) (dss_cons (ds_for PassesOwn.never rfl (di_seq rfl (dx_revT rfl (dv 2))) (dg_name (i := 4) sc.nd rfl (.inl rfl)) (dss_one (ds_set (i := 3) sc.nd rfl (.inl rfl) (dx_op (or_add rfl) og_add (dx_op (or_mul rfl) og_mul (dv 3) (dv 1)) (dx_call C_digit st (hr.mono (by decide)) (db_cons (dv 0) (db_cons (dv 1) (db_cons (dv 4) db_nil)))))))) (dss_one (ds_ret (dv 3)))))
theorem ok_laid_by {f : Addr} {fd : FuncData} (F : Fun K "laid_by" "laid_by" s_laid_by f fd) (Z : Zs K mg) (C_raised : Cal P w K mg base 1 "raised" ["base", "times"] (spOf K c_raised)) (C_read_off : Cal P w K mg base 3 "read_off" ["x", "m", "places"] (spOf K c_read_off)) : FnG P w K mg base (3 + 1) f fd ["m", "k", "order"] (spOf K c_laid_by) := by
  refine ok_def F sc_laid_by rfl fun cdv A outer s H E still hr0 => ?_
  have hr : Room 3 _ := hr0
  have st : Still _ := still
  have hu := hu_of hr
  have sc := sc_laid_by
  exact (dss_cons (ds_set (i := 3) sc.nd rfl (.inl rfl) (dx_slice rfl (dv 2) (dpo_s (dv 1)) dpo_n)) (dss_cons (ds_setLc (i := 4) (own := [("_", 6)]) rfl sc.nd rfl rfl (sw_true rfl rfl rfl (by decide +kernel)) (di_rg1 Z.z_range (dx_call C_raised st (hr.mono (by decide)) (db_cons (dv 0) (db_cons (dx_callB (cr_len rfl) on_len (da_cons (dv 3) da_nil) Z.z_len (by decide +kernel)) db_nil)))) (blk_in (N := n_laid_by) (by decide +kernel) (by repeat (first | exact trivial | exact Or.inl rfl | exact Or.inr rfl | refine And.intro ?_ ?_))) lt_name (fun _ _ _ _ _ => (pg_name (i := 6) sc.nd rfl (.inl rfl))) (fun _ _ _ _ _ => du_nil) (fun _ _ _ _ _ => (dx_lst db_nil))) (dss_cons (ds_for PassesOwn.never rfl (di_rg1 Z.z_range (dx_call C_raised st (hr.mono (by decide)) (db_cons (dv 0) (db_cons (dx_callB (cr_len rfl) on_len (da_cons (dv 2) da_nil) Z.z_len (by decide +kernel)) db_nil)))) (dg_name (i := 5) sc.nd rfl (.inl rfl)) (dss_one (ds_exp (dx_bm rfl PySem.F.plainAttrs_list PySem.F.slot_list_append PySem.F.type_list_append mt_append om_app (dx_ix (or_ix rfl) og_ix (dv 4) (dx_call C_read_off st (hr.mono (by decide)) (db_cons (dv 5) (db_cons (dv 0) (db_cons (dv 3) db_nil)))) (fun _ _ => rfl)) (db_cons (dv 5) db_nil))))) (dss_one (ds_ret (dx_tup (db_cons (dx_call C_raised st (hr.mono (by decide)) (db_cons (dv 0) (db_cons (dv 1) db_nil))) (db_cons (dx_callTy (tupXK rfl) on_tup (da_cons (dx_lc (own := [("block", 7)]) rfl sc.nd (di_seq rfl (dv 4)) (blk_in (N := n_laid_by) (by decide +kernel) (by repeat (first | exact trivial | exact Or.inl rfl | exact Or.inr rfl | refine And.intro ?_ ?_))) lt_name (fun _ _ _ _ _ => (pg_name (i := 7) sc.nd rfl (.inl rfl))) (fun _ _ _ _ _ => du_nil) (fun _ _ _ _ _ => (dx_callTy (tupXK rfl) on_tup (da_cons (dv 7) da_nil) Z.z_tuple (by decide +kernel)))) da_nil) Z.z_tuple (by decide +kernel)) db_nil))))))))
theorem ok_foreign_digits {f : Addr} {fd : FuncData} (F : Fun K "foreign_digits" "foreign_digits" s_foreign_digits f fd) (Z : Zs K mg) : FnG P w K mg base (0 + 1) f fd ["k", "order"] (spOf K c_foreign_digits) := by
  refine ok_def F sc_foreign_digits rfl fun cdv A outer s H E still hr0 => ?_
  have hr : Room 0 _ := hr0
  have st : Still _ := still
  have hu := hu_of hr
  have sc := sc_foreign_digits
  exact (dss_one (ds_ret (dx_callB (cr_len rfl) on_len (da_cons (dx_lc (own := [("entry", 2)]) rfl sc.nd (di_seq rfl (dx_slice rfl (dv 1) (dpo_s (dv 0)) dpo_n)) (blk_in (N := n_foreign_digits) (by decide +kernel) (by repeat (first | exact trivial | exact Or.inl rfl | exact Or.inr rfl | refine And.intro ?_ ?_))) lt_name (fun _ _ _ _ _ => (pg_name (i := 2) sc.nd rfl (.inl rfl))) (fun _ _ _ _ _ => (du_one (dt_cmp op_lt og_lt (dv 2) (dv 0) (nomark _)))) (fun _ _ _ _ _ => (dv 2))) da_nil) Z.z_len (by decide +kernel))))
theorem ok_table_standing {f : Addr} {fd : FuncData} (F : Fun K "table_standing" "table_standing" s_table_standing f fd) (Z : Zs K mg) : FnG P w K mg base (0 + 1) f fd ["b", "rows", "columns"] (spOf K c_table_standing) := by
  refine ok_def F sc_table_standing rfl fun cdv A outer s H E still hr0 => ?_
  have hr : Room 0 _ := hr0
  have st : Still _ := still
  have hu := hu_of hr
  have sc := sc_table_standing
  exact (dss_cons (ds_set (i := 3) sc.nd rfl (.inr rfl) (dx_lrg1 rfl Z.z_list Z.z_range (dx_op (or_mul rfl) og_mul (dv 1) (dv 2)))) (dss_one (ds_ret (dx_tup (db_cons (dv 0) (db_cons (dx_callTy (tupXK rfl) on_tup (da_cons (dx_lc (own := [("at", 4)]) rfl sc.nd (di_rg3 Z.z_range dx_int (dx_callB (cr_len rfl) on_len (da_cons (dv 3) da_nil) Z.z_len (by decide +kernel)) (dv 0)) (blk_in (N := n_table_standing) (by decide +kernel) (by repeat (first | exact trivial | exact Or.inl rfl | exact Or.inr rfl | refine And.intro ?_ ?_))) lt_name (fun _ _ _ _ _ => (pg_name (i := 4) sc.nd rfl (.inl rfl))) (fun _ _ _ _ _ => du_nil) (fun _ _ _ _ _ => (dx_callTy (tupXK rfl) on_tup (da_cons (dx_slice rfl (dv 3) (dpo_s (dv 4)) (dpo_s (dx_op (or_add rfl) og_add (dv 4) (dv 0)))) da_nil) Z.z_tuple (by decide +kernel)))) da_nil) Z.z_tuple (by decide +kernel)) db_nil))))))
theorem ok_turned_wish {f : Addr} {fd : FuncData} (F : Fun K "turned_wish" "turned_wish" s_turned_wish f fd) (Z : Zs K mg) : FnG P w K mg base (0 + 1) f fd ["b", "rows", "columns"] (spOf K c_turned_wish) := by
  refine ok_def F sc_turned_wish rfl fun cdv A outer s H E still hr0 => ?_
  have hr : Room 0 _ := hr0
  have st : Still _ := still
  have hu := hu_of hr
  have sc := sc_turned_wish
  exact (dss_one (ds_ret (dx_callTy (tupXK rfl) on_tup (da_cons (dx_lc2 (own := [("row", 3), ("column", 4)]) (j1 := 4) rfl sc.nd (di_rg1 Z.z_range (dv 1)) (blk_in (N := n_turned_wish) (by decide +kernel) (by repeat (first | exact trivial | exact Or.inl rfl | exact Or.inr rfl | refine And.intro ?_ ?_))) (by decide) (lo_name (by decide)) (fun _ _ _ _ _ => (pg_name (i := 3) sc.nd rfl (.inl rfl))) (fun _ _ _ _ _ => du_nil) (fun _ _ _ _ _ => (pi_rgR Z.z_range (dv 2))) (fun _ _ _ _ _ => (pg_name (i := 4) sc.nd rfl (.inl rfl))) (fun _ _ _ _ _ => du_nil) (fun _ _ _ _ _ => (dx_op op_fdivW (og_I (C := CDivW) (f := (· / ·))) (dx_op (or_add rfl) og_add (dx_op (or_mul rfl) og_mul (dv 4) (dv 1)) (dv 3)) (dv 0)))) da_nil) Z.z_tuple (by decide +kernel))))
theorem ok_turned_order {f : Addr} {fd : FuncData} (F : Fun K "turned_order" "turned_order" s_turned_order f fd) (Z : Zs K mg) : FnG P w K mg base (0 + 1) f fd ["i", "j"] (spOf K c_turned_order) := by
  refine ok_def F sc_turned_order rfl fun cdv A outer s H E still hr0 => ?_
  have hr : Room 0 _ := hr0
  have st : Still _ := still
  have hu := hu_of hr
  have sc := sc_turned_order
  exact (dss_one (ds_ret (dx_op (or_add rfl) og_add (dx_trg2 rfl Z.z_tuple Z.z_range (dv 1) (dx_op (or_add rfl) og_add (dv 0) (dv 1))) (dx_trg1 rfl Z.z_tuple Z.z_range (dv 1)))))
theorem ok_law_draw {f : Addr} {fd : FuncData} (F : Fun K "_law_draw" "_law_draw" s_law_draw f fd) (Z : Zs K mg) : FnG P w K mg base (0 + 1) f fd ["script", "salt"] (spOf K c_law_draw) := by
  refine ok_def F sc_law_draw rfl fun cdv A outer s H E still hr0 => ?_
  have hr : Room 0 _ := hr0
  have st : Still _ := still
  have hu := hu_of hr
  have sc := sc_law_draw
  exact (dss_cons (ds_setLc (i := 2) (own := [("cell", 4)]) rfl sc.nd rfl rfl (sw_true rfl rfl rfl (by decide +kernel)) (di_seq rfl (dx_slice rfl (dv 0) dpo_n (dpo_s dx_int))) (blk_in (N := n_law_draw) (by decide +kernel) (by repeat (first | exact trivial | exact Or.inl rfl | exact Or.inr rfl | refine And.intro ?_ ?_))) lt_name (fun _ _ _ _ _ => (pg_name (i := 4) sc.nd rfl (.inl rfl))) (fun _ _ _ _ _ => du_nil) (fun _ _ _ _ _ => (dx_callB call_abs on_abs (da_cons (dx_callTy call_int1 on_int (da_cons (dv 4) da_nil) Z.z_int (by decide +kernel)) da_nil) Z.z_abs (by decide +kernel)))) (dss_cons (ds_set (i := 3) sc.nd rfl (.inl rfl) (dx_op (or_add rfl) og_add dx_int (dx_op (or_mul rfl) og_mul dx_int (dv 1)))) (dss_cons (ds_for PassesOwn.never rfl (di_seq rfl (dv 2)) (dg_name (i := 4) sc.nd rfl (.inl rfl)) (dss_one (ds_set (i := 3) sc.nd rfl (.inl rfl) (dx_op op_mod (og_I (C := fun _ j => 0 < j) (f := (· % ·))) (dx_callTy call_int1 on_int (da_cons (dx_op (or_add rfl) og_add (dx_op (or_add rfl) og_add (dx_op (or_mul rfl) og_mul (dv 3) dx_int) (dx_op op_mod (og_I (C := fun _ j => 0 < j) (f := (· % ·))) (dv 4) dx_int)) dx_int) da_nil) Z.z_int (by decide +kernel)) dx_int)))) (dss_one (ds_ret (dx_lst (db_cons (dx_rev rfl (dx_lc (own := [("cell", 4)]) rfl sc.nd (di_seq rfl (dv 2)) (blk_in (N := n_law_draw) (by decide +kernel) (by repeat (first | exact trivial | exact Or.inl rfl | exact Or.inr rfl | refine And.intro ?_ ?_))) lt_name (fun _ _ _ _ _ => (pg_name (i := 4) sc.nd rfl (.inl rfl))) (fun _ _ _ _ _ => (du_one (dt_cmp op_ge og_ge (dv 4) (dx_op op_pow (og_I (C := CPow) (f := fun i j => i ^ j.toNat)) dx_int dx_int) (nomark _)))) (fun _ _ _ _ _ => (dv 4)))) (db_cons (dv 3) db_nil))))))))
theorem ok_law_any {f : Addr} {fd : FuncData} (F : Fun K "_law_any" "_law_any" s_law_any f fd) (Z : Zs K mg) : FnG P w K mg base (0 + 1) f fd ["deal", "bound"] (spOf K c_law_any) := by
  refine ok_def F sc_law_any rfl fun cdv A outer s H E still hr0 => ?_
  have hr : Room 0 _ := hr0
  have st : Still _ := still
  have hu := hu_of hr
  have sc := sc_law_any
  exact (dss_cons (ds_while PassesOwn.never (PW.pt (dw_and (dt_cmp (or_ne rfl hr.units) og_ne (dx_ix (or_ix rfl) og_ix (dv 0) dx_int (fun _ _ => rfl)) (dx_lst db_nil) (nomark _)) (dw_and1 (dt_cmp (or_eq rfl hr.units) og_eq (dx_ix (or_ix rfl) og_ix (dx_ix (or_ix rfl) og_ix (dv 0) dx_int (fun _ _ => rfl)) (dx_neg dx_int) (fun _ _ => rfl)) dx_int (nomark _))))) (dss_one (ds_exp (dx_bm0 rfl PySem.F.plainAttrs_list PySem.F.slot_list_pop PySem.F.type_list_pop mt_pop om_pop (dx_ix (or_ix rfl) og_ix (dv 0) dx_int (fun _ _ => rfl)))))) (dss_cons (ds_if (dt_cmp (or_ne rfl hr.units) og_ne (dx_ix (or_ix rfl) og_ix (dv 0) dx_int (fun _ _ => rfl)) (dx_lst db_nil) (nomark _)) (dss_cons (ds_set (i := 2) sc.nd rfl (.inl rfl) (dx_callTy call_int1 on_int (da_cons (dx_bm0 rfl PySem.F.plainAttrs_list PySem.F.slot_list_pop PySem.F.type_list_pop mt_pop om_pop (dx_ix (or_ix rfl) og_ix (dv 0) dx_int (fun _ _ => rfl))) da_nil) Z.z_int (by decide +kernel))) (dss_cons (ds_exp (dx_bm rfl PySem.F.plainAttrs_list PySem.F.slot_list_append PySem.F.type_list_append mt_append om_app (dx_ix (or_ix rfl) og_ix (dv 0) dx_int (fun _ _ => rfl)) (db_cons (dx_op op_fdivW (og_I (C := CDivW) (f := (· / ·))) (dv 2) (dv 1)) db_nil))) (dss_one (ds_ret (dx_op op_mod (og_I (C := fun _ j => 0 < j) (f := (· % ·))) (dv 2) (dv 1)))))) dss_nil) (dss_cons (ds_asg (dx_op op_mod (og_I (C := fun _ j => 0 < j) (f := (· % ·))) (dx_callTy call_int1 on_int (da_cons (dx_op (or_add rfl) og_add (dx_op (or_mul rfl) og_mul (dx_ix (or_ix rfl) og_ix (dv 0) dx_int (fun _ _ => rfl)) dx_int) dx_int) da_nil) Z.z_int (by decide +kernel)) dx_int) (dg_sub (dv 0) dx_int)) (dss_one (ds_ret (dx_op op_mod (og_I (C := fun _ j => 0 < j) (f := (· % ·))) (dx_callTy call_int1 on_int (da_cons (dx_op op_fdivW (og_I (C := CDivW) (f := (· / ·))) (dx_ix (or_ix rfl) og_ix (dv 0) dx_int (fun _ _ => rfl)) dx_int) da_nil) Z.z_int (by decide +kernel)) (dv 1)))))))
theorem ok_law_of {f : Addr} {fd : FuncData} (F : Fun K "_law_of" "_law_of" s_law_of f fd) (Z : Zs K mg) (C_law_any : Cal P w K mg base 1 "_law_any" ["deal", "bound"] (spOf K c_law_any)) : FnG P w K mg base (1 + 1) f fd ["deal", "some"] (spOf K c_law_of) := by
  refine ok_def F sc_law_of rfl fun cdv A outer s H E still hr0 => ?_
  have hr : Room 1 _ := hr0
  have st : Still _ := still
  have hu := hu_of hr
  have sc := sc_law_of
  exact (dss_one (ds_ret (dx_ix (or_ix rfl) og_ix (dv 1) (dx_call C_law_any st (hr.mono (by decide)) (db_cons (dv 0) (db_cons (dx_callB (cr_len rfl) on_len (da_cons (dv 1) da_nil) Z.z_len (by decide +kernel)) db_nil))) (fun _ _ => rfl))))
theorem ok_law_mixed {f : Addr} {fd : FuncData} (F : Fun K "_law_mixed" "_law_mixed" s_law_mixed f fd) (Z : Zs K mg) (C_law_any : Cal P w K mg base 1 "_law_any" ["deal", "bound"] (spOf K c_law_any)) : FnG P w K mg base (1 + 1) f fd ["deal", "some"] (spOf K c_law_mixed) := by
  refine ok_def F sc_law_mixed rfl fun cdv A outer s H E still hr0 => ?_
  have hr : Room 1 _ := hr0
  have st : Still _ := still
  have hu := hu_of hr
  have sc := sc_law_mixed
  exact (dss_cons (ds_par (i := 2) (j := 3) rfl sc.nd rfl rfl (by decide) rfl rfl (db_cons (dx_callTy (lstK rfl) on_lst (da_cons (dv 1) da_nil) Z.z_list (by decide +kernel)) (db_cons (dx_lst db_nil) db_nil)) (by rfl)) (dss_cons (ds_while PassesOwn.never (dt_cmp (or_ne rfl hr.units) og_ne (dv 2) (dx_lst db_nil) (nomark _)) (dss_one (ds_exp (dx_bm rfl PySem.F.plainAttrs_list PySem.F.slot_list_append PySem.F.type_list_append mt_append om_app (dv 3) (db_cons (dx_bm rfl PySem.F.plainAttrs_list PySem.F.slot_list_pop PySem.F.type_list_pop mt_popAt om_popAt (dv 2) (db_cons (dx_call C_law_any st (hr.mono (by decide)) (db_cons (dv 0) (db_cons (dx_callB (cr_len rfl) on_len (da_cons (dv 2) da_nil) Z.z_len (by decide +kernel)) db_nil))) db_nil)) db_nil))))) (dss_one (ds_ret (dv 3)))))
theorem ok_law_power {f : Addr} {fd : FuncData} (F : Fun K "_law_power" "_law_power" s_law_power f fd) (Z : Zs K mg) : FnG P w K mg base (0 + 1) f fd ["m", "many"] (spOf K c_law_power) := by
  refine ok_def F sc_law_power rfl fun cdv A outer s H E still hr0 => ?_
  have hr : Room 0 _ := hr0
  have st : Still _ := still
  have hu := hu_of hr
  have sc := sc_law_power
  exact (dss_cons (ds_set (i := 2) sc.nd rfl (.inl rfl) dx_int) (dss_cons (ds_for PassesOwn.never rfl (di_rg1 Z.z_range (dv 1)) (dg_name (i := 3) sc.nd rfl (.inl rfl)) (dss_one (ds_set (i := 2) sc.nd rfl (.inl rfl) (dx_callTy call_int1 on_int (da_cons (dx_op (or_mul rfl) og_mul (dv 2) (dv 0)) da_nil) Z.z_int (by decide +kernel))))) (dss_one (ds_ret (dv 2)))))
theorem ok_law_digits {f : Addr} {fd : FuncData} (F : Fun K "_law_digits" "_law_digits" s_law_digits f fd) (Z : Zs K mg) : FnG P w K mg base (0 + 1) f fd ["m", "h", "x"] (spOf K c_law_digits) := by
  refine ok_def F sc_law_digits rfl fun cdv A outer s H E still hr0 => ?_
  have hr : Room 0 _ := hr0
  have st : Still _ := still
  have hu := hu_of hr
  have sc := sc_law_digits
  exact (dss_cons (ds_par (i := 3) (j := 4) rfl sc.nd rfl rfl (by decide) rfl rfl (db_cons (dx_lst db_nil) (db_cons (dv 2) db_nil)) (by rfl)) (dss_cons (ds_for PassesOwn.never rfl (di_rg1 Z.z_range (dv 1)) (dg_name (i := 5) sc.nd rfl (.inl rfl)) (dss_cons (ds_exp (dx_bm rfl PySem.F.plainAttrs_list PySem.F.slot_list_append PySem.F.type_list_append mt_append om_app (dv 3) (db_cons (dx_op op_mod (og_I (C := fun _ j => 0 < j) (f := (· % ·))) (dv 4) (dv 0)) db_nil))) (dss_one (ds_set (i := 4) sc.nd rfl (.inl rfl) (dx_op op_fdivW (og_I (C := CDivW) (f := (· / ·))) (dv 4) (dv 0)))))) (dss_one (ds_ret (dv 3)))))
theorem ok_law_laid {f : Addr} {fd : FuncData} (F : Fun K "_law_laid" "_law_laid" s_law_laid f fd) (Z : Zs K mg) (C_law_power : Cal P w K mg base 1 "_law_power" ["m", "many"] (spOf K c_law_power)) (C_law_digits : Cal P w K mg base 1 "_law_digits" ["m", "h", "x"] (spOf K c_law_digits)) : FnG P w K mg base (1 + 1) f fd ["m", "k", "order"] (spOf K c_law_laid) := by
  refine ok_def F sc_law_laid rfl fun cdv A outer s H E still hr0 => ?_
  have hr : Room 1 _ := hr0
  have st : Still _ := still
  have hu := hu_of hr
  have sc := sc_law_laid
  exact (dss_cons (ds_par (i := 3) (j := 4) rfl sc.nd rfl rfl (by decide) rfl rfl (db_cons (dx_callB (cr_len rfl) on_len (da_cons (dv 2) da_nil) Z.z_len (by decide +kernel)) (db_cons (dx_call C_law_power st (hr.mono (by decide)) (db_cons (dv 0) (db_cons (dv 1) db_nil))) db_nil)) (by rfl)) (dss_cons (ds_setLc (i := 5) (own := [("block", 10)]) rfl sc.nd rfl rfl (sw_true rfl rfl rfl (by decide +kernel)) (di_rg1 Z.z_range (dx_call C_law_power st (hr.mono (by decide)) (db_cons (dv 0) (db_cons (dx_op op_sub og_sub (dv 3) (dv 1)) db_nil)))) (blk_in (N := n_law_laid) (by decide +kernel) (by repeat (first | exact trivial | exact Or.inl rfl | exact Or.inr rfl | refine And.intro ?_ ?_))) lt_name (fun _ _ _ _ _ => (pg_name (i := 10) sc.nd rfl (.inl rfl))) (fun _ _ _ _ _ => du_nil) (fun _ _ _ _ _ => (dx_lst db_nil))) (dss_cons (ds_for PassesOwn.never rfl (di_rg1 Z.z_range (dx_call C_law_power st (hr.mono (by decide)) (db_cons (dv 0) (db_cons (dv 3) db_nil)))) (dg_name (i := 6) sc.nd rfl (.inl rfl)) (dss_cons (ds_par (i := 7) (j := 8) rfl sc.nd rfl rfl (by decide) rfl rfl (db_cons (dx_call C_law_digits st (hr.mono (by decide)) (db_cons (dv 0) (db_cons (dv 3) (db_cons (dv 6) db_nil)))) (db_cons dx_int db_nil)) (by rfl)) (dss_cons (ds_for PassesOwn.never rfl (di_rg1 Z.z_range (dv 3)) (dg_name (i := 9) sc.nd rfl (.inl rfl)) (dss_one (ds_set (i := 8) sc.nd rfl (.inl rfl) (dx_op (or_add rfl) og_add (dv 8) (dx_op (or_mul rfl) og_mul (dx_ix (or_ix rfl) og_ix (dv 7) (dx_ix (or_ix rfl) og_ix (dv 2) (dv 9) (fun _ _ => rfl)) (fun _ _ => rfl)) (dx_call C_law_power st (hr.mono (by decide)) (db_cons (dv 0) (db_cons (dv 9) db_nil)))))))) (dss_one (ds_exp (dx_bm rfl PySem.F.plainAttrs_list PySem.F.slot_list_append PySem.F.type_list_append mt_append om_app (dx_ix (or_ix rfl) og_ix (dv 5) (dx_op op_fdivW (og_I (C := CDivW) (f := (· / ·))) (dv 8) (dv 4)) (fun _ _ => rfl)) (db_cons (dv 6) db_nil))))))) (dss_one (ds_ret (dx_tup (db_cons (dv 4) (db_cons (dx_callTy (tupXK rfl) on_tup (da_cons (dx_lc (own := [("block", 10)]) rfl sc.nd (di_seq rfl (dv 5)) (blk_in (N := n_law_laid) (by decide +kernel) (by repeat (first | exact trivial | exact Or.inl rfl | exact Or.inr rfl | refine And.intro ?_ ?_))) lt_name (fun _ _ _ _ _ => (pg_name (i := 10) sc.nd rfl (.inl rfl))) (fun _ _ _ _ _ => du_nil) (fun _ _ _ _ _ => (dx_callTy (tupXK rfl) on_tup (da_cons (dv 10) da_nil) Z.z_tuple (by decide +kernel)))) da_nil) Z.z_tuple (by decide +kernel)) db_nil))))))))
theorem ok_law_column {f : Addr} {fd : FuncData} (F : Fun K "_law_column" "_law_column" s_law_column f fd) (Z : Zs K mg) : FnG P w K mg base (0 + 1) f fd ["rows", "columns"] (spOf K c_law_column) := by
  refine ok_def F sc_law_column rfl fun cdv A outer s H E still hr0 => ?_
  have hr : Room 0 _ := hr0
  have st : Still _ := still
  have hu := hu_of hr
  have sc := sc_law_column
  exact (dss_cons (ds_set (i := 2) sc.nd rfl (.inl rfl) (dx_lst db_nil)) (dss_cons (ds_for PassesOwn.never rfl (di_rg1 Z.z_range (dv 1)) (dg_name (i := 3) sc.nd rfl (.inr rfl)) (dss_one (ds_set (i := 2) sc.nd rfl (.inl rfl) (dx_op (or_add rfl) og_add (dv 2) (dx_lc (own := [("r", 4)]) rfl sc.nd (di_rg1 Z.z_range (dv 0)) (blk_in (N := n_law_column) (by decide +kernel) (by repeat (first | exact trivial | exact Or.inl rfl | exact Or.inr rfl | refine And.intro ?_ ?_))) lt_name (fun _ _ _ _ _ => (pg_name (i := 4) sc.nd rfl (.inl rfl))) (fun _ _ _ _ _ => du_nil) (fun _ _ _ _ _ => (dx_op (or_add rfl) og_add (dx_op (or_mul rfl) og_mul (dv 4) (dv 1)) (dv 3)))))))) (dss_one (ds_ret (dv 2)))))
theorem ok_law_places {f : Addr} {fd : FuncData} (F : Fun K "_law_places" "_law_places" s_law_places f fd) (Z : Zs K mg) : FnG P w K mg base (0 + 1) f fd ["standing"] (spOf K c_law_places) := by
  refine ok_def F sc_law_places rfl fun cdv A outer s H E still hr0 => ?_
  have hr : Room 0 _ := hr0
  have st : Still _ := still
  have hu := hu_of hr
  have sc := sc_law_places
  exact (dss_cons (ds_set (i := 1) sc.nd rfl (.inl rfl) (dx_op (or_mul rfl) og_mul (dx_lst (db_cons dx_non db_nil)) (dx_callB (sum2K rfl rfl) on_sum (da_cons (dx_lc (own := [("block", 3)]) rfl sc.nd (di_seq rfl (dx_ix (or_ix rfl) og_ix (dv 0) dx_int (fun _ _ => rfl))) (blk_in (N := n_law_places) (by decide +kernel) (by repeat (first | exact trivial | exact Or.inl rfl | exact Or.inr rfl | refine And.intro ?_ ?_))) lt_name (fun _ _ _ _ _ => (pg_name (i := 3) sc.nd rfl (.inl rfl))) (fun _ _ _ _ _ => du_nil) (fun _ _ _ _ _ => (dx_callB (cr_len rfl) on_len (da_cons (dv 3) da_nil) Z.z_len (by decide +kernel)))) da_nil) Z.z_sum (by decide +kernel)))) (dss_cons (ds_for PassesOwn.never rfl (di_enum rfl Z.z_enumerate (dx_ix (or_ix rfl) og_ix (dv 0) dx_int (fun _ _ => rfl))) (dg_tup rfl rfl (dgs_cons (dg_name (i := 2) sc.nd rfl (.inl rfl)) (dgs_cons (dg_name (i := 3) sc.nd rfl (.inl rfl)) dgs_nil))) (dss_one (ds_for PassesOwn.never rfl (di_seq rfl (dv 3)) (dg_name (i := 4) sc.nd rfl (.inl rfl)) (dss_one (ds_asg (dv 2) (dg_sub (dv 1) (dv 4))))))) (dss_one (ds_ret (dx_callTy (tupXK rfl) on_tup (da_cons (dv 1) da_nil) Z.z_tuple (by decide +kernel))))))
theorem ok_law_table {f : Addr} {fd : FuncData} (F : Fun K "_law_table" "_law_table" s_law_table f fd) (Z : Zs K mg) (C_table_standing : Cal P w K mg base 1 "table_standing" ["b", "rows", "columns"] (spOf K c_table_standing)) (kb_table_standing : KBinds K C_table_standing.fd ["b", "rows", "columns"] ["columns", "rows", "b"] (fun us ws => us ++ ws.reverse) (fun us ws => us ++ ws.reverse)) (C_turned_wish : Cal P w K mg base 1 "turned_wish" ["b", "rows", "columns"] (spOf K c_turned_wish)) (kb_turned_wish : KBinds K C_turned_wish.fd ["b", "rows", "columns"] ["columns", "rows", "b"] (fun us ws => us ++ ws.reverse) (fun us ws => us ++ ws.reverse)) (C_law_any : Cal P w K mg base 1 "_law_any" ["deal", "bound"] (spOf K c_law_any)) (C_law_column : Cal P w K mg base 1 "_law_column" ["rows", "columns"] (spOf K c_law_column)) : FnG P w K mg base (1 + 1) f fd ["deal"] (spOf K c_law_table) := by
  refine ok_def F sc_law_table rfl fun cdv A outer s H E still hr0 => ?_
  have hr : Room 1 _ := hr0
  have st : Still _ := still
  have hu := hu_of hr
  have sc := sc_law_table
  exact (dss_cons (ds_asg (dx_tup (db_cons (dx_op (or_add rfl) og_add dx_int (dx_call C_law_any st (hr.mono (by decide)) (db_cons (dv 0) (db_cons dx_int db_nil)))) (db_cons (dx_op (or_add rfl) og_add dx_int (dx_call C_law_any st (hr.mono (by decide)) (db_cons (dv 0) (db_cons dx_int db_nil)))) (db_cons (dx_op (or_add rfl) og_add dx_int (dx_call C_law_any st (hr.mono (by decide)) (db_cons (dv 0) (db_cons dx_int db_nil)))) db_nil)))) (dg_tup rfl rfl (dgs_cons (dg_name (i := 1) sc.nd rfl (.inr rfl)) (dgs_cons (dg_name (i := 2) sc.nd rfl (.inl rfl)) (dgs_cons (dg_name (i := 3) sc.nd rfl (.inl rfl)) dgs_nil))))) (dss_cons (ds_par3 (i := 4) (j := 5) (l := 6) rfl sc.nd rfl rfl rfl (by decide) (by decide) (by decide) rfl rfl rfl (db_cons (dx_op (or_mul rfl) og_mul (dv 2) (dv 3)) (db_cons (dx_lrg1 rfl Z.z_list Z.z_range (dx_op (or_mul rfl) og_mul (dv 2) (dv 3))) (db_cons (dx_lst db_nil) db_nil))) (by rfl)) (dss_cons (ds_while PassesOwn.never (dt_cmp (or_ne rfl hr.units) og_ne (dv 5) (dx_lst db_nil) (nomark _)) (dss_cons (ds_exp (dx_bm rfl PySem.F.plainAttrs_list PySem.F.slot_list_append PySem.F.type_list_append mt_append om_app (dv 6) (db_cons (dx_callTy (tupXK rfl) on_tup (da_cons (dx_slice rfl (dv 5) dpo_n (dpo_s (dv 1))) da_nil) Z.z_tuple (by decide +kernel)) db_nil))) (dss_one (ds_set (i := 5) sc.nd rfl (.inl rfl) (dx_slice rfl (dv 5) (dpo_s (dv 1)) dpo_n))))) (dss_cons (ds_if (dt_cmp (or_ne rfl hr.units) og_ne (dx_callB (reprS rfl st hr.units) on_repr (da_cons (dx_callK C_table_standing kb_table_standing st (hr.mono (by decide)) (dk_cons (dv 3) (dk_cons (dv 2) (dk_cons (dv 1) dk_nil)))) da_nil) Z.z_repr (by decide +kernel)) (dx_callB (reprS rfl st hr.units) on_repr (da_cons (dx_tup (db_cons (dv 1) (db_cons (dx_callTy (tupXK rfl) on_tup (da_cons (dv 6) da_nil) Z.z_tuple (by decide +kernel)) db_nil))) da_nil) Z.z_repr (by decide +kernel)) (nomark _)) (dss_one (ds_ret dx_bl)) dss_nil) (dss_cons (ds_asg (dx_tup (db_cons (dx_callK C_turned_wish kb_turned_wish st (hr.mono (by decide)) (dk_cons (dv 3) (dk_cons (dv 2) (dk_cons (dv 1) dk_nil)))) (db_cons (dx_call C_law_column st (hr.mono (by decide)) (db_cons (dv 2) (db_cons (dv 3) db_nil))) db_nil))) (dg_tup rfl rfl (dgs_cons (dg_name (i := 7) sc.nd rfl (.inl rfl)) (dgs_cons (dg_name (i := 8) sc.nd rfl (.inr rfl)) dgs_nil)))) (dss_one (ds_ret (dx_cmp (or_eq rfl hr.units) og_eq (dx_callB (reprS rfl st hr.units) on_repr (da_cons (dv 7) da_nil) Z.z_repr (by decide +kernel)) (dx_callB (reprS rfl st hr.units) on_repr (da_cons (dx_callTy (tupXK rfl) on_tup (da_cons (dx_lc (own := [("x", 9)]) rfl sc.nd (di_rg1 Z.z_range (dv 4)) (blk_in (N := n_law_table) (by decide +kernel) (by repeat (first | exact trivial | exact Or.inl rfl | exact Or.inr rfl | refine And.intro ?_ ?_))) lt_name (fun _ _ _ _ _ => (pg_name (i := 9) sc.nd rfl (.inl rfl))) (fun _ _ _ _ _ => du_nil) (fun _ _ _ _ _ => (dx_op op_fdivW (og_I (C := CDivW) (f := (· / ·))) (dx_bm rfl PySem.F.plainAttrs_list PySem.F.slot_list_index PySem.F.type_list_index (mt_indexK rfl (units65 hr)) om_index (dv 8) (db_cons (dv 9) db_nil)) (dv 1)))) da_nil) Z.z_tuple (by decide +kernel)) da_nil) Z.z_repr (by decide +kernel)) (nomark _)))))))))
theorem ok_law_spread {f : Addr} {fd : FuncData} (F : Fun K "_law_spread" "_law_spread" s_law_spread f fd) (Z : Zs K mg) (C_foreign_digits : Cal P w K mg base 1 "foreign_digits" ["k", "order"] (spOf K c_foreign_digits)) (kb_foreign_digits : KBinds K C_foreign_digits.fd ["k", "order"] ["order", "k"] (fun us ws => us ++ ws.reverse) (fun us ws => us ++ ws.reverse)) (C_law_power : Cal P w K mg base 1 "_law_power" ["m", "many"] (spOf K c_law_power)) (C_law_laid : Cal P w K mg base 2 "_law_laid" ["m", "k", "order"] (spOf K c_law_laid)) (C_law_places : Cal P w K mg base 1 "_law_places" ["standing"] (spOf K c_law_places)) : FnG P w K mg base (2 + 1) f fd ["m", "k", "order"] (spOf K c_law_spread) := by
  refine ok_def F sc_law_spread rfl fun cdv A outer s H E still hr0 => ?_
  have hr : Room 2 _ := hr0
  have st : Still _ := still
  have hu := hu_of hr
  have sc := sc_law_spread
  exact (dss_cons (ds_asg (dx_tup (db_cons (dx_call C_law_laid st (hr.mono (by decide)) (db_cons (dv 0) (db_cons (dv 1) (db_cons (dx_trg1 rfl Z.z_tuple Z.z_range (dx_callB (cr_len rfl) on_len (da_cons (dv 2) da_nil) Z.z_len (by decide +kernel))) db_nil)))) (db_cons (dx_call C_law_places st (hr.mono (by decide)) (db_cons (dx_call C_law_laid st (hr.mono (by decide)) (db_cons (dv 0) (db_cons (dv 1) (db_cons (dv 2) db_nil)))) db_nil)) db_nil))) (dg_tup rfl rfl (dgs_cons (dg_name (i := 3) sc.nd rfl (.inl rfl)) (dgs_cons (dg_name (i := 4) sc.nd rfl (.inr rfl)) dgs_nil)))) (dss_cons (ds_set (i := 5) sc.nd rfl (.inl rfl) (dx_callK C_foreign_digits kb_foreign_digits st (hr.mono (by decide)) (dk_cons (dv 2) (dk_cons (dv 1) dk_nil)))) (dss_cons (ds_if (dt_cmp (or_ne rfl hr.units) og_ne (dx_callB (reprS rfl st hr.units) on_repr (da_cons (dv 5) da_nil) Z.z_repr (by decide +kernel)) (dx_callB (reprS rfl st hr.units) on_repr (da_cons (dx_callB (cr_len rfl) on_len (da_cons (dx_lc (own := [("t", 9)]) rfl sc.nd (di_rg2 Z.z_range (dv 1) (dx_callB (cr_len rfl) on_len (da_cons (dv 2) da_nil) Z.z_len (by decide +kernel))) (blk_in (N := n_law_spread) (by decide +kernel) (by repeat (first | exact trivial | exact Or.inl rfl | exact Or.inr rfl | refine And.intro ?_ ?_))) lt_name (fun _ _ _ _ _ => (pg_name (i := 9) sc.nd rfl (.inl rfl))) (fun _ _ _ _ _ => (du_one (dt_cmp op_lt og_lt (dx_ix (or_ix rfl) og_ix (dv 2) (dv 9) (fun _ _ => rfl)) (dv 1) (nomark _)))) (fun _ _ _ _ _ => (dv 9))) da_nil) Z.z_len (by decide +kernel)) da_nil) Z.z_repr (by decide +kernel)) (nomark _)) (dss_one (ds_ret dx_bl)) dss_nil) (dss_cons (ds_for PassesOwn.never rfl (di_seq rfl (dx_ix (or_ix rfl) og_ix (dv 3) dx_int (fun _ _ => rfl))) (dg_name (i := 6) sc.nd rfl (.inl rfl)) (dss_cons (ds_set (i := 7) sc.nd rfl (.inr rfl) (dx_lc (own := [("record", 8)]) rfl sc.nd (di_seq rfl (dv 6)) (blk_in (N := n_law_spread) (by decide +kernel) (by repeat (first | exact trivial | exact Or.inl rfl | exact Or.inr rfl | refine And.intro ?_ ?_))) lt_name (fun _ _ _ _ _ => (pg_name (i := 8) sc.nd rfl (.inl rfl))) (fun _ _ _ _ _ => du_nil) (fun _ _ _ _ _ => (dx_ix (or_ix rfl) og_ix (dv 4) (dv 8) (fun _ _ => rfl))))) (dss_one (ds_if (dt_cmp (or_ne rfl hr.units) og_ne (dx_callB (srtK rfl) on_srt (da_cons (dx_lc (own := [("at", 10)]) rfl sc.nd (di_seq rfl (dx_srtset rfl rfl Z.z_sorted Z.z_set (dv 7))) (blk_in (N := n_law_spread) (by decide +kernel) (by repeat (first | exact trivial | exact Or.inl rfl | exact Or.inr rfl | refine And.intro ?_ ?_))) lt_name (fun _ _ _ _ _ => (pg_name (i := 10) sc.nd rfl (.inl rfl))) (fun _ _ _ _ _ => du_nil) (fun _ _ _ _ _ => (dx_bm rfl PySem.F.plainAttrs_list PySem.F.slot_list_count PySem.F.type_list_count (mt_countK rfl) om_count (dv 7) (db_cons (dv 10) db_nil)))) da_nil) Z.z_sorted (by decide +kernel)) (dx_op (or_mul rfl) og_mul (dx_lst (db_cons (dx_call C_law_power st (hr.mono (by decide)) (db_cons (dv 0) (db_cons (dx_op op_sub og_sub (dv 1) (dv 5)) db_nil))) db_nil)) (dx_call C_law_power st (hr.mono (by decide)) (db_cons (dv 0) (db_cons (dv 5) db_nil)))) (nomark _)) (dss_one (ds_ret dx_bl)) dss_nil)))) (dss_one (ds_ret dx_bl))))))
theorem ok_law {f : Addr} {fd : FuncData} (F : Fun K "law" "law" s_law f fd) (Z : Zs K mg) (C_laid_by : Cal P w K mg base 4 "laid_by" ["m", "k", "order"] (spOf K c_laid_by)) (kb_laid_by : KBinds K C_laid_by.fd ["m", "k", "order"] ["order", "k", "m"] (fun us ws => us ++ ws.reverse) (fun us ws => us ++ ws.reverse)) (C_turned_wish : Cal P w K mg base 1 "turned_wish" ["b", "rows", "columns"] (spOf K c_turned_wish)) (C_turned_order : Cal P w K mg base 1 "turned_order" ["i", "j"] (spOf K c_turned_order)) (kb_turned_order : KBinds K C_turned_order.fd ["i", "j"] ["j", "i"] (fun us ws => us ++ ws.reverse) (fun us ws => us ++ ws.reverse)) (C_law_draw : Cal P w K mg base 1 "_law_draw" ["script", "salt"] (spOf K c_law_draw)) (C_law_any : Cal P w K mg base 1 "_law_any" ["deal", "bound"] (spOf K c_law_any)) (C_law_mixed : Cal P w K mg base 2 "_law_mixed" ["deal", "some"] (spOf K c_law_mixed)) (C_law_power : Cal P w K mg base 1 "_law_power" ["m", "many"] (spOf K c_law_power)) (C_law_laid : Cal P w K mg base 2 "_law_laid" ["m", "k", "order"] (spOf K c_law_laid)) (C_law_places : Cal P w K mg base 1 "_law_places" ["standing"] (spOf K c_law_places)) (C_law_table : Cal P w K mg base 2 "_law_table" ["deal"] (spOf K c_law_table)) (C_law_spread : Cal P w K mg base 3 "_law_spread" ["m", "k", "order"] (spOf K c_law_spread)) : FnG P w K mg base (4 + 1) f fd ["script"] (spOf K c_law) := by
  refine ok_def F sc_law rfl fun cdv A outer s H E still hr0 => ?_
  have hr : Room 4 _ := hr0
  have st : Still _ := still
  have hu := hu_of hr
  have sc := sc_law
  exact (dss_cons (ds_set (i := 1) sc.nd rfl (.inl rfl) (dx_call C_law_draw st (hr.mono (by decide)) (db_cons (dv 0) (db_cons dx_int db_nil)))) (dss_cons (ds_for PassesOwn.never rfl (di_rg1 Z.z_range dx_int) (dg_name (i := 2) sc.nd rfl (.inl rfl)) (dss_one (ds_if (dt_not (dt_truth rfl (dx_call C_law_table st (hr.mono (by decide)) (db_cons (dv 1) db_nil)))) (dss_one (ds_ret dx_bl)) dss_nil))) (dss_cons (ds_set (i := 3) sc.nd rfl (.inl rfl) (dx_op (or_add rfl) og_add dx_int (dx_call C_law_any st (hr.mono (by decide)) (db_cons (dv 1) (db_cons dx_int db_nil))))) (dss_cons (ds_set (i := 4) sc.nd rfl (.inl rfl) (dx_op (or_add rfl) og_add dx_int (dx_call C_law_any st (hr.mono (by decide)) (db_cons (dv 1) (db_cons (dx_op op_sub og_sub dx_int (dv 3)) db_nil))))) (dss_cons (ds_set (i := 5) sc.nd rfl (.inl rfl) (dx_callTy (tupXK rfl) on_tup (da_cons (dx_call C_law_mixed st (hr.mono (by decide)) (db_cons (dv 1) (db_cons (dx_lrg1 rfl Z.z_list Z.z_range (dv 4)) db_nil))) da_nil) Z.z_tuple (by decide +kernel))) (dss_cons (ds_for PassesOwn.never rfl (di_rg1 Z.z_range (dx_op (or_add rfl) og_add (dv 4) dx_int)) (dg_name (i := 6) sc.nd rfl (.inl rfl)) (dss_one (ds_if (PW.pt (dw_or (dt_cmp (or_ne rfl hr.units) og_ne (dx_callB (reprS rfl st hr.units) on_repr (da_cons (dx_callK C_laid_by kb_laid_by st (hr.mono (by decide)) (dk_cons (dv 5) (dk_cons (dv 6) (dk_cons (dv 3) dk_nil)))) da_nil) Z.z_repr (by decide +kernel)) (dx_callB (reprS rfl st hr.units) on_repr (da_cons (dx_call C_law_laid st (hr.mono (by decide)) (db_cons (dv 3) (db_cons (dv 6) (db_cons (dv 5) db_nil)))) da_nil) Z.z_repr (by decide +kernel)) (nomark _)) (dw_or1 (dt_not (dt_truth rfl (dx_call C_law_spread st (hr.mono (by decide)) (db_cons (dv 3) (db_cons (dv 6) (db_cons (dv 5) db_nil))))))))) (dss_one (ds_ret dx_bl)) dss_nil))) (dss_cons (ds_set (i := 7) sc.nd rfl (.inr rfl) (dx_call C_law_any st (hr.mono (by decide)) (db_cons (dv 1) (db_cons (dx_op (or_add rfl) og_add (dv 4) dx_int) db_nil)))) (dss_cons (ds_set (i := 8) sc.nd rfl (.inr rfl) (dx_op op_sub og_sub (dv 4) (dv 7))) (dss_cons (ds_if (dt_cmp (or_ne rfl hr.units) og_ne (dx_callB (reprS rfl st hr.units) on_repr (da_cons (dx_callK C_turned_order kb_turned_order st (hr.mono (by decide)) (dk_cons (dv 8) (dk_cons (dv 7) dk_nil))) da_nil) Z.z_repr (by decide +kernel)) (dx_callB (reprS rfl st hr.units) on_repr (da_cons (dx_callTy (tupXK rfl) on_tup (da_cons (dx_lc (own := [("t", 9)]) rfl sc.nd (di_rg1 Z.z_range (dv 4)) (blk_in (N := n_law) (by decide +kernel) (by repeat (first | exact trivial | exact Or.inl rfl | exact Or.inr rfl | refine And.intro ?_ ?_))) lt_name (fun _ _ _ _ _ => (pg_name (i := 9) sc.nd rfl (.inl rfl))) (fun _ _ _ _ _ => du_nil) (fun _ _ _ _ _ => (dx_ifExp (dt_cmp op_lt og_lt (dv 9) (dv 7) (nomark _)) (dx_op (or_add rfl) og_add (dv 9) (dv 8)) (dx_op op_sub og_sub (dv 9) (dv 7))))) da_nil) Z.z_tuple (by decide +kernel)) da_nil) Z.z_repr (by decide +kernel)) (nomark _)) (dss_one (ds_ret dx_bl)) dss_nil) (dss_cons (ds_set (i := 6) sc.nd rfl (.inl rfl) (dx_call C_law_any st (hr.mono (by decide)) (db_cons (dv 1) (db_cons (dx_op (or_add rfl) og_add (dv 4) dx_int) db_nil)))) (dss_one (ds_ret (dx_cmp (or_eq rfl hr.units) og_eq (dx_call C_turned_wish st (hr.mono (by decide)) (db_cons (dx_call C_law_power st (hr.mono (by decide)) (db_cons (dv 3) (db_cons (dv 6) db_nil))) (db_cons (dx_call C_law_power st (hr.mono (by decide)) (db_cons (dv 3) (db_cons (dv 7) db_nil))) (db_cons (dx_call C_law_power st (hr.mono (by decide)) (db_cons (dv 3) (db_cons (dv 8) db_nil))) db_nil)))) (dx_call C_law_places st (hr.mono (by decide)) (db_cons (dx_call C_law_laid st (hr.mono (by decide)) (db_cons (dv 3) (db_cons (dv 6) (db_cons (dx_call C_turned_order st (hr.mono (by decide)) (db_cons (dv 7) (db_cons (dv 8) db_nil))) db_nil)))) db_nil)) (nomark _))))))))))))))
end
end Lw
namespace Lw
open PySem PySem.Spec PyProof.Rows L2 Gd Ev Vs
noncomputable def h_raised : VS := (vseq (vasg 2 (vc (.int 1)))
    (vseq (vasg 3 (mv 0))
    (vseq (vasg 4 (mv 1))
    (vseq (vwhile (qB (v2 opGt (rd [4] 4) (vc (.int 0)))) (vseq (vif (qB (v2 pEq (v2 opMod (rd [4] 4) (vc (.int 2))) (vc (.int 1)))) (vasg 2 (fn (v2 pMul (rd [2] 2) (rd [3] 3)))) vnil)
    (vseq (vasg 4 (v2 opDiv (rd [4] 4) (vc (.int 2))))
    (vif (qB (v2 opGt (rd [4] 4) (vc (.int 0)))) (vasg 3 (fn (v2 pMul (rd [3] 3) (rd [3] 3)))) vnil))))
    (vret (mv 2))))))
noncomputable def v_raised : List A → Option (A × A) := fun ps => if ps.length = 2 then vdef false 3 h_raised ps else none
theorem s_v_raised : SF false false c_raised v_raised := s_def (s := g_raised) (h := h_raised) (s_seq (s_asg s_c)
    (s_seq (s_asg s_mv)
    (s_seq (s_asg s_mv)
    (s_seq (s_while (s_uB (s_2f of_gt s_rd s_c)) (s_seq (s_if (s_uB (s_2f of_eq (s_2f of_int s_rd s_c) s_c)) (s_asg (s_fn nl_mul (s_2 os_mul s_rd s_rd))) s_nil)
    (s_seq (s_asg (s_2f of_int s_rd s_c))
    (s_if (s_uB (s_2f of_gt s_rd s_c)) (s_asg (s_fn nl_mul (s_2 os_mul s_rd s_rd))) s_nil))))
    (s_ret s_mv)))))
noncomputable def h_digit : VS := (vret (v2 opMod (v2 opDiv (rd [99] 0) (vcall v_raised (vC (rd [99] 1) (vC (rd [99] 2) vN)))) (rd [99] 1)))
noncomputable def v_digit : List A → Option (A × A) := fun ps => if ps.length = 3 then vdef false 0 h_digit ps else none
theorem s_v_digit : SF false false c_digit v_digit := s_def (s := g_digit) (h := h_digit) (s_ret (s_2f of_int (s_2f of_int s_rd (s_call s_v_raised (s_bC s_rd (s_bC s_rd s_bN)))) s_rd))
noncomputable def h_read_off : VS := (vseq (vasg 3 (vc (.int 0)))
    (vseq (vfor (viE (vRevT (rd [99] 2))) (vbN 4) (vasg 3 (fn (v2 opAdd (v2 pMul (rd [3] 3) (rd [99] 1)) (vcall v_digit (vC (rd [99] 0) (vC (rd [99] 1) (vC (rd [4] 4) vN))))))))
    (vret (mv 3))))
noncomputable def v_read_off : List A → Option (A × A) := fun ps => if ps.length = 3 then vdef false 2 h_read_off ps else none
theorem s_v_read_off : SF false false c_read_off v_read_off := s_def (s := g_read_off) (h := h_read_off) (s_seq (s_asg s_c)
    (s_seq (s_for (si_E (s_fRevT s_rd)) sg_N (s_asg (s_fn nl_add (s_2 os_add (s_2 os_mul s_rd s_rd) (s_call s_v_digit (s_bC s_rd (s_bC s_rd (s_bC s_rd s_bN))))))))
    (s_ret s_mv)))
noncomputable def h_laid_by : VS := (vseq (vasg 3 (vSl (rd [99] 2) (voS (rd [99] 1)) voN))
    (vseq (vasg 4 (vLc (viRg1 (vcall v_raised (vC (rd [99] 0) (vC (vN1 bLen (vC (rd [3] 3) vN)) vN)))) [6] (vbN 6) qYes (vN1 mkLst vN)))
    (vseq (vfor (viRg1 (vcall v_raised (vC (rd [99] 0) (vC (vN1 bLen (vC (rd [99] 2) vN)) vN)))) (vbN 5) (vexp (vM1g 4 aApp (vcall v_read_off (vC (rd [5] 5) (vC (rd [99] 0) (vC (rd [3] 3) vN)))) (vC (mv 5) vN))))
    (vret (vN1 mkTup (vC (vcall v_raised (vC (rd [99] 0) (vC (rd [99] 1) vN))) (vC (vN1 bTup (vC (vLc (viV [4] 4) [7] (vbN 7) qYes (fl (vN1 bTup (vC (rd [7, 4] 7) vN)))) vN)) vN)))))))
noncomputable def v_laid_by : List A → Option (A × A) := fun ps => if ps.length = 3 then vdef false 5 h_laid_by ps else none
theorem s_v_laid_by : SF false false c_laid_by v_laid_by := s_def (s := g_laid_by) (h := h_laid_by) (s_seq (s_asg (s_fSl s_rd (s_oS s_rd) s_oN))
    (s_seq (s_asg (s_Lc (si_rg1 (s_call s_v_raised (s_bC s_rd (s_bC (s_Nf of_len (s_aC s_rd s_aN)) s_bN)))) sl_N s_yes (s_Nb ob_lst s_bN)))
    (s_seq (s_for (si_rg1 (s_call s_v_raised (s_bC s_rd (s_bC (s_Nf of_len (s_aC s_rd s_aN)) s_bN)))) sg_N (s_exp (s_M1g ma_app (s_call s_v_read_off (s_bC s_rd (s_bC s_rd (s_bC s_rd s_bN)))) (s_bC s_mv s_bN))))
    (s_ret (s_Nb ob_tup (s_bC (s_call s_v_raised (s_bC s_rd (s_bC s_rd s_bN))) (s_bC (s_N os_tup (s_aC (s_Lc si_V sl_N s_yes (s_fl (s_N os_tup (s_aC s_rd s_aN)))) s_aN)) s_bN)))))))
noncomputable def h_foreign_digits : VS := (vret (vN1 bLen (vC (vLc (viE (vSl (rd [99] 1) (voS (rd [99] 0)) voN)) [2] (vbN 2) (qB (v2 opLt (rd [2] 2) (rd [99] 0))) (rd [] 2)) vN)))
noncomputable def v_foreign_digits : List A → Option (A × A) := fun ps => if ps.length = 2 then vdef false 1 h_foreign_digits ps else none
theorem s_v_foreign_digits : SF false false c_foreign_digits v_foreign_digits := s_def (s := g_foreign_digits) (h := h_foreign_digits) (s_ret (s_Nf of_len (s_aC (s_Lc (si_E (s_fSl s_rd (s_oS s_rd) s_oN)) sl_N (s_uB (s_2f of_lt s_rd s_rd)) s_rd) s_aN)))
noncomputable def h_table_standing : VS := (vseq (vasg 3 (vLRg1 (v2 pMul (rd [99] 1) (rd [99] 2))))
    (vret (vN1 mkTup (vC (mv 0) (vC (vN1 bTup (vC (vLc (viRg3 (vc (.int 0)) (vN1 bLen (vC (rd [3] 3) vN)) (rd [99] 0)) [4] (vbN 4) qYes (vN1 bTup (vC (vSl (rd [3] 3) (voS (rd [4] 4)) (voS (v2 opAdd (rd [4] 4) (rd [99] 0)))) vN))) vN)) vN)))))
noncomputable def v_table_standing : List A → Option (A × A) := fun ps => if ps.length = 3 then vdef false 2 h_table_standing ps else none
theorem s_v_table_standing : SF false false c_table_standing v_table_standing := s_def (s := g_table_standing) (h := h_table_standing) (s_seq (s_asg (s_fLRg1 (s_2 os_mul s_rd s_rd)))
    (s_ret (s_Nb ob_tup (s_bC s_mv (s_bC (s_N os_tup (s_aC (s_Lc (si_rg3 s_c (s_Nf of_len (s_aC s_rd s_aN)) s_rd) sl_N s_yes (s_N os_tup (s_aC (s_fSl s_rd (s_oS s_rd) (s_oS (s_2 os_add s_rd s_rd))) s_aN))) s_aN)) s_bN)))))
noncomputable def h_turned_wish : VS := (vret (vN1 bTup (vC (vLc2 (viRg1 (rd [99] 1)) [3, 4] (vbN 3) qYes (rd [99] 2) 4 qYes (v2 opDiv (v2 opAdd (v2 pMul (rd [4] 4) (rd [99] 1)) (rd [3] 3)) (rd [99] 0))) vN)))
noncomputable def v_turned_wish : List A → Option (A × A) := fun ps => if ps.length = 3 then vdef false 2 h_turned_wish ps else none
theorem s_v_turned_wish : SF false false c_turned_wish v_turned_wish := s_def (s := g_turned_wish) (h := h_turned_wish) (s_ret (s_N os_tup (s_aC (s_Lc2 (si_rg1 s_rd) sl_N s_yes s_rd s_yes (s_2f of_int (s_2 os_add (s_2 os_mul s_rd s_rd) s_rd) s_rd)) s_aN)))
noncomputable def h_turned_order : VS := (vret (v2 opAdd (vTRg2 (rd [99] 1) (v2 opAdd (rd [99] 0) (rd [99] 1))) (vTRg1 (rd [99] 1))))
noncomputable def v_turned_order : List A → Option (A × A) := fun ps => if ps.length = 2 then vdef false 0 h_turned_order ps else none
theorem s_v_turned_order : SF false false c_turned_order v_turned_order := s_def (s := g_turned_order) (h := h_turned_order) (s_ret (s_2 os_add (s_fTRg2 s_rd (s_2 os_add s_rd s_rd)) (s_fTRg1 s_rd)))
noncomputable def h_law_draw : VS := (vseq (vasg 2 (vLc (viE (vSl (rd [99] 0) voN (voS (vc (.int 48))))) [4] (vbN 4) qYes (vN1 bAbs (vC (vN1 bInt (vC (rd [4] 4) vN)) vN))))
    (vseq (vasg 3 (fn (v2 opAdd (vc (.int 7919)) (v2 pMul (vc (.int 104729)) (rd [99] 1)))))
    (vseq (vfor (viV [2] 2) (vbN 4) (vasg 3 (v2 opMod (vN1 bInt (vC (v2 opAdd (v2 opAdd (v2 pMul (rd [3] 3) (vc (.int 48271))) (v2 opMod (rd [4] 4) (vc (.int 2147483549)))) (vc (.int 11))) vN)) (vc (.int 2147483647)))))
    (vret (vN1 mkLst (vC (vRev (vLc (viV [2] 2) [4] (vbN 4) (qB (v2 opGe (rd [4] 4) (v2 opPow (vc (.int 10)) (vc (.int 18))))) (rd [] 4))) (vC (mv 3) vN)))))))
noncomputable def v_law_draw : List A → Option (A × A) := fun ps => if ps.length = 2 then vdef false 3 h_law_draw ps else none
theorem s_v_law_draw : SF false false c_law_draw v_law_draw := s_def (s := g_law_draw) (h := h_law_draw) (s_seq (s_asg (s_Lc (si_E (s_fSl s_rd s_oN (s_oS s_c))) sl_N s_yes (s_Nf of_abs (s_aC (s_Nf of_bint (s_aC s_rd s_aN)) s_aN))))
    (s_seq (s_asg (s_fn nl_add (s_2 os_add s_c (s_2 os_mul s_c s_rd))))
    (s_seq (s_for si_V sg_N (s_asg (s_2f of_int (s_Nf of_bint (s_aC (s_2 os_add (s_2 os_add (s_2 os_mul s_rd s_c) (s_2f of_int s_rd s_c)) s_c) s_aN)) s_c)))
    (s_ret (s_Nb ob_lst (s_bC (s_fRev (s_Lc si_V sl_N (s_uB (s_2f of_ge s_rd (s_2f of_int s_c s_c))) s_rd)) (s_bC s_mv s_bN)))))))
noncomputable def h_law_any : VS := (vseq (vwhile (qAnd (qB (v2 pNe (v2 opIx (rd [0] 0) (vc (.int 0))) (vN1 mkLst vN))) (qB (v2 pEq (v2 opIx (v2 opIx (rd [0] 0) (vc (.int 0))) (vNeg (vc (.int 1)))) (vc (.int 0))))) (vexp (vM1 0 aPop (vc (.int 0)) vN)))
    (vseq (vif (qB (v2 pNe (v2 opIx (rd [0] 0) (vc (.int 0))) (vN1 mkLst vN))) (vseq (vasg 2 (vN1 bInt (vC (vM1 0 aPop (vc (.int 0)) vN) vN)))
    (vseq (vexp (vM1 0 aApp (vc (.int 0)) (vC (v2 opDiv (rd [2] 2) (rd [99] 1)) vN)))
    (vret (v2 opMod (rd [2] 2) (rd [99] 1))))) vnil)
    (vseq (vset0 0 (vc (.int 1)) (v2 opMod (vN1 bInt (vC (v2 opAdd (v2 pMul (v2 opIx (rd [0] 0) (vc (.int 1))) (vc (.int 40693))) (vc (.int 71))) vN)) (vc (.int 2147483647))))
    (vret (v2 opMod (vN1 bInt (vC (v2 opDiv (v2 opIx (rd [0] 0) (vc (.int 1))) (vc (.int 64))) vN)) (rd [99] 1))))))
noncomputable def v_law_any : List A → Option (A × A) := fun ps => if ps.length = 2 then vdef true 1 h_law_any ps else none
theorem s_v_law_any : SF true false c_law_any v_law_any := s_def (s := g_law_any) (h := h_law_any) (s_seq (s_while (s_uAnd (s_uB (s_2f of_ne (s_2 os_ix s_rd s_c) (s_Nb ob_lst s_bN))) (s_uB (s_2f of_eq (s_2 os_ix (s_2 os_ix s_rd s_c) (s_fNeg s_c)) s_c))) (s_exp (s_M1 ma_pop q_c s_bN)))
    (s_seq (s_if (s_uB (s_2f of_ne (s_2 os_ix s_rd s_c) (s_Nb ob_lst s_bN))) (s_seq (s_asg (s_Nf of_bint (s_aC (s_M1 ma_pop q_c s_bN) s_aN)))
    (s_seq (s_exp (s_M1 ma_app q_c (s_bC (s_2f of_int s_rd s_rd) s_bN)))
    (s_ret (s_2f of_int s_rd s_rd)))) s_nil)
    (s_seq (s_set0 q_c (s_2f of_int (s_Nf of_bint (s_aC (s_2 os_add (s_2 os_mul (s_2 os_ix s_rd s_c) s_c) s_c) s_aN)) s_c))
    (s_ret (s_2f of_int (s_Nf of_bint (s_aC (s_2f of_int (s_2 os_ix s_rd s_c) s_c) s_aN)) s_rd)))))
noncomputable def h_law_of : VS := (vret (v2 opIx (rd [99] 1) (vcallD 0 v_law_any (vC (vN1 bLen (vC (rd [99] 1) vN)) vN))))
noncomputable def v_law_of : List A → Option (A × A) := fun ps => if ps.length = 2 then vdef true 0 h_law_of ps else none
theorem s_v_law_of : SF true true c_law_of v_law_of := s_def (s := g_law_of) (h := h_law_of) (s_ret (s_2 os_ix s_rd (s_callD s_v_law_any (s_bC (s_Nf of_len (s_aC s_rd s_aN)) s_bN))))
noncomputable def h_law_mixed : VS := (vseq (vpar [2, 3] (vC (fn (vN1 bLst (vC (rd [99] 1) vN))) (vC (vN1 mkLst vN) vN)))
    (vseq (vwhile (qB (v2 pNe (rd [2] 2) (vN1 mkLst vN))) (vexp (vM0 3 aApp (vC (vM0 2 aPopAt (vC (vcallD 0 v_law_any (vC (vN1 bLen (vC (rd [2] 2) vN)) vN)) vN)) vN))))
    (vret (mv 3))))
noncomputable def v_law_mixed : List A → Option (A × A) := fun ps => if ps.length = 2 then vdef true 2 h_law_mixed ps else none
theorem s_v_law_mixed : SF true false c_law_mixed v_law_mixed := s_def (s := g_law_mixed) (h := h_law_mixed) (s_seq (s_par (s_bC (s_fn nl_lst (s_N os_lst (s_aC s_rd s_aN))) (s_bC (s_Nb ob_lst s_bN) s_bN)))
    (s_seq (s_while (s_uB (s_2f of_ne s_rd (s_Nb ob_lst s_bN))) (s_exp (s_M0 ma_app (s_bC (s_M0 ma_popAt (s_bC (s_callD s_v_law_any (s_bC (s_Nf of_len (s_aC s_rd s_aN)) s_bN)) s_bN)) s_bN))))
    (s_ret s_mv)))
noncomputable def h_law_power : VS := (vseq (vasg 2 (vc (.int 1)))
    (vseq (vfor (viRg1 (rd [99] 1)) (vbN 3) (vasg 2 (vN1 bInt (vC (v2 pMul (rd [2] 2) (rd [99] 0)) vN))))
    (vret (mv 2))))
noncomputable def v_law_power : List A → Option (A × A) := fun ps => if ps.length = 2 then vdef false 2 h_law_power ps else none
theorem s_v_law_power : SF false false c_law_power v_law_power := s_def (s := g_law_power) (h := h_law_power) (s_seq (s_asg s_c)
    (s_seq (s_for (si_rg1 s_rd) sg_N (s_asg (s_Nf of_bint (s_aC (s_2 os_mul s_rd s_rd) s_aN))))
    (s_ret s_mv)))
noncomputable def h_law_digits : VS := (vseq (vpar [3, 4] (vC (vN1 mkLst vN) (vC (mv 2) vN)))
    (vseq (vfor (viRg1 (rd [99] 1)) (vbN 5) (vseq (vexp (vM0 3 aApp (vC (v2 opMod (rd [4] 4) (rd [99] 0)) vN)))
    (vasg 4 (v2 opDiv (rd [4] 4) (rd [99] 0)))))
    (vret (mv 3))))
noncomputable def v_law_digits : List A → Option (A × A) := fun ps => if ps.length = 3 then vdef false 3 h_law_digits ps else none
theorem s_v_law_digits : SF false false c_law_digits v_law_digits := s_def (s := g_law_digits) (h := h_law_digits) (s_seq (s_par (s_bC (s_Nb ob_lst s_bN) (s_bC s_mv s_bN)))
    (s_seq (s_for (si_rg1 s_rd) sg_N (s_seq (s_exp (s_M0 ma_app (s_bC (s_2f of_int s_rd s_rd) s_bN)))
    (s_asg (s_2f of_int s_rd s_rd))))
    (s_ret s_mv)))
noncomputable def h_law_laid : VS := (vseq (vpar [3, 4] (vC (vN1 bLen (vC (rd [99] 2) vN)) (vC (vcall v_law_power (vC (rd [99] 0) (vC (rd [99] 1) vN))) vN)))
    (vseq (vasg 5 (vLc (viRg1 (vcall v_law_power (vC (rd [99] 0) (vC (v2 opSub (rd [3] 3) (rd [99] 1)) vN)))) [10] (vbN 10) qYes (vN1 mkLst vN)))
    (vseq (vfor (viRg1 (vcall v_law_power (vC (rd [99] 0) (vC (rd [3] 3) vN)))) (vbN 6) (vseq (vpar [7, 8] (vC (vcall v_law_digits (vC (rd [99] 0) (vC (rd [3] 3) (vC (rd [6] 6) vN)))) (vC (vc (.int 0)) vN)))
    (vseq (vfor (viRg1 (rd [3] 3)) (vbN 9) (vasg 8 (v2 opAdd (mv 8) (fn (v2 pMul (v2 opIx (rd [7] 7) (v2 opIx (rd [99] 2) (rd [9] 9))) (vcall v_law_power (vC (rd [99] 0) (vC (rd [9] 9) vN))))))))
    (vexp (vM1 5 aApp (v2 opDiv (rd [8] 8) (rd [4] 4)) (vC (mv 6) vN))))))
    (vret (vN1 mkTup (vC (mv 4) (vC (vN1 bTup (vC (vLc (viV [5] 5) [10] (vbN 10) qYes (fl (vN1 bTup (vC (rd [10, 5] 10) vN)))) vN)) vN)))))))
noncomputable def v_law_laid : List A → Option (A × A) := fun ps => if ps.length = 3 then vdef false 8 h_law_laid ps else none
theorem s_v_law_laid : SF false false c_law_laid v_law_laid := s_def (s := g_law_laid) (h := h_law_laid) (s_seq (s_par (s_bC (s_Nf of_len (s_aC s_rd s_aN)) (s_bC (s_call s_v_law_power (s_bC s_rd (s_bC s_rd s_bN))) s_bN)))
    (s_seq (s_asg (s_Lc (si_rg1 (s_call s_v_law_power (s_bC s_rd (s_bC (s_2f of_sub s_rd s_rd) s_bN)))) sl_N s_yes (s_Nb ob_lst s_bN)))
    (s_seq (s_for (si_rg1 (s_call s_v_law_power (s_bC s_rd (s_bC s_rd s_bN)))) sg_N (s_seq (s_par (s_bC (s_call s_v_law_digits (s_bC s_rd (s_bC s_rd (s_bC s_rd s_bN)))) (s_bC s_c s_bN)))
    (s_seq (s_for (si_rg1 s_rd) sg_N (s_asg (s_2 os_add s_mv (s_fn nl_mul (s_2 os_mul (s_2 os_ix s_rd (s_2 os_ix s_rd s_rd)) (s_call s_v_law_power (s_bC s_rd (s_bC s_rd s_bN))))))))
    (s_exp (s_M1 ma_app (q_2f of_int q_rd q_rd) (s_bC s_mv s_bN))))))
    (s_ret (s_Nb ob_tup (s_bC s_mv (s_bC (s_N os_tup (s_aC (s_Lc si_V sl_N s_yes (s_fl (s_N os_tup (s_aC s_rd s_aN)))) s_aN)) s_bN)))))))
noncomputable def h_law_column : VS := (vseq (vasg 2 (vN1 mkLst vN))
    (vseq (vfor (viRg1 (rd [99] 1)) (vbN 3) (vasg 2 (v2 opAdd (mv 2) (vLc (viRg1 (rd [99] 0)) [4] (vbN 4) qYes (fn (v2 opAdd (v2 pMul (rd [4] 4) (rd [99] 1)) (rd [3] 3)))))))
    (vret (mv 2))))
noncomputable def v_law_column : List A → Option (A × A) := fun ps => if ps.length = 2 then vdef false 3 h_law_column ps else none
theorem s_v_law_column : SF false false c_law_column v_law_column := s_def (s := g_law_column) (h := h_law_column) (s_seq (s_asg (s_Nb ob_lst s_bN))
    (s_seq (s_for (si_rg1 s_rd) sg_N (s_asg (s_2 os_add s_mv (s_Lc (si_rg1 s_rd) sl_N s_yes (s_fn nl_add (s_2 os_add (s_2 os_mul s_rd s_rd) s_rd))))))
    (s_ret s_mv)))
noncomputable def h_law_places : VS := (vseq (vasg 1 (v2 pMul (vN1 mkLst (vC (vc .non) vN)) (vN1 bSum (vC (vLc (viE (v2 opIx (rd [99] 0) (vc (.int 1)))) [3] (vbN 3) qYes (vN1 bLen (vC (rd [3] 3) vN))) vN))))
    (vseq (vfor (viEnum (viE (v2 opIx (rd [99] 0) (vc (.int 1))))) (vbP [2, 3]) (vfor (viV [3] 3) (vbN 4) (vset0 1 (rd [4] 4) (mv 2))))
    (vret (fl (vN1 bTup (vC (rd [1] 1) vN))))))
noncomputable def v_law_places : List A → Option (A × A) := fun ps => if ps.length = 1 then vdef false 4 h_law_places ps else none
theorem s_v_law_places : SF false false c_law_places v_law_places := s_def (s := g_law_places) (h := h_law_places) (s_seq (s_asg (s_2 os_mul (s_Nb ob_lst (s_bC s_c s_bN)) (s_Nf of_sum (s_aC (s_Lc (si_E (s_2 os_ix s_rd s_c)) sl_N s_yes (s_Nf of_len (s_aC s_rd s_aN))) s_aN))))
    (s_seq (s_for (si_enum (si_E (s_2 os_ix s_rd s_c))) (sg_P (is := [2, 3])) (s_for si_V sg_N (s_set0 q_rd s_mv)))
    (s_ret (s_fl (s_N os_tup (s_aC s_rd s_aN))))))
noncomputable def h_law_table : VS := (vseq (vasgT [1, 2, 3] (vN1 mkTup (vC (v2 opAdd (vc (.int 1)) (vcallD 0 v_law_any (vC (vc (.int 5)) vN))) (vC (v2 opAdd (vc (.int 1)) (vcallD 0 v_law_any (vC (vc (.int 6)) vN))) (vC (v2 opAdd (vc (.int 1)) (vcallD 0 v_law_any (vC (vc (.int 6)) vN))) vN)))))
    (vseq (vpar [4, 5, 6] (vC (fn (v2 pMul (rd [2] 2) (rd [3] 3))) (vC (vLRg1 (v2 pMul (rd [2] 2) (rd [3] 3))) (vC (vN1 mkLst vN) vN))))
    (vseq (vwhile (qB (v2 pNe (rd [5] 5) (vN1 mkLst vN))) (vseq (vexp (vM0 6 aApp (vC (vN1 bTup (vC (vSl (rd [5] 5) voN (voS (rd [1] 1))) vN)) vN)))
    (vasg 5 (vSl (rd [5] 5) (voS (rd [1] 1)) voN))))
    (vseq (vif (qB (v2 pNe (vN1 pRepr (vC (vcallK v_table_standing (vC (rd [3] 3) (vC (rd [2] 2) (vC (rd [1] 1) vN)))) vN)) (vN1 pRepr (vC (vN1 mkTup (vC (mv 1) (vC (fl (vN1 bTup (vC (rd [6] 6) vN))) vN))) vN)))) (vret (vc (.bl false))) vnil)
    (vseq (vasgT [7, 8] (vN1 mkTup (vC (vcallK v_turned_wish (vC (rd [3] 3) (vC (rd [2] 2) (vC (rd [1] 1) vN)))) (vC (vcall v_law_column (vC (rd [2] 2) (vC (rd [3] 3) vN))) vN))))
    (vret (v2 pEq (vN1 pRepr (vC (rd [7] 7) vN)) (vN1 pRepr (vC (vN1 bTup (vC (vLc (viRg1 (rd [4] 4)) [9] (vbN 9) qYes (v2 opDiv (vMr pIndex (rd [8] 8) (vC (rd [9] 9) vN)) (rd [1] 1))) vN)) vN)))))))))
noncomputable def v_law_table : List A → Option (A × A) := fun ps => if ps.length = 1 then vdef true 9 h_law_table ps else none
theorem s_v_law_table : SF true false c_law_table v_law_table := s_def (s := g_law_table) (h := h_law_table) (s_seq (s_asgT (is := [1, 2, 3]) (s_Nb ob_tup (s_bC (s_2 os_add s_c (s_callD s_v_law_any (s_bC s_c s_bN))) (s_bC (s_2 os_add s_c (s_callD s_v_law_any (s_bC s_c s_bN))) (s_bC (s_2 os_add s_c (s_callD s_v_law_any (s_bC s_c s_bN))) s_bN)))))
    (s_seq (s_par3 (s_bC (s_fn nl_mul (s_2 os_mul s_rd s_rd)) (s_bC (s_fLRg1 (s_2 os_mul s_rd s_rd)) (s_bC (s_Nb ob_lst s_bN) s_bN))))
    (s_seq (s_while (s_uB (s_2f of_ne s_rd (s_Nb ob_lst s_bN))) (s_seq (s_exp (s_M0 ma_app (s_bC (s_N os_tup (s_aC (s_fSl s_rd s_oN (s_oS s_rd)) s_aN)) s_bN)))
    (s_asg (s_fSl s_rd (s_oS s_rd) s_oN))))
    (s_seq (s_if (s_uB (s_2f of_ne (s_Nf of_repr (s_aC (s_callK s_v_table_standing (s_bC s_rd (s_bC s_rd (s_bC s_rd s_bN)))) s_aN)) (s_Nf of_repr (s_aC (s_Nb ob_tup (s_bC s_mv (s_bC (s_fl (s_N os_tup (s_aC s_rd s_aN))) s_bN))) s_aN)))) (s_ret s_c) s_nil)
    (s_seq (s_asgT (is := [7, 8]) (s_Nb ob_tup (s_bC (s_callK s_v_turned_wish (s_bC s_rd (s_bC s_rd (s_bC s_rd s_bN)))) (s_bC (s_call s_v_law_column (s_bC s_rd (s_bC s_rd s_bN))) s_bN))))
    (s_ret (s_2f of_eq (s_Nf of_repr (s_aC s_rd s_aN)) (s_Nf of_repr (s_aC (s_N os_tup (s_aC (s_Lc (si_rg1 s_rd) sl_N s_yes (s_2f of_int (s_Mr of_mIndex s_rd (s_bC s_rd s_bN)) s_rd)) s_aN)) s_aN)))))))))
noncomputable def h_law_spread : VS := (vseq (vasgT [3, 4] (vN1 mkTup (vC (vcall v_law_laid (vC (rd [99] 0) (vC (rd [99] 1) (vC (vTRg1 (vN1 bLen (vC (rd [99] 2) vN))) vN)))) (vC (vcall v_law_places (vC (vcall v_law_laid (vC (rd [99] 0) (vC (rd [99] 1) (vC (rd [99] 2) vN)))) vN)) vN))))
    (vseq (vasg 5 (vcallK v_foreign_digits (vC (rd [99] 2) (vC (rd [99] 1) vN))))
    (vseq (vif (qB (v2 pNe (vN1 pRepr (vC (rd [5] 5) vN)) (vN1 pRepr (vC (vN1 bLen (vC (vLc (viRg2 (rd [99] 1) (vN1 bLen (vC (rd [99] 2) vN))) [9] (vbN 9) (qB (v2 opLt (v2 opIx (rd [99] 2) (rd [9] 9)) (rd [99] 1))) (rd [] 9)) vN)) vN)))) (vret (vc (.bl false))) vnil)
    (vseq (vfor (viE (v2 opIx (rd [3] 3) (vc (.int 1)))) (vbN 6) (vseq (vasg 7 (vLc (viV [6] 6) [8] (vbN 8) qYes (fl (v2 opIx (rd [4] 4) (rd [8] 8)))))
    (vif (qB (v2 pNe (vN1 bSrt (vC (vLc (viE (vSrtSet (rd [7] 7))) [10] (vbN 10) qYes (vMr pCount (rd [7] 7) (vC (rd [10] 10) vN))) vN)) (v2 pMul (vN1 mkLst (vC (vcall v_law_power (vC (rd [99] 0) (vC (v2 opSub (rd [99] 1) (rd [5] 5)) vN))) vN)) (vcall v_law_power (vC (rd [99] 0) (vC (rd [5] 5) vN)))))) (vret (vc (.bl false))) vnil)))
    (vret (vc (.bl true)))))))
noncomputable def v_law_spread : List A → Option (A × A) := fun ps => if ps.length = 3 then vdef false 8 h_law_spread ps else none
theorem s_v_law_spread : SF false false c_law_spread v_law_spread := s_def (s := g_law_spread) (h := h_law_spread) (s_seq (s_asgT (is := [3, 4]) (s_Nb ob_tup (s_bC (s_call s_v_law_laid (s_bC s_rd (s_bC s_rd (s_bC (s_fTRg1 (s_Nf of_len (s_aC s_rd s_aN))) s_bN)))) (s_bC (s_call s_v_law_places (s_bC (s_call s_v_law_laid (s_bC s_rd (s_bC s_rd (s_bC s_rd s_bN)))) s_bN)) s_bN))))
    (s_seq (s_asg (s_callK s_v_foreign_digits (s_bC s_rd (s_bC s_rd s_bN))))
    (s_seq (s_if (s_uB (s_2f of_ne (s_Nf of_repr (s_aC s_rd s_aN)) (s_Nf of_repr (s_aC (s_Nf of_len (s_aC (s_Lc (si_rg2 s_rd (s_Nf of_len (s_aC s_rd s_aN))) sl_N (s_uB (s_2f of_lt (s_2 os_ix s_rd s_rd) s_rd)) s_rd) s_aN)) s_aN)))) (s_ret s_c) s_nil)
    (s_seq (s_for (si_E (s_2 os_ix s_rd s_c)) sg_N (s_seq (s_asg (s_Lc si_V sl_N s_yes (s_fl (s_2 os_ix s_rd s_rd))))
    (s_if (s_uB (s_2f of_ne (s_N os_srt (s_aC (s_Lc (si_E (s_srtset s_rd)) sl_N s_yes (s_Mr of_mCount s_rd (s_bC s_rd s_bN))) s_aN)) (s_2 os_mul (s_Nb ob_lst (s_bC (s_call s_v_law_power (s_bC s_rd (s_bC (s_2f of_sub s_rd s_rd) s_bN))) s_bN)) (s_call s_v_law_power (s_bC s_rd (s_bC s_rd s_bN)))))) (s_ret s_c) s_nil)))
    (s_ret s_c)))))
noncomputable def h_law : VS := (vseq (vasg 1 (vcall v_law_draw (vC (rd [99] 0) (vC (vc (.int 24)) vN))))
    (vseq (vfor (viRg1 (vc (.int 2))) (vbN 2) (vif (qNot (qT (vcallD 1 v_law_table vN))) (vret (vc (.bl false))) vnil))
    (vseq (vasg 3 (v2 opAdd (vc (.int 2)) (vcallD 1 v_law_any (vC (vc (.int 2)) vN))))
    (vseq (vasg 4 (v2 opAdd (vc (.int 1)) (vcallD 1 v_law_any (vC (v2 opSub (vc (.int 6)) (rd [3] 3)) vN))))
    (vseq (vasg 5 (vN1 bTup (vC (vcallD 1 v_law_mixed (vC (vLRg1 (rd [4] 4)) vN)) vN)))
    (vseq (vfor (viRg1 (v2 opAdd (rd [4] 4) (vc (.int 1)))) (vbN 6) (vif (qOr (qB (v2 pNe (vN1 pRepr (vC (vcallK v_laid_by (vC (rd [5] 5) (vC (rd [6] 6) (vC (rd [3] 3) vN)))) vN)) (vN1 pRepr (vC (vcall v_law_laid (vC (rd [3] 3) (vC (rd [6] 6) (vC (rd [5] 5) vN)))) vN)))) (qNot (qT (vcall v_law_spread (vC (rd [3] 3) (vC (rd [6] 6) (vC (rd [5] 5) vN))))))) (vret (vc (.bl false))) vnil))
    (vseq (vasg 7 (vcallD 1 v_law_any (vC (v2 opAdd (rd [4] 4) (vc (.int 1))) vN)))
    (vseq (vasg 8 (v2 opSub (rd [4] 4) (rd [7] 7)))
    (vseq (vif (qB (v2 pNe (vN1 pRepr (vC (vcallK v_turned_order (vC (rd [8] 8) (vC (rd [7] 7) vN))) vN)) (vN1 pRepr (vC (vN1 bTup (vC (vLc (viRg1 (rd [4] 4)) [9] (vbN 9) qYes (vIf (qB (v2 opLt (rd [9] 9) (rd [7] 7))) (fn (v2 opAdd (rd [9] 9) (rd [8] 8))) (v2 opSub (rd [9] 9) (rd [7] 7)))) vN)) vN)))) (vret (vc (.bl false))) vnil)
    (vseq (vasg 6 (vcallD 1 v_law_any (vC (v2 opAdd (rd [4] 4) (vc (.int 1))) vN)))
    (vret (v2 pEq (vcall v_turned_wish (vC (vcall v_law_power (vC (rd [3] 3) (vC (rd [6] 6) vN))) (vC (vcall v_law_power (vC (rd [3] 3) (vC (rd [7] 7) vN))) (vC (vcall v_law_power (vC (rd [3] 3) (vC (rd [8] 8) vN))) vN)))) (vcall v_law_places (vC (vcall v_law_laid (vC (rd [3] 3) (vC (rd [6] 6) (vC (vcall v_turned_order (vC (rd [7] 7) (vC (rd [8] 8) vN))) vN)))) vN))))))))))))))
noncomputable def v_law : List A → Option (A × A) := fun ps => if ps.length = 1 then vdef false 9 h_law ps else none
theorem s_v_law : SF false false c_law v_law := s_def (s := g_law) (h := h_law) (s_seq (s_asg (s_call s_v_law_draw (s_bC s_rd (s_bC s_c s_bN))))
    (s_seq (s_for (si_rg1 s_c) sg_N (s_if (s_uNot (s_uT (s_callD s_v_law_table s_bN))) (s_ret s_c) s_nil))
    (s_seq (s_asg (s_2 os_add s_c (s_callD s_v_law_any (s_bC s_c s_bN))))
    (s_seq (s_asg (s_2 os_add s_c (s_callD s_v_law_any (s_bC (s_2f of_sub s_c s_rd) s_bN))))
    (s_seq (s_asg (s_N os_tup (s_aC (s_callD s_v_law_mixed (s_bC (s_fLRg1 s_rd) s_bN)) s_aN)))
    (s_seq (s_for (si_rg1 (s_2 os_add s_rd s_c)) sg_N (s_if (s_uOr (s_uB (s_2f of_ne (s_Nf of_repr (s_aC (s_callK s_v_laid_by (s_bC s_rd (s_bC s_rd (s_bC s_rd s_bN)))) s_aN)) (s_Nf of_repr (s_aC (s_call s_v_law_laid (s_bC s_rd (s_bC s_rd (s_bC s_rd s_bN)))) s_aN)))) (s_uNot (s_uT (s_call s_v_law_spread (s_bC s_rd (s_bC s_rd (s_bC s_rd s_bN))))))) (s_ret s_c) s_nil))
    (s_seq (s_asg (s_callD s_v_law_any (s_bC (s_2 os_add s_rd s_c) s_bN)))
    (s_seq (s_asg (s_2f of_sub s_rd s_rd))
    (s_seq (s_if (s_uB (s_2f of_ne (s_Nf of_repr (s_aC (s_callK s_v_turned_order (s_bC s_rd (s_bC s_rd s_bN))) s_aN)) (s_Nf of_repr (s_aC (s_N os_tup (s_aC (s_Lc (si_rg1 s_rd) sl_N s_yes (s_fIf (s_uB (s_2f of_lt s_rd s_rd)) (s_fn nl_add (s_2 os_add s_rd s_rd)) (s_2f of_sub s_rd s_rd))) s_aN)) s_aN)))) (s_ret s_c) s_nil)
    (s_seq (s_asg (s_callD s_v_law_any (s_bC (s_2 os_add s_rd s_c) s_bN)))
    (s_ret (s_2f of_eq (s_call s_v_turned_wish (s_bC (s_call s_v_law_power (s_bC s_rd (s_bC s_rd s_bN))) (s_bC (s_call s_v_law_power (s_bC s_rd (s_bC s_rd s_bN))) (s_bC (s_call s_v_law_power (s_bC s_rd (s_bC s_rd s_bN))) s_bN)))) (s_call s_v_law_places (s_bC (s_call s_v_law_laid (s_bC s_rd (s_bC s_rd (s_bC (s_call s_v_turned_order (s_bC s_rd (s_bC s_rd s_bN))) s_bN)))) s_bN))))))))))))))
end Lw
namespace Lw
open PySem PySem.Spec PyProof.Rows L2 Gd Ev Vs Vl M24
theorem eq_any : Lw.v_law_any = Vl.v_law_any := rfl
theorem eq_of : Lw.v_law_of = Vl.v_law_of := rfl
theorem eq_draw : Lw.v_law_draw = Vl.v_law_draw := rfl
theorem eq_mixed : Lw.v_law_mixed = Vl.v_law_mixed := rfl
theorem eq_power : Lw.v_law_power = Vl.v_law_power := rfl
/-! powers by squares -/
abbrev rE (m t p f l : Nat) : PEnv := [pt (.int (m : Int)), pt (.int (t : Int)), ow (.int (p : Int)), ow (.int (f : Int)), ow (.int (l : Int))]
noncomputable abbrev rB : VS := (vseq (vif (qB (v2 pEq (v2 opMod (rd [4] 4) (vc (.int 2))) (vc (.int 1)))) (vasg 2 (fn (v2 pMul (rd [2] 2) (rd [3] 3)))) vnil)
    (vseq (vasg 4 (v2 opDiv (rd [4] 4) (vc (.int 2))))
    (vif (qB (v2 opGt (rd [4] 4) (vc (.int 0)))) (vasg 3 (fn (v2 pMul (rd [3] 3) (rd [3] 3)))) vnil)))
theorem r_step {m t p f l : Nat} (hp : p < 2 ^ 60) (hf : f < 2 ^ 60) : rB (rE m t p f l) = some (.nx (rE m t (if l % 2 = 1 then p * f else p) (if 0 < l / 2 then f * f else f) (l / 2))) := by
  have s1 : vif (qB (v2 pEq (v2 opMod (rd [4] 4) (vc (.int 2))) (vc (.int 1)))) (vasg 2 (fn (v2 pMul (rd [2] 2) (rd [3] 3)))) vnil (rE m t p f l) = some (.nx (rE m t (if l % 2 = 1 then p * f else p) f l)) := by
    have c : qB (v2 pEq (v2 opMod (rd [4] 4) (vc (.int 2))) (vc (.int 1))) (rE m t p f l) = some (decide (l % 2 = 1), rE m t p f l) := x_qB (x_2 (x_2 (n_rd rfl) rfl (o_mod (b := 2) (by decide))) rfl (o_eqN (b := 1)))
    by_cases h : l % 2 = 1
    · rw [decide_eq_true h] at c
      rw [if_pos h]
      exact x_ifT c (Eq.trans (n_asg (x_fn (x_2 (n_rd rfl) (n_rd rfl) (o_mul hp hf)) rfl)) rfl)
    · rw [decide_eq_false h] at c
      rw [if_neg h]
      exact x_ifF c rfl
  refine vseq_nx s1 (vseq_nx (Eq.trans (n_asg (x_2 (n_rd rfl) rfl (o_div (b := 2) (by decide) (by decide)))) rfl) ?_)
  have c : qB (v2 opGt (rd [4] 4) (vc (.int 0))) (rE m t (if l % 2 = 1 then p * f else p) f (l / 2)) = some (decide (0 < l / 2), rE m t (if l % 2 = 1 then p * f else p) f (l / 2)) := x_qB (x_2 (n_rd rfl) rfl (o_gtN (b := 0)))
  by_cases h : 0 < l / 2
  · rw [decide_eq_true h] at c
    rw [if_pos h]
    exact x_ifT c (Eq.trans (n_asg (x_fn (x_2 (n_rd rfl) (n_rd rfl) (o_mul hf hf)) rfl)) rfl)
  · rw [decide_eq_false h] at c
    rw [if_neg h]
    exact x_ifF c rfl
theorem r_loop {m t : Nat} : ∀ (u l p f : Nat), l < 2 ^ u → 1 ≤ p → 1 ≤ f → f < 2 ^ 50 → p * f ^ l < 2 ^ 50 → ∃ f', whileV (qB (v2 opGt (rd [4] 4) (vc (.int 0)))) rB (u + 1) (rE m t p f l) = some (.nx (rE m t (p * f ^ l) f' 0))
  | 0, l, p, f, hl, hp, hf, hf2, hb => by
    have hz : l = 0 := by have : l < 1 := hl; omega
    subst hz
    have c : qB (v2 opGt (rd [4] 4) (vc (.int 0))) (rE m t p f 0) = some (decide (0 < 0), rE m t p f 0) := x_qB (x_2 (n_rd rfl) rfl (o_gtN (a := 0) (b := 0)))
    exact ⟨f, by rw [Nat.pow_zero, Nat.mul_one]; exact whileV_F c⟩
  | u + 1, l, p, f, hl, hp, hf, hf2, hb => by
    have c : qB (v2 opGt (rd [4] 4) (vc (.int 0))) (rE m t p f l) = some (decide (0 < l), rE m t p f l) := x_qB (x_2 (n_rd rfl) rfl (o_gtN (b := 0)))
    by_cases h : 0 < l
    · rw [decide_eq_true h] at c
      have hpf : p ≤ p * f ^ l := Nat.le_mul_of_pos_right _ (Nat.pow_pos hf)
      have e1 : (if l % 2 = 1 then p * f else p) * (if 0 < l / 2 then f * f else f) ^ (l / 2) = p * f ^ l := by
        have e2 : (if 0 < l / 2 then f * f else f) ^ (l / 2) = (f * f) ^ (l / 2) := by
          split
          · rfl
          · rw [show l / 2 = 0 by omega]; rfl
        rw [e2, ← Nat.pow_two, ← Nat.pow_mul]
        split
        · rename_i ho
          rw [Nat.mul_assoc, ← Nat.pow_succ']
          show p * f ^ (2 * (l / 2) + 1) = _
          rw [show 2 * (l / 2) + 1 = l by omega]
        · rename_i ho
          rw [show 2 * (l / 2) = l by omega]
      have hff : (if 0 < l / 2 then f * f else f) < 2 ^ 50 := by
        split
        · have : f ^ 2 ≤ f ^ l := Nat.pow_le_pow_right hf (by omega)
          have h2 : f ^ l ≤ p * f ^ l := Nat.le_mul_of_pos_left _ hp
          rw [Nat.pow_two] at this
          omega
        · exact hf2
      have h1 : 1 ≤ (if l % 2 = 1 then p * f else p) := by
        split
        · exact Nat.mul_pos hp hf
        · exact hp
      have h2 : 1 ≤ (if 0 < l / 2 then f * f else f) := by
        split
        · exact Nat.mul_pos hf hf
        · exact hf
      obtain ⟨f', h3⟩ := r_loop (m := m) (t := t) u (l / 2) _ _ (by rw [Nat.pow_succ] at hl; omega) h1 h2 hff (by rw [e1]; exact hb)
      rw [e1] at h3
      exact ⟨f', whileV_T c (r_step (by omega) (by omega)) h3⟩
    · rw [decide_eq_false h] at c
      have hz : l = 0 := by omega
      subst hz
      exact ⟨f, by rw [Nat.pow_zero, Nat.mul_one]; exact whileV_F c⟩
theorem raised_ok {m t : Nat} (m1 : 1 ≤ m) (m2 : m < 2 ^ 50) (ht : t < 2 ^ 20) (hb : m ^ t < 2 ^ 50) : v_raised [.int (m : Int), .int (t : Int)] = some (.int ((m ^ t : Nat) : Int), .non) := by
  obtain ⟨f', h⟩ := r_loop (m := m) (t := t) 20 t 1 m ht (by decide) m1 m2 (by rw [Nat.one_mul]; exact hb)
  rw [Nat.one_mul] at h
  refine vdefF (e := rE m t (m ^ t) f' 0) rfl ?_
  show h_raised [pt (.int (m : Int)), pt (.int (t : Int)), none, none, none] = _
  exact vseq_nx (n_asg (g := vc (.int 1)) rfl) (vseq_nx (n_asg (n_mvp rfl rfl)) (vseq_nx (n_asg (n_mvp rfl rfl)) (vseq_nx (vwhile_of h) (x_ret (x_mvd rfl rfl)))))
/-! digits -/
theorem pow_small {m t : Nat} (m3 : m ≤ 3) (ht : t ≤ 4) : m ^ t ≤ 81 := by
  have h1 : m ^ t ≤ 3 ^ t := Nat.pow_le_pow_left m3 t
  have h2 : 3 ^ t ≤ 3 ^ 4 := Nat.pow_le_pow_right (by decide) ht
  omega
theorem rs {m t : Nat} (m1 : 1 ≤ m) (m3 : m ≤ 3) (ht : t ≤ 4) : v_raised [.int (m : Int), .int (t : Int)] = some (.int ((m ^ t : Nat) : Int), .non) := by
  have := pow_small m3 ht
  exact raised_ok m1 (by omega) (by omega) (by omega)
theorem pw {m t : Nat} (m3 : m ≤ 3) (ht : t ≤ 4) : v_law_power [.int (m : Int), .int (t : Int)] = some (.int ((m ^ t : Nat) : Int), .non) := power_ok (by omega) (by omega)
theorem digit_ok {x m t : Nat} (m1 : 1 ≤ m) (m3 : m ≤ 3) (ht : t ≤ 4) : v_digit [.int (x : Int), .int (m : Int), .int (t : Int)] = some (.int ((x / m ^ t % m : Nat) : Int), .non) := by
  have h1 := pow_small m3 ht
  have h2 : 0 < m ^ t := Nat.pow_pos m1
  refine vdefF (e := [pt (.int (x : Int)), pt (.int (m : Int)), pt (.int (t : Int))]) rfl ?_
  show h_digit [pt (.int (x : Int)), pt (.int (m : Int)), pt (.int (t : Int))] = _
  exact x_ret (x_2 (x_2 (rd_pt rfl) (x_call (x_C (rd_pt rfl) (x_C (rd_pt rfl) x_N)) (rs m1 m3 ht)) (o_div h2 (by omega))) (rd_pt rfl) (o_mod m1))
theorem readN_lt {x m : Nat} (m1 : 1 ≤ m) : ∀ places : List Nat, readN x m places < m ^ places.length
  | [] => by show (0 : Nat) < 1; decide
  | p :: places => by
    have ih := readN_lt (x := x) m1 places
    have hm := Nat.mod_lt (x / m ^ p) m1
    show readN x m places * m + x / m ^ p % m < _
    rw [List.length_cons, Nat.pow_succ]
    have : (readN x m places + 1) * m ≤ m ^ places.length * m := Nat.mul_le_mul_right m ih
    rw [Nat.add_mul, Nat.one_mul] at this
    omega
theorem read_ok {x m : Nat} {places : List Nat} (m1 : 1 ≤ m) (m3 : m ≤ 3) (hl : places.length ≤ 4) (hp : ∀ p ∈ places, p ≤ 4) : v_read_off [.int (x : Int), .int (m : Int), .tup (nL places)] = some (.int ((readN x m places : Nat) : Int), .non) := by
  have fr : ∀ i, places.reverse.take i = ((places.drop (places.length - i)).reverse) := fun i => by rw [← List.take_reverse]
  obtain ⟨e', h, y, hy, rfl⟩ := vfor_at (vi := viE (vRevT (rd [99] 2))) (src := []) (b := vbN 4) (e0 := [pt (.int (x : Int)), pt (.int (m : Int)), pt (.tup (nL places)), ow (.int ((0 : Nat) : Int)), none]) (e := [pt (.int (x : Int)), pt (.int (m : Int)), pt (.tup (nL places)), ow (.int ((0 : Nat) : Int)), none]) (f := fun p : Nat => A.int (p : Int)) (xs := places.reverse) (h := vasg 3 (fn (v2 opAdd (v2 pMul (rd [3] 3) (rd [99] 1)) (vcall v_digit (vC (rd [99] 0) (vC (rd [99] 1) (vC (rd [4] 4) vN)))))))
    (fun i e => ∃ y, Co y ∧ e = [pt (.int (x : Int)), pt (.int (m : Int)), pt (.tup (nL places)), ow (.int ((readN x m (places.reverse.take i).reverse : Nat) : Int)), y])
    (x_viE (x_RevT (rd_pt rfl) (dry_nL _)) (by show some (nL places).reverse = _; unfold nL; rw [← List.map_reverse]) (by show dryL (places.reverse.map _) = true; exact dryL_map fun _ _ => rfl)) ⟨none, Co_x, rfl⟩ (by
    rintro i p e hx ⟨y, hy, rfl⟩
    have hi := (List.getElem?_eq_some_iff.mp hx).1
    have hpm : p ∈ places := List.mem_reverse.mp (List.mem_of_getElem? hx)
    have hb := readN_lt (x := x) m1 (places.reverse.take i).reverse
    have hlen : (places.reverse.take i).reverse.length ≤ 4 := by rw [List.length_reverse, List.length_take, List.length_reverse]; omega
    have hs := pow_small m3 hlen
    refine ⟨_, _, n_bN rfl, .inl (n_asg (x_fn (x_2 (x_2 (n_rd rfl) (rd_pt rfl) (o_mul (by omega) (by omega))) (x_call (x_C (rd_pt rfl) (x_C (rd_pt rfl) (x_C (n_rd rfl) x_N))) (digit_ok m1 m3 (hp p hpm))) o_add) rfl)), ow (.int (p : Int)), Co_o, ?_⟩
    rw [List.take_succ, hx]
    show _ = [pt (.int (x : Int)), pt (.int (m : Int)), pt (.tup (nL places)), ow (.int ((readN x m (places.reverse.take i ++ [p]).reverse : Nat) : Int)), ow (.int (p : Int))]
    rw [List.reverse_append]
    rfl)
  rw [List.take_length, List.reverse_reverse] at h
  refine vdefF (e := [pt (.int (x : Int)), pt (.int (m : Int)), pt (.tup (nL places)), ow (.int ((readN x m places : Nat) : Int)), y]) rfl ?_
  show h_read_off [pt (.int (x : Int)), pt (.int (m : Int)), pt (.tup (nL places)), none, none] = _
  exact vseq_nx (n_asg (g := vc (.int 0)) rfl) (vseq_nx h (x_ret (x_mvd rfl rfl)))
/-! blocks filled one after another -/
theorem appN_len (R : List (List Nat)) (x i : Nat) : (appN R x i).length = R.length := List.length_set ..
def rowsU (M : Nat) (f : Nat → Nat) (i : Nat) : List (List Nat) := (List.range i).foldl (fun R x => appN R x (f x)) (List.replicate M [])
theorem rowsU_len (M : Nat) (f : Nat → Nat) : ∀ i, (rowsU M f i).length = M
  | 0 => List.length_replicate ..
  | i + 1 => by
    unfold rowsU
    rw [List.range_succ, List.foldl_append]
    show (appN _ _ _).length = M
    rw [appN_len]
    exact rowsU_len M f i
theorem rowsU_succ (M : Nat) (f : Nat → Nat) (i : Nat) : rowsU M f (i + 1) = appN (rowsU M f i) i (f i) := by
  unfold rowsU
  rw [List.range_succ, List.foldl_append]
  rfl
theorem rowsU_small (M : Nat) (f : Nat → Nat) : ∀ i j, ((rowsU M f i).getD j []).length ≤ i
  | 0, j => by
    show ((List.replicate M ([] : List Nat)).getD j []).length ≤ 0
    rw [List.getD_eq_getElem?_getD]
    cases h : (List.replicate M ([] : List Nat))[j]? with
    | none => exact Nat.le_refl _
    | some B => rw [(List.mem_replicate.mp (List.mem_of_getElem? h)).2]; exact Nat.le_refl _
  | i + 1, j => by
    rw [rowsU_succ]
    unfold appN
    have ih := rowsU_small M f i
    rw [List.getD_eq_getElem?_getD]
    by_cases hj : f i = j
    · by_cases hlt : j < (rowsU M f i).length
      · rw [hj, List.getElem?_set_self hlt]
        show (_ ++ [i]).length ≤ _
        rw [List.length_append]
        have := ih j
        simp only [List.length_cons, List.length_nil]
        omega
      · rw [List.getElem?_eq_none (by rw [List.length_set]; omega)]
        exact Nat.zero_le _
    · rw [List.getElem?_set_ne hj, ← List.getD_eq_getElem?_getD]
      have := ih j
      omega
theorem rowsU_mem (M : Nat) (f : Nat → Nat) (i : Nat) : ∀ B ∈ rowsU M f i, B.length ≤ i ∧ ∀ v ∈ B, v < i := by
  induction i with
  | zero =>
    intro B hB
    rw [(List.mem_replicate.mp hB).2]
    exact ⟨Nat.le_refl _, fun v hv => (List.not_mem_nil hv).elim⟩
  | succ i ih =>
    intro B hB
    rw [rowsU_succ] at hB
    rcases List.mem_or_eq_of_mem_set hB with h | rfl
    · exact ⟨Nat.le_succ_of_le (ih B h).1, fun v hv => Nat.lt_succ_of_lt ((ih B h).2 v hv)⟩
    · have hs := rowsU_small M f i (f i)
      refine ⟨by rw [List.length_append]; simp only [List.length_cons, List.length_nil]; omega, fun v hv => ?_⟩
      rcases List.mem_append.mp hv with h | h
      · rw [List.getD_eq_getElem?_getD] at h
        cases hg : (rowsU M f i)[f i]? with
        | none => rw [hg] at h; cases h
        | some C =>
          rw [hg] at h
          exact Nat.lt_succ_of_lt ((ih C (List.mem_of_getElem? hg)).2 v h)
      · rw [List.mem_singleton.mp h]
        exact Nat.lt_succ_self _
theorem empties {vi : VI} {js : Nat} {e : PEnv} {M : Nat} (hc : Cl e) (hlt : js ≠ 99) (hn : e[js]? = some none) (hv : vi e = some ((List.range M).map fun i : Nat => A.int (i : Int), [], e)) (hM : M ≤ 1000000) : vLc vi [js] (vbN js) qYes (vN1 mkLst vN) e = some (.tmp (rowA (List.replicate M [])), e) := by
  have hw : wipeE e [js] = e := by
    show e.set js none = e
    refine List.ext_getElem? fun k => ?_
    by_cases hk : js = k
    · subst hk
      rw [List.getElem?_set_self (List.getElem?_eq_some_iff.mp hn).1, hn]
    · rw [List.getElem?_set_ne hk]
  have hclr : clr e [js] = true := by
    unfold clr
    simp only [List.all_cons, List.all_nil, hn, Bool.and_true]
  have := vLc_map (vi := vi) (js := [js]) (b := vbN js) (g := vN1 mkLst vN) (fun _ : Nat => A.tmp []) (fun i : Nat => e.set js (ow (.int (i : Int)))) hv hclr (fun i _ => ⟨by rw [hw]; exact n_bN rfl hlt, x_N1 (o := mkLst) x_N rfl, by
    rw [hw]
    show (e.set js _).set js none = e
    rw [List.set_set]
    exact hw⟩) (by rw [List.length_range]; exact hM)
  rw [this]
  congr 3
  unfold rowA
  rw [List.map_replicate]
  exact List.eq_replicate_iff.mpr ⟨by rw [List.length_map, List.length_range], fun b hb => by
    obtain ⟨_, _, rfl⟩ := List.mem_map.mp hb
    rfl⟩
abbrev lbE (m k : Nat) (order outer : List Nat) (R : List (List Nat)) (y : Option Ent) : PEnv := [pt (.int (m : Int)), pt (.int (k : Int)), pt (.tup (nL order)), ow (.tup (nL outer)), ow (.tmp (rowA R)), y, none, none]
theorem laid_ok {m k : Nat} {order : List Nat} (m1 : 1 ≤ m) (m3 : m ≤ 3) (hl : order.length ≤ 4) (ho : ∀ p ∈ order, p ≤ 4) (hk : k ≤ order.length) : v_laid_by [.int (m : Int), .int (k : Int), .tup (nL order)] = some (stA (m ^ k) (laidN m k order), .non) := by
  have ld : (order.drop k).length = order.length - k := List.length_drop
  have hb1 := pow_small m3 (show order.length - k ≤ 4 by omega)
  have hb2 := pow_small m3 hl
  have s1 : vasg 3 (vSl (rd [99] 2) (voS (rd [99] 1)) voN) [pt (.int (m : Int)), pt (.int (k : Int)), pt (.tup (nL order)), none, none, none, none, none] = some (.nx [pt (.int (m : Int)), pt (.int (k : Int)), pt (.tup (nL order)), ow (.tup (nL (order.drop k))), none, none, none, none]) :=
    Eq.trans (n_asg (x_Sl (rd_pt rfl) (x_oS (rd_pt rfl)) x_oN (cut_dropT order hk))) rfl
  have s2 : vasg 4 (vLc (viRg1 (vcall v_raised (vC (rd [99] 0) (vC (vN1 bLen (vC (rd [3] 3) vN)) vN)))) [6] (vbN 6) qYes (vN1 mkLst vN)) [pt (.int (m : Int)), pt (.int (k : Int)), pt (.tup (nL order)), ow (.tup (nL (order.drop k))), none, none, none, none] = some (.nx (lbE m k order (order.drop k) (rowsU (m ^ (order.length - k)) (fun x => readN x m (order.drop k)) 0) none)) := by
    refine Eq.trans (n_asg (empties inferInstance (by decide) rfl (M := m ^ (order.length - k)) ?_ (by omega))) rfl
    rw [x_viRg1 (x_call (x_C (rd_pt rfl) (x_C (x_N1 (x_C (n_rd rfl) x_N) (o_lent _)) x_N)) (rs m1 m3 (by rw [ld]; omega))) (rg_in (by rw [ld]; omega)), ld, rg_map]
  obtain ⟨e', h, y, hy, rfl⟩ := vfor_at (vi := viRg1 (vcall v_raised (vC (rd [99] 0) (vC (vN1 bLen (vC (rd [99] 2) vN)) vN)))) (src := []) (b := vbN 5) (e0 := lbE m k order (order.drop k) (rowsU (m ^ (order.length - k)) (fun x => readN x m (order.drop k)) 0) none) (e := lbE m k order (order.drop k) (rowsU (m ^ (order.length - k)) (fun x => readN x m (order.drop k)) 0) none) (f := fun p : Nat => A.int (p : Int)) (xs := List.range (m ^ order.length)) (h := vexp (vM1g 4 aApp (vcall v_read_off (vC (rd [5] 5) (vC (rd [99] 0) (vC (rd [3] 3) vN)))) (vC (mv 5) vN)))
    (fun i e => ∃ y, Co y ∧ e = lbE m k order (order.drop k) (rowsU (m ^ (order.length - k)) (fun x => readN x m (order.drop k)) i) y)
    (by rw [x_viRg1 (x_call (x_C (rd_pt rfl) (x_C (x_N1 (x_C (rd_pt rfl) x_N) (o_lent _)) x_N)) (rs m1 m3 hl)) (rg_in (by omega)), rg_map]) ⟨none, Co_x, rfl⟩ (by
    rintro i x e hx ⟨y, hy, rfl⟩
    obtain ⟨rfl, hi⟩ := range_lt hx
    have hr := readN_lt (x := x) m1 (order.drop k)
    rw [ld] at hr
    have hs := rowsU_small (m ^ (order.length - k)) (fun x => readN x m (order.drop k)) x (readN x m (order.drop k))
    refine ⟨_, _, n_bN rfl, .inl (x_exp (n_appR (x_call (x_C (n_rd rfl) (x_C (rd_pt rfl) (x_C (x_rd rfl (dry_or (dry_nL _))) x_N))) (read_ok m1 m3 (by rw [ld]; omega) fun p hp => ho p (List.mem_of_mem_drop hp))) rfl (x_C (x_mvd rfl rfl) x_N) rfl (by rw [rowsU_len]; exact hr) (by omega))), ow (.int (x : Int)), Co_o, ?_⟩
    rw [rowsU_succ]
    rfl)
  rw [List.length_range] at h
  refine vdefF (e := lbE m k order (order.drop k) (laidN m k order) y) rfl ?_
  show h_laid_by [pt (.int (m : Int)), pt (.int (k : Int)), pt (.tup (nL order)), none, none, none, none, none] = _
  refine vseq_nx s1 (vseq_nx s2 (vseq_nx h (x_ret (x_N1 (o := mkTup) (x_C (x_call (x_C (rd_pt rfl) (x_C (rd_pt rfl) x_N)) (rs m1 m3 (by omega))) (x_C (x_N1 (x_C (last_comp rfl (by decide) (show 7 < 8 by decide) rfl rfl ?_) x_N) (o_tup _)) x_N)) rfl))))
  rw [rowsU_len]
  omega
theorem foreign_ok {k : Nat} {order : List Nat} (hk : k ≤ order.length) (hl : order.length ≤ 1000) : v_foreign_digits [.int (k : Int), .tup (nL order)] = some (.int ((forN k order : Nat) : Int), .non) := by
  have lc := vLc_quiet (b := vbN 2) (vi := viE (vSl (rd [99] 1) (voS (rd [99] 0)) voN)) (js := [2]) (src := []) (u := qB (v2 opLt (rd [2] 2) (rd [99] 0))) (g := rd [] 2) (e := [pt (.int (k : Int)), pt (.tup (nL order)), none]) (e0 := [pt (.int (k : Int)), pt (.tup (nL order)), none]) (f := fun p : Nat => A.int (p : Int)) (fun x : Nat => decide (x < k)) (fun p : Nat => A.int (p : Int)) (fun p : Nat => [pt (.int (k : Int)), pt (.tup (nL order)), ow (.int (p : Int))]) (xs := order.drop k)
    (x_viE (x_Sl (rd_pt rfl) (x_oS (rd_pt rfl)) x_oN (cut_dropT order hk)) rfl (dry_nL _)) rfl (fun p _ => ⟨n_bN rfl, x_qB (x_2 (n_rd rfl) (rd_pt rfl) o_ltN), fun _ => x_rd rfl rfl, rfl⟩) (by rw [List.length_drop]; omega)
  refine vdefF (e := [pt (.int (k : Int)), pt (.tup (nL order)), none]) rfl ?_
  show h_foreign_digits [pt (.int (k : Int)), pt (.tup (nL order)), none] = _
  exact x_ret (x_N1 (x_C lc x_N) (o_lenm _))

end Lw
namespace Lw
open PySem PySem.Spec PyProof.Rows L2 Gd Ev Vs Vl M24
/-! turned tables -/
theorem tord_ok {i j : Nat} (h : i + j ≤ 1000) : v_turned_order [.int (i : Int), .int (j : Int)] = some (.tup (nL (turnN i j)), .non) := by
  refine vdefF (e := [pt (.int (i : Int)), pt (.int (j : Int))]) rfl ?_
  show h_turned_order [pt (.int (i : Int)), pt (.int (j : Int))] = _
  have h1 : vTRg2 (rd [99] 1) (v2 opAdd (rd [99] 0) (rd [99] 1)) [pt (.int (i : Int)), pt (.int (j : Int))] = some (.tup (nL (List.range' j i)), [pt (.int (i : Int)), pt (.int (j : Int))]) := by
    rw [x_TRg2 (rd_pt rfl) (x_2 (rd_pt rfl) (rd_pt rfl) o_add) (rgOk_nat (by omega) (by omega)), show i + j = j + i by omega, rg2_nL]
  have h2 : vTRg1 (rd [99] 1) [pt (.int (i : Int)), pt (.int (j : Int))] = some (.tup (nL (List.range j)), [pt (.int (i : Int)), pt (.int (j : Int))]) := by
    rw [x_TRg1 (rd_pt rfl) (rgOk_nat (i := 0) (by omega) (by omega)), rgA_nL]
  exact x_ret (x_2 h1 h2 (nT_cat (by rw [List.length_range', List.length_range]; omega)))
theorem lc2_map {own : List Nat} {b : VB} {src : List Nat} {g1 g : VE} {j1 : Nat} {e : PEnv} {n m : Nat} (en : Nat → PEnv) (en2 : Nat → Nat → PEnv) (val : Nat → Nat → Nat) (hm : m ≤ 1000) (h : ∀ r, r < n → b src (.int (r : Int)) e = some (en r) ∧ g1 (en r) = some (.int (m : Int), en r) ∧ clr (en r) [j1] = true ∧ wipeE (en r) own = e ∧ wipeE (wipeE (en r) [j1]) own = e ∧ ∀ c, c < m → vbN j1 [] (.int (c : Int)) (wipeE (en r) [j1]) = some (en2 r c) ∧ g (en2 r c) = some (.int ((val r c : Nat) : Int), en2 r c) ∧ wipeE (en2 r c) [j1] = wipeE (en r) [j1]) :
    ∀ (k : Nat) (acc : List Nat), k ≤ n → acc.length + (n - k) * m ≤ 100000 → vlc2 own b src qYes g1 j1 qYes g (((List.range n).drop k).map fun i : Nat => A.int (i : Int)) (nL acc) e = some (nL (acc ++ ((List.range n).drop k).flatMap fun r => (List.range m).map (val r)), e) := by
  intro k acc hk hl
  generalize hd : n - k = d
  induction d generalizing k acc with
  | zero =>
    have : (List.range n).drop k = [] := List.drop_eq_nil_of_le (by rw [List.length_range]; omega)
    rw [this]
    show some (nL acc, e) = _
    simp
  | succ d ih =>
    have hkn : k < n := by omega
    rw [List.drop_eq_getElem_cons (by rw [List.length_range]; exact hkn), List.getElem_range, List.map_cons, List.flatMap_cons]
    obtain ⟨h1, h2, h3, h4, h5, h6⟩ := h k hkn
    have hin : (vlc [j1] (vbN j1) [] qYes g (rgA 0 (m : Int)) (nL acc) (wipeE (en k) [j1])) = some (nL (acc ++ (List.range m).map (val k)), wipeE (en k) [j1]) := by
      have := vlc_quiet (js := [j1]) (src := []) (b := vbN j1) (u := qYes) (g := g) (e := wipeE (en k) [j1]) (f := fun i : Nat => A.int (i : Int)) (P := fun _ => true) (val := fun c => A.int ((val k c : Nat) : Int)) (en := en2 k) (xs := List.range m) (acc := nL acc) (fun c hc => by
        obtain ⟨a1, a2, a3⟩ := h6 c (List.mem_range.mp hc)
        exact ⟨a1, rfl, fun _ => a2, a3⟩) (by
        rw [nL_len, List.length_range]
        have : (n - k) * m = d * m + m := by rw [hd, Nat.add_mul, Nat.one_mul]
        omega)
      rw [rg_map, this, List.filter_eq_self.mpr fun _ _ => rfl]
      congr 2
      unfold nL
      rw [List.map_append, List.map_map]
      rfl
    have hrec := ih (k + 1) (acc ++ (List.range m).map (val k)) (by omega) (by
      rw [List.length_append, List.length_map, List.length_range]
      have : (n - k) * m = (n - (k + 1)) * m + m := by rw [show n - k = n - (k + 1) + 1 by omega, Nat.add_mul, Nat.one_mul]
      omega) (by omega)
    rw [List.append_assoc] at hrec
    rw [vlc2, h1]
    simp only [qYes, h2]
    rw [if_pos ⟨by omega, by omega⟩, hin]
    simp only [h5]
    exact hrec
theorem x_Lc2 {vi : VI} {own : List Nat} {b : VB} {u u1 : VT} {g1 g : VE} {j1 : Nat} {e e1 e2 e3 : PEnv} {ps qs : List A} {src : List Nat} (h1 : vi e = some (ps, src, e1)) (h2 : clr e1 own = true) (h3 : vlc2 own b src u g1 j1 u1 g ps [] (wipeE e1 own) = some (qs, e2)) (h4 : bck e1 e2 own = e3) : vLc2 vi own b u g1 j1 u1 g e = some (.tmp qs, e3) := by
  unfold vLc2
  rw [h1]
  simp only
  rw [if_pos h2, h3]
  simp only
  rw [h4]
theorem twish_ok {b rows columns : Nat} (b0 : 0 < b) (hb : b ≤ 1000) (hr : rows ≤ 100) (hc : columns ≤ 100) : v_turned_wish [.int (b : Int), .int (rows : Int), .int (columns : Int)] = some (.tup (nL (twN b rows columns)), .non) := by
  refine vdefF (e := [pt (.int (b : Int)), pt (.int (rows : Int)), pt (.int (columns : Int)), none, none]) rfl ?_
  show h_turned_wish [pt (.int (b : Int)), pt (.int (rows : Int)), pt (.int (columns : Int)), none, none] = _
  refine x_ret (x_N1 (x_C ?_ x_N) (o_tup _))
  have hmul : rows * columns ≤ 100 * 100 := Nat.mul_le_mul hr hc
  have := lc2_map (own := [3, 4]) (b := vbN 3) (src := []) (g1 := rd [99] 2) (g := v2 opDiv (v2 opAdd (v2 pMul (rd [4] 4) (rd [99] 1)) (rd [3] 3)) (rd [99] 0)) (j1 := 4) (e := [pt (.int (b : Int)), pt (.int (rows : Int)), pt (.int (columns : Int)), none, none]) (n := rows) (m := columns) (fun r => [pt (.int (b : Int)), pt (.int (rows : Int)), pt (.int (columns : Int)), ow (.int (r : Int)), none]) (fun r c => [pt (.int (b : Int)), pt (.int (rows : Int)), pt (.int (columns : Int)), ow (.int (r : Int)), ow (.int (c : Int))]) (fun r c => (c * rows + r) / b) (by omega) (fun r hr => ⟨n_bN rfl, rd_pt rfl, rfl, rfl, rfl, fun c hc => ⟨n_bN rfl, x_2 (x_2 (x_2 (n_rd rfl) (rd_pt rfl) (o_mul (by omega) (by omega))) (n_rd rfl) o_add) (rd_pt rfl) (o_div b0 (by omega)), rfl⟩⟩) 0 [] (by omega) (by simp only [List.length_nil, Nat.sub_zero]; omega)
  rw [List.drop_zero] at this
  exact x_Lc2 (by rw [x_viRg1 (rd_pt rfl) (rg_in (by omega)), rg_map]) rfl this rfl
theorem tst_ok {b rows columns : Nat} (b0 : 0 < b) (hb : b ≤ 1000) (hr : rows ≤ 100) (hc : columns ≤ 100) : v_table_standing [.int (b : Int), .int (rows : Int), .int (columns : Int)] = some (stA b (sliceN b (rows * columns)), .non) := by
  have hmul : rows * columns ≤ 100 * 100 := Nat.mul_le_mul hr hc
  refine vdefF (e := [pt (.int (b : Int)), pt (.int (rows : Int)), pt (.int (columns : Int)), ow (.tmp (nL (List.range (rows * columns)))), none]) rfl ?_
  show h_table_standing [pt (.int (b : Int)), pt (.int (rows : Int)), pt (.int (columns : Int)), none, none] = _
  have s1 : vasg 3 (vLRg1 (v2 pMul (rd [99] 1) (rd [99] 2))) [pt (.int (b : Int)), pt (.int (rows : Int)), pt (.int (columns : Int)), none, none] = some (.nx [pt (.int (b : Int)), pt (.int (rows : Int)), pt (.int (columns : Int)), ow (.tmp (nL (List.range (rows * columns)))), none]) := by
    refine Eq.trans (n_asg (x_LRg1 (x_2 (rd_pt rfl) (rd_pt rfl) (o_mul (by omega) (by omega))) (rgOk_nat (i := 0) (by omega) (by omega)))) ?_
    rw [rgA_nL]
    rfl
  refine vseq_nx s1 (x_ret (x_N1 (o := mkTup) (x_C (n_mvp rfl rfl) (x_C (x_N1 (x_C ?_ x_N) (o_tup _)) x_N)) rfl))
  have hq : ∃ q : Nat, Builtin.Range.rangeSize 0 ((rows * columns : Nat) : Int) (b : Int) = (q : Int) ∧ q = (rows * columns + b - 1) / b ∧ q ≤ rows * columns := by
    generalize rows * columns = n
    unfold Builtin.Range.rangeSize
    rw [if_pos (by omega)]
    by_cases hz : (0 : Int) < (n : Int)
    · rw [if_pos hz]
      have h1 : ((n : Int) - 0 - 1) = ((n - 1 : Nat) : Int) := by omega
      have h2 : (n + b - 1) / b = (n - 1) / b + 1 := by
        rw [show n + b - 1 = n - 1 + b by omega, Nat.add_div_right _ b0]
      have h3 := Nat.div_le_self (n - 1) b
      refine ⟨(n - 1) / b + 1, ?_, h2.symm, by omega⟩
      rw [h1, ← Int.natCast_ediv, Int.natCast_add]
      rfl
    · rw [if_neg hz]
      have h1 : n = 0 := by omega
      subst h1
      exact ⟨0, rfl, (Nat.div_eq_of_lt (by omega)).symm, Nat.le_refl _⟩
  obtain ⟨q, hq1, hq2, hq3⟩ := hq
  have hsz : (Builtin.Range.rangeSize 0 ((rows * columns : Nat) : Int) (b : Int)).toNat = (rows * columns + b - 1) / b := by rw [hq1, ← hq2, Int.toNat_natCast]
  have hrg : RgC 0 ((rows * columns : Nat) : Int) (b : Int) (Builtin.Range.rangeSize 0 ((rows * columns : Nat) : Int) (b : Int)).toNat := by
    refine ⟨by omega, by omega, ?_, by rw [hq1, Int.toNat_natCast]⟩
    generalize rows * columns = n at hq1 hq3 hmul ⊢
    unfold Builtin.Range.small
    rw [hq1]
    simp only [Builtin.Range.rangeFitsLong, Bool.and_eq_true, Bool.or_eq_true, decide_eq_true_eq, beq_iff_eq]
    have hb0 : (b : Int) > 0 := by omega
    refine ⟨⟨⟨⟨⟨by omega, by omega⟩, by omega, by omega⟩, by omega, by omega⟩, by omega, by omega⟩, .inr ?_⟩
    rw [if_pos hb0, Bool.and_eq_true, decide_eq_true_eq, decide_eq_true_eq]
    exact ⟨by omega, by omega⟩
  have lc := vLc_map (vi := viRg3 (vc (.int 0)) (vN1 bLen (vC (rd [3] 3) vN)) (rd [99] 0)) (js := [4]) (src := []) (b := vbN 4) (g := vN1 bTup (vC (vSl (rd [3] 3) (voS (rd [4] 4)) (voS (v2 opAdd (rd [4] 4) (rd [99] 0)))) vN)) (e := [pt (.int (b : Int)), pt (.int (rows : Int)), pt (.int (columns : Int)), ow (.tmp (nL (List.range (rows * columns)))), none]) (e0 := [pt (.int (b : Int)), pt (.int (rows : Int)), pt (.int (columns : Int)), ow (.tmp (nL (List.range (rows * columns)))), none]) (f := fun i : Nat => A.int ((i * b : Nat) : Int)) (fun i : Nat => bkA (((List.range (rows * columns)).drop (i * b)).take b)) (fun i : Nat => [pt (.int (b : Int)), pt (.int (rows : Int)), pt (.int (columns : Int)), ow (.tmp (nL (List.range (rows * columns)))), ow (.int ((i * b : Nat) : Int))]) (xs := List.range ((rows * columns + b - 1) / b))
    (by
      rw [x_viRg3 (i := 0) (j := ((rows * columns : Nat) : Int)) (c := (b : Int)) rfl (x_N1 (x_C (n_rd rfl) x_N) (by rw [o_lenm, List.length_range])) (rd_pt rfl) hrg, hsz]
      congr 2
      unfold rg3A
      refine List.map_congr_left fun i _ => ?_
      rw [Int.natCast_mul, Int.zero_add]) rfl (fun i _ => ⟨n_bN rfl, x_N1 (x_C (x_Sl (n_rd rfl) (x_oS (n_rd rfl)) (x_oS (x_2 (n_rd rfl) (rd_pt rfl) o_add)) (cut_mid _ _ _)) x_N) (by rw [show i * b + b - i * b = b by omega]; rfl), rfl⟩) (by
      rw [List.length_range]
      have := Nat.div_le_self (rows * columns + b - 1) b
      omega)
  rw [show (List.range ((rows * columns + b - 1) / b)).map (fun i : Nat => bkA (((List.range (rows * columns)).drop (i * b)).take b)) = (sliceN b (rows * columns)).map bkA by unfold sliceN; rw [List.map_map]; rfl] at lc
  exact lc
/-! the law's own -/
theorem ldig_ok {m h x : Nat} (m1 : 1 ≤ m) (m3 : m ≤ 1000) (hh : h ≤ 1000) : v_law_digits [.int (m : Int), .int (h : Int), .int (x : Int)] = some (.tmp (nL ((List.range h).map fun t => x / m ^ t % m)), .non) := by
  have e1 : vpar [3, 4] (vC (vN1 mkLst vN) (vC (mv 2) vN)) [pt (.int (m : Int)), pt (.int (h : Int)), pt (.int (x : Int)), none, none, none] = some (.nx [pt (.int (m : Int)), pt (.int (h : Int)), pt (.int (x : Int)), ow (.tmp (nL [])), ow (.int (x : Int)), none]) :=
    n_par (x_C (x_N1 (o := mkLst) x_N rfl) (x_C (n_mvp rfl rfl) x_N)) rfl
  obtain ⟨e', h2, y, hy, rfl⟩ := vfor_at (vi := viRg1 (rd [99] 1)) (e0 := [pt (.int (m : Int)), pt (.int (h : Int)), pt (.int (x : Int)), ow (.tmp (nL [])), ow (.int (x : Int)), none]) (b := vbN 5) (src := []) (h := (vseq (vexp (vM0 3 aApp (vC (v2 opMod (rd [4] 4) (rd [99] 0)) vN)))
    (vasg 4 (v2 opDiv (rd [4] 4) (rd [99] 0))))) (f := fun i : Nat => A.int (i : Int)) (fun i e => ∃ y, Co y ∧ e = [pt (.int (m : Int)), pt (.int (h : Int)), pt (.int (x : Int)), ow (.tmp (nL ((List.range i).map fun t => x / m ^ t % m))), ow (.int ((x / m ^ i : Nat) : Int)), y]) (xs := List.range h)
    (by rw [x_viRg1 (rd_pt rfl) (rg_in (by omega)), rg_map]) ⟨none, Co_x, by rw [Nat.pow_zero, Nat.div_one]; rfl⟩ (by
    rintro i z e hx ⟨y, hy, rfl⟩
    obtain ⟨rfl, hm⟩ := range_lt hx
    refine ⟨_, _, n_bN rfl, .inl (vseq_nx (x_exp (n_M0 rfl (x_C (x_2 (n_rd rfl) (rd_pt rfl) (o_mod m1)) x_N) rfl (nL_app (by rw [List.length_map, List.length_range]; omega)))) (n_asg (x_2 (n_rd rfl) (rd_pt rfl) (o_div m1 (by omega))))), ow (.int (z : Int)), Co_o, ?_⟩
    rw [Nat.div_div_eq_div_mul, ← Nat.pow_succ, List.range_succ, List.map_append]
    rfl)
  rw [List.length_range] at h2
  refine vdefF (e := [pt (.int (m : Int)), pt (.int (h : Int)), pt (.int (x : Int)), none, ow (.int ((x / m ^ h : Nat) : Int)), y]) rfl ?_
  show h_law_digits [pt (.int (m : Int)), pt (.int (h : Int)), pt (.int (x : Int)), none, none, none] = _
  exact vseq_nx e1 (vseq_nx h2 (x_ret (n_mv rfl rfl)))
def yU (m : Nat) (order : List Nat) (x i : Nat) : Nat := (List.range i).foldl (fun y t => y + x / m ^ (order.getD t 0) % m * m ^ t) 0
theorem yU_succ (m : Nat) (order : List Nat) (x i : Nat) : yU m order x (i + 1) = yU m order x i + x / m ^ (order.getD i 0) % m * m ^ i := by
  unfold yU
  rw [List.range_succ, List.foldl_append]
  rfl
theorem yU_lt {m : Nat} (m1 : 1 ≤ m) (order : List Nat) (x : Nat) : ∀ i, yU m order x i < m ^ i
  | 0 => by show 0 < 1; decide
  | i + 1 => by
    have ih := yU_lt m1 order x i
    have hm := Nat.mod_lt (x / m ^ (order.getD i 0)) m1
    rw [yU_succ, Nat.pow_succ]
    have : (x / m ^ (order.getD i 0) % m + 1) * m ^ i ≤ m * m ^ i := Nat.mul_le_mul_right _ hm
    rw [Nat.add_mul, Nat.one_mul] at this
    rw [Nat.mul_comm (m ^ i) m]
    omega
abbrev llE (m k : Nat) (order : List Nat) (h b : Nat) (R : List (List Nat)) (x dg y t : Option Ent) : PEnv := [pt (.int (m : Int)), pt (.int (k : Int)), pt (.tup (nL order)), ow (.int (h : Int)), ow (.int (b : Int)), ow (.tmp (rowA R)), x, dg, y, t, none]
theorem llaid_ok {m k : Nat} {order : List Nat} (m1 : 1 ≤ m) (m3 : m ≤ 3) (hl : order.length ≤ 4) (ho : ∀ p ∈ order, p < order.length) (hk : k ≤ order.length) (hlay : okLaid m order.length order k = true) : v_law_laid [.int (m : Int), .int (k : Int), .tup (nL order)] = some (stA (m ^ k) (laidN m k order), .non) := by
  have hb1 := pow_small m3 (show order.length - k ≤ 4 by omega)
  have hb2 := pow_small m3 hl
  have hb3 := pow_small m3 (show k ≤ 4 by omega)
  have hk0 : 0 < m ^ k := Nat.pow_pos m1
  have hlay2 : ∀ x, x < m ^ order.length → yU m order x order.length / m ^ k = readN x m (order.drop k) ∧ readN x m (order.drop k) < m ^ (order.length - k) := fun x hx => by
    have := (List.all_eq_true.mp hlay) x (List.mem_range.mpr hx)
    simp only [Bool.and_eq_true, decide_eq_true_eq] at this
    exact this
  have s1 : vpar [3, 4] (vC (vN1 bLen (vC (rd [99] 2) vN)) (vC (vcall v_law_power (vC (rd [99] 0) (vC (rd [99] 1) vN))) vN)) [pt (.int (m : Int)), pt (.int (k : Int)), pt (.tup (nL order)), none, none, none, none, none, none, none, none] = some (.nx [pt (.int (m : Int)), pt (.int (k : Int)), pt (.tup (nL order)), ow (.int (order.length : Int)), ow (.int ((m ^ k : Nat) : Int)), none, none, none, none, none, none]) :=
    n_par (x_C (x_N1 (x_C (rd_pt rfl) x_N) (o_lent _)) (x_C (x_call (x_C (rd_pt rfl) (x_C (rd_pt rfl) x_N)) (pw m3 (by omega))) x_N)) rfl
  have s2 : vasg 5 (vLc (viRg1 (vcall v_law_power (vC (rd [99] 0) (vC (v2 opSub (rd [3] 3) (rd [99] 1)) vN)))) [10] (vbN 10) qYes (vN1 mkLst vN)) [pt (.int (m : Int)), pt (.int (k : Int)), pt (.tup (nL order)), ow (.int (order.length : Int)), ow (.int ((m ^ k : Nat) : Int)), none, none, none, none, none, none] = some (.nx (llE m k order order.length (m ^ k) (rowsU (m ^ (order.length - k)) (fun x => readN x m (order.drop k)) 0) none none none none)) := by
    refine Eq.trans (n_asg (empties inferInstance (by decide) rfl (M := m ^ (order.length - k)) ?_ (by omega))) rfl
    rw [x_viRg1 (x_call (x_C (rd_pt rfl) (x_C (x_2 (n_rd rfl) (rd_pt rfl) (o_sub hk)) x_N)) (pw m3 (by omega))) (rg_in (by omega)), rg_map]
  obtain ⟨e', h, x', dg', y', t', hx', hdg', hy', ht', rfl⟩ := vfor_at (vi := viRg1 (vcall v_law_power (vC (rd [99] 0) (vC (rd [3] 3) vN)))) (src := []) (b := vbN 6) (e0 := llE m k order order.length (m ^ k) (rowsU (m ^ (order.length - k)) (fun x => readN x m (order.drop k)) 0) none none none none) (e := llE m k order order.length (m ^ k) (rowsU (m ^ (order.length - k)) (fun x => readN x m (order.drop k)) 0) none none none none) (f := fun p : Nat => A.int (p : Int)) (xs := List.range (m ^ order.length)) (h := (vseq (vpar [7, 8] (vC (vcall v_law_digits (vC (rd [99] 0) (vC (rd [3] 3) (vC (rd [6] 6) vN)))) (vC (vc (.int 0)) vN)))
    (vseq (vfor (viRg1 (rd [3] 3)) (vbN 9) (vasg 8 (v2 opAdd (mv 8) (fn (v2 pMul (v2 opIx (rd [7] 7) (v2 opIx (rd [99] 2) (rd [9] 9))) (vcall v_law_power (vC (rd [99] 0) (vC (rd [9] 9) vN))))))))
    (vexp (vM1 5 aApp (v2 opDiv (rd [8] 8) (rd [4] 4)) (vC (mv 6) vN))))))
    (fun i e => ∃ x' dg' y' t', Co x' ∧ Co dg' ∧ Co y' ∧ Co t' ∧ e = llE m k order order.length (m ^ k) (rowsU (m ^ (order.length - k)) (fun x => readN x m (order.drop k)) i) x' dg' y' t')
    (by rw [x_viRg1 (x_call (x_C (rd_pt rfl) (x_C (n_rd rfl) x_N)) (pw m3 hl)) (rg_in (by omega)), rg_map]) ⟨none, none, none, none, Co_x, Co_x, Co_x, Co_x, rfl⟩ (by
    rintro i x e hx ⟨x', dg', y', t', hx', hdg', hy', ht', rfl⟩
    obtain ⟨rfl, hi⟩ := range_lt hx
    obtain ⟨q1, q2⟩ := hlay2 x hi
    generalize hR : rowsU (m ^ (order.length - k)) (fun x => readN x m (order.drop k)) x = R
    have hRl : R.length = m ^ (order.length - k) := by rw [← hR]; exact rowsU_len _ _ _
    have hRs : (R.getD (readN x m (order.drop k)) []).length ≤ x := by rw [← hR]; exact rowsU_small _ _ _ _
    have a1 : vpar [7, 8] (vC (vcall v_law_digits (vC (rd [99] 0) (vC (rd [3] 3) (vC (rd [6] 6) vN)))) (vC (vc (.int 0)) vN)) (llE m k order order.length (m ^ k) R (ow (.int (x : Int))) dg' y' t') = some (.nx (llE m k order order.length (m ^ k) R (ow (.int (x : Int))) (ow (.tmp (nL ((List.range order.length).map fun t => x / m ^ t % m)))) (ow (.int ((0 : Nat) : Int))) t')) :=
      Eq.trans (n_par (x_C (x_call (x_C (rd_pt rfl) (x_C (n_rd rfl) (x_C (n_rd rfl) x_N))) (ldig_ok m1 (by omega) (by omega))) (x_C rfl x_N)) rfl) rfl
    obtain ⟨e2, a2, t2, ht2, rfl⟩ := vfor_at (vi := viRg1 (rd [3] 3)) (src := []) (b := vbN 9) (e0 := llE m k order order.length (m ^ k) R (ow (.int (x : Int))) (ow (.tmp (nL ((List.range order.length).map fun t => x / m ^ t % m)))) (ow (.int ((0 : Nat) : Int))) t') (e := llE m k order order.length (m ^ k) R (ow (.int (x : Int))) (ow (.tmp (nL ((List.range order.length).map fun t => x / m ^ t % m)))) (ow (.int ((0 : Nat) : Int))) t') (f := fun p : Nat => A.int (p : Int)) (xs := List.range order.length) (h := vasg 8 (v2 opAdd (mv 8) (fn (v2 pMul (v2 opIx (rd [7] 7) (v2 opIx (rd [99] 2) (rd [9] 9))) (vcall v_law_power (vC (rd [99] 0) (vC (rd [9] 9) vN)))))))
      (fun i e => ∃ t', Co t' ∧ e = llE m k order order.length (m ^ k) R (ow (.int (x : Int))) (ow (.tmp (nL ((List.range order.length).map fun t => x / m ^ t % m)))) (ow (.int ((yU m order x i : Nat) : Int))) t')
      (by rw [x_viRg1 (n_rd rfl) (rg_in (by omega)), rg_map]) ⟨t', ht', rfl⟩ (by
      rintro i t e hx ⟨t', ht', rfl⟩
      obtain ⟨rfl, hi2⟩ := range_lt hx
      have hot : order.getD t 0 < order.length := by
        rw [List.getD_eq_getElem?_getD, List.getElem?_eq_getElem hi2]
        exact ho _ (List.getElem_mem hi2)
      have hyl := yU_lt m1 order x t
      have hpt := pow_small m3 (show t ≤ 4 by omega)
      have hml := Nat.mod_lt (x / m ^ (order.getD t 0)) m1
      refine ⟨_, _, n_bN rfl, .inl (n_asg (x_2 (x_mvd rfl rfl) (x_fn (x_2 (x_2 (n_rd rfl) (x_2 (rd_pt rfl) (n_rd rfl) (o_ixt hi2)) (o_ix (by rw [List.length_map, List.length_range]; exact hot))) (x_call (x_C (rd_pt rfl) (x_C (n_rd rfl) x_N)) (pw m3 (by omega))) (o_mul (by rw [getD_map_range hot]; omega) (by omega))) rfl) o_add)), ow (.int (t : Int)), Co_o, ?_⟩
      rw [yU_succ, getD_map_range hot]
      rfl)
    rw [List.length_range] at a2
    refine ⟨_, _, n_bN rfl, .inl (vseq_nx a1 (vseq_nx a2 (x_exp (n_appR1 (j := yU m order x order.length / m ^ k) (x_2 (n_rd rfl) (n_rd rfl) (o_div hk0 (by omega))) rfl (x_C (x_mvd rfl rfl) x_N) rfl (by rw [q1, hRl]; exact q2) (by rw [q1]; omega))))), ow (.int (x : Int)), ow (.tmp (nL ((List.range order.length).map fun t => x / m ^ t % m))), ow (.int ((yU m order x order.length : Nat) : Int)), t2, Co_o, Co_o, Co_o, ht2, ?_⟩
    rw [rowsU_succ, hR, q1]
    rfl)
  rw [List.length_range] at h
  refine vdefF (e := llE m k order order.length (m ^ k) (laidN m k order) x' dg' y' t') rfl ?_
  show h_law_laid [pt (.int (m : Int)), pt (.int (k : Int)), pt (.tup (nL order)), none, none, none, none, none, none, none, none] = _
  refine vseq_nx s1 (vseq_nx s2 (vseq_nx h (x_ret (x_N1 (o := mkTup) (x_C (x_mvd rfl rfl) (x_C (x_N1 (x_C (last_comp rfl (by decide) (show 10 < 11 by decide) rfl rfl ?_) x_N) (o_tup _)) x_N)) rfl))))
  rw [rowsU_len]
  omega

end Lw
namespace Lw
open PySem PySem.Spec PyProof.Rows L2 Gd Ev Vs Vl M24
theorem pEq_str (x y : Str) : pEq (.str x) (.str y) [] = .ok (.bl (decide (x = y))) [] := rfl
theorem cut_dropL (xs : List Nat) (a : Nat) : pCut (.tmp (nL xs)) (some (a : Int)) none = some (.tmp (nL (xs.drop a))) := by
  by_cases h : a ≤ xs.length
  · exact cut_nL xs h
  · unfold pCut
    simp only [dry_nL, if_true]
    congr 2
    unfold cutA
    rw [show HT.sIx (nL xs).length 0 (some (a : Int)) = min a (nL xs).length from HT.sIx_nat _ _ a, show HT.sIx (nL xs).length (nL xs).length none = (nL xs).length from rfl, nL_len, Nat.min_eq_right (show xs.length ≤ a by omega), nL_drop, List.drop_eq_nil_of_le (Nat.le_refl _), List.drop_eq_nil_of_le (show xs.length ≤ a by omega)]
    simp
theorem aApp_any {xs : List A} {p : A} (h : xs.length < 1000000) : aApp xs [p] = some (xs ++ [p], .non) := by
  unfold aApp
  simp only
  rw [if_pos (size_big (by omega))]
/-! a column after another -/
theorem col_ok {rows columns : Nat} (hr : rows ≤ 100) (hc : columns ≤ 100) : v_law_column [.int (rows : Int), .int (columns : Int)] = some (.tmp (nL (colN rows columns)), .non) := by
  have hmul : ∀ i, i ≤ columns → rows * i ≤ 10000 := fun i hi => Nat.le_trans (Nat.mul_le_mul hr (Nat.le_trans hi hc)) (by decide)
  have flen : ∀ i, ((List.range i).flatMap fun c => (List.range rows).map fun r => r * columns + c).length = rows * i := by
    intro i
    induction i with
    | zero => rfl
    | succ i ih => rw [List.range_succ, List.flatMap_append, List.length_append, ih, List.flatMap_cons, List.flatMap_nil, List.append_nil, List.length_map, List.length_range, Nat.mul_succ]
  have e1 : vasg 2 (vN1 mkLst vN) [pt (.int (rows : Int)), pt (.int (columns : Int)), none, none, none] = some (.nx [pt (.int (rows : Int)), pt (.int (columns : Int)), ow (.tmp (nL [])), none, none]) := n_asg (x_N1 (o := mkLst) x_N rfl)
  obtain ⟨e', h2, y, hy, rfl⟩ := vfor_at (vi := viRg1 (rd [99] 1)) (src := []) (b := vbN 3) (e0 := [pt (.int (rows : Int)), pt (.int (columns : Int)), ow (.tmp (nL [])), none, none]) (e := [pt (.int (rows : Int)), pt (.int (columns : Int)), ow (.tmp (nL [])), none, none]) (f := fun p : Nat => A.int (p : Int)) (xs := List.range columns) (h := vasg 2 (v2 opAdd (mv 2) (vLc (viRg1 (rd [99] 0)) [4] (vbN 4) qYes (fn (v2 opAdd (v2 pMul (rd [4] 4) (rd [99] 1)) (rd [3] 3))))))
    (fun i e => ∃ y, Co y ∧ e = [pt (.int (rows : Int)), pt (.int (columns : Int)), ow (.tmp (nL ((List.range i).flatMap fun c => (List.range rows).map fun r => r * columns + c))), y, none])
    (by rw [x_viRg1 (rd_pt rfl) (rg_in (by omega)), rg_map]) ⟨none, Co_x, rfl⟩ (by
    rintro i c e hx ⟨y, hy, rfl⟩
    obtain ⟨rfl, hi⟩ := range_lt hx
    have lc := vLc_map (vi := viRg1 (rd [99] 0)) (js := [4]) (src := []) (b := vbN 4) (g := fn (v2 opAdd (v2 pMul (rd [4] 4) (rd [99] 1)) (rd [3] 3))) (e := [pt (.int (rows : Int)), pt (.int (columns : Int)), none, ow (.int (c : Int)), none]) (e0 := [pt (.int (rows : Int)), pt (.int (columns : Int)), none, ow (.int (c : Int)), none]) (f := fun r : Nat => A.int (r : Int)) (fun r : Nat => A.int ((r * columns + c : Nat) : Int)) (fun r : Nat => [pt (.int (rows : Int)), pt (.int (columns : Int)), none, ow (.int (c : Int)), ow (.int (r : Int))]) (xs := List.range rows)
      (by rw [x_viRg1 (rd_pt rfl) (rg_in (by omega)), rg_map]) rfl (fun r hr2 => ⟨n_bN rfl, x_fn (x_2 (x_2 (n_rd rfl) (rd_pt rfl) (o_mul (by have := List.mem_range.mp hr2; omega) (by omega))) (n_rd rfl) o_add) rfl, rfl⟩) (by rw [List.length_range]; omega)
    rw [nL_map] at lc
    have h3 := hmul c (by omega)
    refine ⟨_, _, n_bN rfl, .inl (n_asg (e1 := [pt (.int (rows : Int)), pt (.int (columns : Int)), none, ow (.int (c : Int)), none]) (x_2 (n_mv (e := [pt (.int (rows : Int)), pt (.int (columns : Int)), ow (.tmp (nL ((List.range c).flatMap fun c => (List.range rows).map fun r => r * columns + c))), ow (.int (c : Int)), none]) rfl rfl) lc (nL_cat (by rw [flen, List.length_map, List.length_range]; omega)))), ow (.int (c : Int)), Co_o, ?_⟩
    rw [List.range_succ, List.flatMap_append, List.flatMap_cons, List.flatMap_nil, List.append_nil]
    rfl)
  rw [List.length_range] at h2
  refine vdefF (e := [pt (.int (rows : Int)), pt (.int (columns : Int)), none, y, none]) rfl ?_
  show h_law_column [pt (.int (rows : Int)), pt (.int (columns : Int)), none, none, none] = _
  exact vseq_nx e1 (vseq_nx h2 (x_ret (n_mv (e := [pt (.int (rows : Int)), pt (.int (columns : Int)), ow (.tmp (nL (colN rows columns))), y, none]) rfl rfl)))
/-! places -/
def oA : Option Nat → A
  | none => .non
  | some v => .int (v : Int)
theorem dry_oA (F : List (Option Nat)) : dryL (F.map oA) = true := dryL_map fun o _ => by cases o <;> rfl
def plU (rows : List (List Nat)) (i : Nat) : List (Option Nat) := (rows.zipIdx.take i).foldl (fun F p => p.1.foldl (fun F r => F.set r (some p.2)) F) (List.replicate (rows.map List.length).sum none)
theorem setAll_len (v : Nat) : ∀ (B : List Nat) (F : List (Option Nat)), (B.foldl (fun F r => F.set r (some v)) F).length = F.length
  | [], F => rfl
  | r :: B, F => by rw [List.foldl_cons, setAll_len v B, List.length_set]
theorem plU_len (rows : List (List Nat)) : ∀ i, (plU rows i).length = (rows.map List.length).sum := by
  intro i
  have : ∀ (ps : List (List Nat × Nat)) (F : List (Option Nat)), (ps.foldl (fun F p => p.1.foldl (fun F r => F.set r (some p.2)) F) F).length = F.length := by
    intro ps
    induction ps with
    | nil => intro F; rfl
    | cons p ps ih => intro F; rw [List.foldl_cons, ih, setAll_len]
  unfold plU
  rw [this, List.length_replicate]
abbrev plE (b : Nat) (R : List (List Nat)) (F : List (Option Nat)) (x y z : Option Ent) : PEnv := [pt (stA b R), ow (.tmp (F.map oA)), x, y, z]
theorem rep_non (n : Nat) : (List.replicate n [A.non]).flatten = (List.replicate n none).map oA := by
  induction n with
  | zero => rfl
  | succ n ih => rw [List.replicate_succ, List.flatten_cons, ih, List.replicate_succ]; rfl
theorem setAll_succ (v : Nat) (B : List Nat) (j r : Nat) (h : B[j]? = some r) (F : List (Option Nat)) : (B.take (j + 1)).foldl (fun F r => F.set r (some v)) F = ((B.take j).foldl (fun F r => F.set r (some v)) F).set r (some v) := by
  rw [List.take_succ, h, List.foldl_append]
  rfl
theorem oA_set (F : List (Option Nat)) (r v : Nat) : (F.map oA).set r (.int (v : Int)) = (F.set r (some v)).map oA := by
  rw [List.map_set]
  rfl
theorem enum_bk (R : List (List Nat)) : enumA (R.map bkA) = R.zipIdx.map fun p : List Nat × Nat => A.pr (.int (p.2 : Int)) (bkA p.1) := by
  unfold enumA
  rw [List.zipIdx_map, List.map_map]
  rfl
theorem places_ok {b : Nat} {R : List (List Nat)} (hR : R.length ≤ 1000) (hs : (R.map List.length).sum ≤ 1000) (hg : M24.good R = true) : v_law_places [stA b R] = some (.tup (nL (plN R)), .non) := by
  unfold M24.good at hg
  rw [Bool.and_eq_true] at hg
  have hr : ∀ B ∈ R, ∀ r ∈ B, r < (R.map List.length).sum := fun B hB r h => by
    have := (List.all_eq_true.mp hg.2) B hB
    exact of_decide_eq_true ((List.all_eq_true.mp this) r h)
  have lc := vLc_map (vi := viE (v2 opIx (rd [99] 0) (vc (.int 1)))) (js := [3]) (src := []) (b := vbN 3) (g := vN1 bLen (vC (rd [3] 3) vN)) (e := [pt (stA b R), none, none, none, none]) (e0 := [pt (stA b R), none, none, none, none]) (f := bkA) (fun B => A.int ((B.length : Nat) : Int)) (fun B => [pt (stA b R), none, none, ow (bkA B), none]) (xs := R)
    (x_viE (x_2 (rd_pt rfl) rfl (st_1 b R)) rfl (dry_bs R)) rfl (fun B _ => ⟨n_bN (dry_bk B), x_N1 (x_C (n_rd rfl) x_N) (o_lent B), rfl⟩) (by omega)
  rw [nL_map] at lc
  have hrep : pMul (.tmp [.non]) (.int (((R.map List.length).sum : Nat) : Int)) [] = .ok (.tmp ((plU R 0).map oA)) [] := by
    show _ = Ev.R.ok (A.tmp ((List.replicate (R.map List.length).sum none).map oA)) ([] : Sto)
    generalize (R.map List.length).sum = n at hs
    have c : dryL [A.non] = true ∧ -(2 ^ 63) ≤ (n : Int) ∧ (n : Int) < 2 ^ 63 ∧ [A.non].length * (n : Int).toNat ≤ sizeLine := ⟨rfl, by omega, by omega, by
      have := size_big (n := n) (by omega)
      simp only [List.length_cons, List.length_nil, Int.toNat_natCast]
      omega⟩
    simp only [pMul]
    rw [if_pos c, Int.toNat_natCast, rep_non]
  have s1 : vasg 1 (v2 pMul (vN1 mkLst (vC (vc .non) vN)) (vN1 bSum (vC (vLc (viE (v2 opIx (rd [99] 0) (vc (.int 1)))) [3] (vbN 3) qYes (vN1 bLen (vC (rd [3] 3) vN))) vN))) [pt (stA b R), none, none, none, none] = some (.nx (plE b R (plU R 0) none none none)) :=
    n_asg (x_2 (x_N1 (o := mkLst) (x_C rfl x_N) rfl) (x_N1 (x_C lc x_N) (o_sum _)) hrep)
  obtain ⟨e', h2, x, y, z, hx, hy, hz, rfl⟩ := vfor_at (vi := viEnum (viE (v2 opIx (rd [99] 0) (vc (.int 1))))) (src := []) (b := vbP [2, 3]) (e0 := plE b R (plU R 0) none none none) (e := plE b R (plU R 0) none none none) (f := fun p : List Nat × Nat => A.pr (.int (p.2 : Int)) (bkA p.1)) (xs := R.zipIdx) (h := vfor (viV [3] 3) (vbN 4) (vset0 1 (rd [4] 4) (mv 2)))
    (fun i e => ∃ x y z, Co x ∧ Co y ∧ Co z ∧ e = plE b R (plU R i) x y z)
    (Eq.trans (x_viEnum (x_viE (x_2 (rd_pt rfl) rfl (st_1 b R)) rfl (dry_bs R))) (by rw [enum_bk])) ⟨none, none, none, Co_x, Co_x, Co_x, rfl⟩ (by
    rintro i ⟨B, at'⟩ e hx ⟨x, y, z, hx', hy', hz', rfl⟩
    have hB : B ∈ R := by
      have := List.mem_zipIdx_iff_getElem?.mp (List.mem_of_getElem? hx)
      exact List.mem_of_getElem? this
    obtain ⟨e2, h3, z2, hz2, rfl⟩ := vfor_at (vi := viV [3] 3) (src := []) (b := vbN 4) (e0 := plE b R (plU R i) (ow (.int (at' : Int))) (ow (bkA B)) z) (e := plE b R (plU R i) (ow (.int (at' : Int))) (ow (bkA B)) z) (f := fun r : Nat => A.int (r : Int)) (xs := B) (h := vset0 1 (rd [4] 4) (mv 2))
      (fun j e => ∃ z, Co z ∧ e = plE b R ((B.take j).foldl (fun F r => F.set r (some at')) (plU R i)) (ow (.int (at' : Int))) (ow (bkA B)) z)
      (n_viV rfl rfl (dry_nL B)) ⟨z, hz', rfl⟩ (by
      rintro j r e hj ⟨z, hz', rfl⟩
      have hrB := List.mem_of_getElem? hj
      have hrn := hr B hB r hrB
      refine ⟨_, _, n_bN rfl, .inl (n_set0 (j := r) (x_mvd rfl rfl) rfl (n_rd rfl) (by rw [List.length_map, setAll_len, plU_len]; exact ixN_nat' hrn)), ow (.int (r : Int)), Co_o, ?_⟩
      rw [setAll_succ at' B j r hj, oA_set]
      rfl)
    rw [List.take_length] at h3
    have hd : (A.dry (.int (at' : Int)) && (bkA B).dry) = true := by rw [dry_bk]; rfl
    refine ⟨_, _, n_bPp hd rfl, .inl h3, ow (.int (at' : Int)), ow (bkA B), z2, Co_o, Co_o, hz2, ?_⟩
    unfold plU
    rw [List.take_succ, hx, List.foldl_append]
    rfl)
  have hz : plU R R.zipIdx.length = placesN R := by
    unfold plU
    rw [List.take_length]
    rfl
  rw [hz] at h2
  refine vdefF (e := plE b R (placesN R) x y z) rfl ?_
  show h_law_places [pt (stA b R), none, none, none, none] = _
  have hf : (placesN R).map oA = nL (plN R) := by
    unfold plN nL
    rw [List.map_map]
    refine List.map_congr_left fun o ho => ?_
    have := (List.all_eq_true.mp hg.1) o ho
    cases o with
    | none => cases this
    | some v => rfl
  refine vseq_nx s1 (vseq_nx h2 (x_ret (x_fl (x_N1 (x_C (n_rd rfl) x_N) (o_tup _)) (dry_oA _)))) |>.trans ?_
  rw [hf]

end Lw
namespace Lw
open PySem PySem.Spec PyProof.Rows L2 Gd Ev Vs Vl M24
theorem tabs {b rows columns : Nat} (b0 : 0 < b) (b5 : b ≤ 5) (r0 : 0 < rows) (r6 : rows ≤ 6) (c0 : 0 < columns) (c6 : columns ≤ 6) : chunksN b (rows * columns + 1) (List.range (rows * columns)) = sliceN b (rows * columns) ∧ (List.range (rows * columns)).map (fun x => idxN x (colN rows columns) / b) = twN b rows columns ∧ ∀ x, x < rows * columns → x ∈ colN rows columns := by
  have h1 := (List.all_eq_true.mp chk2) (b - 1) (List.mem_range.mpr (by omega))
  have h2 := (List.all_eq_true.mp h1) (rows - 1) (List.mem_range.mpr (by omega))
  have h3 := (List.all_eq_true.mp h2) (columns - 1) (List.mem_range.mpr (by omega))
  rw [show b - 1 + 1 = b by omega, show rows - 1 + 1 = rows by omega, show columns - 1 + 1 = columns by omega] at h3
  unfold okTab at h3
  simp only [Bool.and_eq_true, decide_eq_true_eq] at h3
  refine ⟨h3.1.1, h3.1.2, fun x hx => ?_⟩
  have := (List.all_eq_true.mp h3.2) x (List.mem_range.mpr hx)
  exact List.contains_iff_mem.mp this
abbrev tE (D : A) (b r c : Nat) (m : Nat) (left : List Nat) (bs : List (List Nat)) (t u : Option Ent) : PEnv := [ow D, ow (.int (b : Int)), ow (.int (r : Int)), ow (.int (c : Int)), ow (.int (m : Int)), ow (.tmp (nL left)), ow (.tmp (bs.map bkA)), t, u, none]
theorem chunk_loop {D : A} {b r c m : Nat} (b0 : 0 < b) : ∀ (f : Nat) (left : List Nat) (bs : List (List Nat)), left.length ≤ f → bs.length + f ≤ 1000 → whileV (qB (v2 pNe (rd [5] 5) (vN1 mkLst vN))) (vseq (vexp (vM0 6 aApp (vC (vN1 bTup (vC (vSl (rd [5] 5) voN (voS (rd [1] 1))) vN)) vN)))
    (vasg 5 (vSl (rd [5] 5) (voS (rd [1] 1)) voN))) (f + 1) (tE D b r c m left bs none none) = some (.nx (tE D b r c m [] (bs ++ chunksN b (f + 1) left) none none))
  | f, left, bs, hl, hb => by
    have cnd : qB (v2 pNe (rd [5] 5) (vN1 mkLst vN)) (tE D b r c m left bs none none) = some (!decide (left = []), tE D b r c m left bs none none) := x_qB (x_2 (n_rd rfl) (x_N1 (o := mkLst) x_N rfl) (pNeLL left []))
    rw [chunksN]
    by_cases h : left = []
    · rw [decide_eq_true h] at cnd
      rw [if_pos h, List.append_nil]
      subst h
      exact whileV_F cnd
    · rw [decide_eq_false h] at cnd
      rw [if_neg h]
      have l0 := List.length_pos_iff.mpr h
      cases f with
      | zero => omega
      | succ f =>
        have ih := chunk_loop (D := D) (b := b) (r := r) (c := c) (m := m) b0 f (left.drop b) (bs ++ [left.take b]) (by rw [List.length_drop]; omega) (by rw [List.length_append]; simp only [List.length_cons, List.length_nil]; omega)
        refine whileV_T (e2 := tE D b r c m (left.drop b) (bs ++ [left.take b]) none none) cnd ?_ (ih.trans ?_)
        · have a1 : vexp (vM0 6 aApp (vC (vN1 bTup (vC (vSl (rd [5] 5) voN (voS (rd [1] 1))) vN)) vN)) (tE D b r c m left bs none none) = some (.nx (tE D b r c m left (bs ++ [left.take b]) none none)) := by
            refine Eq.trans (x_exp (n_M0 (act := aApp) rfl (x_C (x_N1 (x_C (x_Sl (n_rd rfl) x_oN (x_oS (n_rd rfl)) (cut_take left b)) x_N) (o_tup _)) x_N) rfl (aApp_any (by rw [List.length_map]; omega)))) ?_
            show some (PF.nx (tE D b r c m left bs none none |>.set 6 (ow (.tmp (bs.map bkA ++ [bkA (left.take b)]))))) = _
            rw [show bs.map bkA ++ [bkA (left.take b)] = (bs ++ [left.take b]).map bkA by rw [List.map_append]; rfl]
            rfl
          refine vseq_nx a1 (Eq.trans (n_asg (x_Sl (n_rd rfl) (x_oS (n_rd rfl)) x_oN (cut_dropL left b))) rfl)
        · rw [List.append_assoc]
          rfl
theorem table_ok {cs : List Int} {z : Int} (S : Src cs z) : ∃ (cs' : List Int) (z' : Int), Src cs' z' ∧ v_law_table [dl cs z] = some (.bl true, dl cs' z') := by
  obtain ⟨b, cs1, z1, S1, hb, h1⟩ := any_nat S (n := 5) (by decide) (by decide)
  obtain ⟨r, cs2, z2, S2, hr, h2⟩ := any_nat S1 (n := 6) (by decide) (by decide)
  obtain ⟨c, cs3, z3, S3, hc, h3⟩ := any_nat S2 (n := 6) (by decide) (by decide)
  obtain ⟨t1, t2, t3⟩ := tabs (b := 1 + b) (rows := 1 + r) (columns := 1 + c) (by omega) (by omega) (by omega) (by omega) (by omega) (by omega)
  have hmul : (1 + r) * (1 + c) ≤ 6 * 6 := Nat.mul_le_mul (by omega) (by omega)
  generalize hb' : 1 + b = B at *
  generalize hr' : 1 + r = Rw at *
  generalize hc' : 1 + c = Cl' at *
  refine ⟨cs3, z3, S3, ?_⟩
  have s1 : vasgT [1, 2, 3] (vN1 mkTup (vC (v2 opAdd (vc (.int 1)) (vcallD 0 v_law_any (vC (vc (.int 5)) vN))) (vC (v2 opAdd (vc (.int 1)) (vcallD 0 v_law_any (vC (vc (.int 6)) vN))) (vC (v2 opAdd (vc (.int 1)) (vcallD 0 v_law_any (vC (vc (.int 6)) vN))) vN)))) [ow (dl cs z), none, none, none, none, none, none, none, none, none] = some (.nx [ow (dl cs3 z3), ow (.int (B : Int)), ow (.int (Rw : Int)), ow (.int (Cl' : Int)), none, none, none, none, none, none]) := by
    subst hb' hr' hc'
    have d1 : vcallD 0 v_law_any (vC (vc (.int 5)) vN) [ow (dl cs z), none, none, none, none, none, none, none, none, none] = some (.int (b : Int), [ow (dl cs1 z1), none, none, none, none, none, none, none, none, none]) := n_callD (e1 := [ow (dl cs z), none, none, none, none, none, none, none, none, none]) rfl (x_C rfl x_N) rfl h1
    have d2 : vcallD 0 v_law_any (vC (vc (.int 6)) vN) [ow (dl cs1 z1), none, none, none, none, none, none, none, none, none] = some (.int (r : Int), [ow (dl cs2 z2), none, none, none, none, none, none, none, none, none]) := n_callD (e1 := [ow (dl cs1 z1), none, none, none, none, none, none, none, none, none]) rfl (x_C rfl x_N) rfl h2
    have d3 : vcallD 0 v_law_any (vC (vc (.int 6)) vN) [ow (dl cs2 z2), none, none, none, none, none, none, none, none, none] = some (.int (c : Int), [ow (dl cs3 z3), none, none, none, none, none, none, none, none, none]) := n_callD (e1 := [ow (dl cs2 z2), none, none, none, none, none, none, none, none, none]) rfl (x_C rfl x_N) rfl h3
    exact Eq.trans (n_asgT (x_N1 (o := mkTup) (x_C (x_2 rfl d1 (o_add (a := 1))) (x_C (x_2 rfl d2 (o_add (a := 1))) (x_C (x_2 rfl d3 (o_add (a := 1))) x_N))) rfl) rfl) rfl
  have s2 : vpar [4, 5, 6] (vC (fn (v2 pMul (rd [2] 2) (rd [3] 3))) (vC (vLRg1 (v2 pMul (rd [2] 2) (rd [3] 3))) (vC (vN1 mkLst vN) vN))) [ow (dl cs3 z3), ow (.int (B : Int)), ow (.int (Rw : Int)), ow (.int (Cl' : Int)), none, none, none, none, none, none] = some (.nx (tE (dl cs3 z3) B Rw Cl' (Rw * Cl') (List.range (Rw * Cl')) [] none none)) := by
    have hg : vLRg1 (v2 pMul (rd [2] 2) (rd [3] 3)) [ow (dl cs3 z3), ow (.int (B : Int)), ow (.int (Rw : Int)), ow (.int (Cl' : Int)), none, none, none, none, none, none] = some (.tmp (nL (List.range (Rw * Cl'))), [ow (dl cs3 z3), ow (.int (B : Int)), ow (.int (Rw : Int)), ow (.int (Cl' : Int)), none, none, none, none, none, none]) := by
      rw [x_LRg1 (x_2 (n_rd rfl) (n_rd rfl) (o_mul (by omega) (by omega))) (rgOk_nat (i := 0) (by omega) (by omega)), rgA_nL]
    exact Eq.trans (n_par (x_C (x_fn (x_2 (n_rd rfl) (n_rd rfl) (o_mul (by omega) (by omega))) rfl) (x_C hg (x_C (x_N1 (o := mkLst) x_N rfl) x_N))) rfl) rfl
  have s3 := vwhile_of (chunk_loop (D := dl cs3 z3) (b := B) (r := Rw) (c := Cl') (m := Rw * Cl') (by omega) (Rw * Cl') (List.range (Rw * Cl')) [] (by rw [List.length_range]; exact Nat.le_refl _) (by simp only [List.length_nil]; omega))
  rw [List.nil_append, t1] at s3
  have hsl : ∀ C ∈ sliceN B (Rw * Cl'), C.length ≤ 40 ∧ ∀ v ∈ C, v ≤ 999999999999 := fun C hC => by
    obtain ⟨i, _, rfl⟩ := List.mem_map.mp hC
    refine ⟨by rw [List.length_take, List.length_drop, List.length_range]; omega, fun v hv => ?_⟩
    have := List.mem_range.mp (List.mem_of_mem_drop (List.mem_of_mem_take hv))
    omega
  have hsl2 : (sliceN B (Rw * Cl')).length ≤ 41 := by
    unfold sliceN
    rw [List.length_map, List.length_range]
    have := Nat.div_le_self (Rw * Cl' + B - 1) B
    omega
  have rst := repr_st (b := B) (R := sliceN B (Rw * Cl')) (m := 40) (by omega) (by omega) hsl
  have s4 : vif (qB (v2 pNe (vN1 pRepr (vC (vcallK v_table_standing (vC (rd [3] 3) (vC (rd [2] 2) (vC (rd [1] 1) vN)))) vN)) (vN1 pRepr (vC (vN1 mkTup (vC (mv 1) (vC (fl (vN1 bTup (vC (rd [6] 6) vN))) vN))) vN)))) (vret (vc (.bl false))) vnil (tE (dl cs3 z3) B Rw Cl' (Rw * Cl') [] (sliceN B (Rw * Cl')) none none) = some (.nx (tE (dl cs3 z3) B Rw Cl' (Rw * Cl') [] (sliceN B (Rw * Cl')) none none)) :=
    x_ifF (x_qB (x_2 (o := pNe) (x_N1 (x_C (x_callK (x_C (n_rd rfl) (x_C (n_rd rfl) (x_C (n_rd rfl) x_N))) (tst_ok (by omega) (by omega) (by omega) (by omega))) x_N) rst) (x_N1 (x_C (x_N1 (o := mkTup) (r := stA B (sliceN B (Rw * Cl'))) (x_C (x_mvd rfl rfl) (x_C (x_fl (x_N1 (x_C (n_rd rfl) x_N) (o_tup _)) (dry_bs _)) x_N)) rfl) x_N) rst) (pNe_same _))) rfl
  have s5 : vasgT [7, 8] (vN1 mkTup (vC (vcallK v_turned_wish (vC (rd [3] 3) (vC (rd [2] 2) (vC (rd [1] 1) vN)))) (vC (vcall v_law_column (vC (rd [2] 2) (vC (rd [3] 3) vN))) vN))) (tE (dl cs3 z3) B Rw Cl' (Rw * Cl') [] (sliceN B (Rw * Cl')) none none) = some (.nx (tE (dl cs3 z3) B Rw Cl' (Rw * Cl') [] (sliceN B (Rw * Cl')) (ow (.tup (nL (twN B Rw Cl')))) (ow (.tmp (nL (colN Rw Cl')))))) :=
    Eq.trans (n_asgT (x_N1 (o := mkTup) (x_C (x_callK (x_C (n_rd rfl) (x_C (n_rd rfl) (x_C (n_rd rfl) x_N))) (twish_ok (by omega) (by omega) (by omega) (by omega))) (x_C (x_call (x_C (n_rd rfl) (x_C (n_rd rfl) x_N)) (col_ok (by omega) (by omega))) x_N)) rfl) rfl) rfl
  have hB0 : 0 < B := by omega
  have lc := vLc_map (vi := viRg1 (rd [4] 4)) (js := [9]) (src := []) (b := vbN 9) (g := v2 opDiv (vMr pIndex (rd [8] 8) (vC (rd [9] 9) vN)) (rd [1] 1)) (e := tE (dl cs3 z3) B Rw Cl' (Rw * Cl') [] (sliceN B (Rw * Cl')) (ow (.tup (nL (twN B Rw Cl')))) (ow (.tmp (nL (colN Rw Cl'))))) (e0 := tE (dl cs3 z3) B Rw Cl' (Rw * Cl') [] (sliceN B (Rw * Cl')) (ow (.tup (nL (twN B Rw Cl')))) (ow (.tmp (nL (colN Rw Cl'))))) (f := fun r : Nat => A.int (r : Int)) (fun x : Nat => A.int ((idxN x (colN Rw Cl') / B : Nat) : Int)) (fun x : Nat => (tE (dl cs3 z3) B Rw Cl' (Rw * Cl') [] (sliceN B (Rw * Cl')) (ow (.tup (nL (twN B Rw Cl')))) (ow (.tmp (nL (colN Rw Cl'))))).set 9 (ow (.int (x : Int)))) (xs := List.range (Rw * Cl'))
    (by rw [x_viRg1 (n_rd rfl) (rg_in (by omega)), rg_map]) rfl (fun x hx => ⟨n_bN rfl, x_2 (x_Mr (n_rd rfl) (x_C (n_rd rfl) x_N) (o_index (t3 x (List.mem_range.mp hx)))) (n_rd rfl) (o_div hB0 (by omega)), rfl⟩) (by rw [List.length_range]; omega)
  rw [nL_map, t2] at lc
  have rtw : pRepr [.tup (nL (twN B Rw Cl'))] [] = .ok (.str (dN (twN B Rw Cl')).shown) [] := by
    have hin : ∀ v ∈ twN B Rw Cl', v ≤ 1000 := fun v hv => by
      obtain ⟨r, hr, hv⟩ := List.mem_flatMap.mp hv
      obtain ⟨c, hc, rfl⟩ := List.mem_map.mp hv
      have h1 := List.mem_range.mp hr
      have h2 := List.mem_range.mp hc
      have h3 : c * Rw ≤ 6 * 6 := Nat.mul_le_mul (by omega) (by omega)
      have := Nat.div_le_self (c * Rw + r) B
      omega
    refine reprN (fun v hv => by have := hin v hv; omega) ?_
    rw [← t2, List.length_map, List.length_range]
    omega
  refine vdefT (e := tE (dl cs3 z3) B Rw Cl' (Rw * Cl') [] (sliceN B (Rw * Cl')) (ow (.tup (nL (twN B Rw Cl')))) (ow (.tmp (nL (colN Rw Cl'))))) rfl ?_ rfl
  show h_law_table [ow (dl cs z), none, none, none, none, none, none, none, none, none] = _
  refine vseq_nx s1 (vseq_nx s2 (vseq_nx s3 (vseq_nx s4 (vseq_nx s5 (x_ret (x_2 (o := pEq) (x_N1 (x_C (x_rd rfl (dry_or (dry_nL _))) x_N) rtw) (x_N1 (x_C (x_N1 (x_C lc x_N) (o_tup _)) x_N) rtw) ?_))))))
  rw [pEq_str, decide_eq_true rfl]

end Lw
namespace Lw
open PySem PySem.Spec PyProof.Rows L2 Gd Ev Vs Vl M24
theorem case_of {m h : Nat} (hd : (m, h) ∈ dom) {order : List Nat} (hp : order.Perm (List.range h)) {k : Nat} (hk : k ≤ h) : okLaid m h order k = true ∧ okSpread m h order k = true := by
  have h1 := (List.all_eq_true.mp chk1) (m, h) hd
  have hl : order.length = h := by rw [hp.length_eq, List.length_range]
  have hm : order ∈ allL h h := by
    have := mem_allL (b := h) (w := order) fun x hx => List.mem_range.mp (hp.mem_iff.mp hx)
    rw [hl] at this
    exact this
  have h2 := (List.all_eq_true.mp h1) order hm
  have h3 : isPerm h order = true := List.all_eq_true.mpr fun x hx => List.contains_iff_mem.mpr (hp.mem_iff.mpr hx)
  simp only [h3, Bool.not_true, Bool.false_or] at h2
  have h4 := (List.all_eq_true.mp h2) k (List.mem_range.mpr (by omega))
  rw [Bool.and_eq_true] at h4
  exact h4
theorem dom_b {m h : Nat} (hd : (m, h) ∈ dom) : 2 ≤ m ∧ m ≤ 3 ∧ 1 ≤ h ∧ h ≤ 4 := by
  have : (dom.all fun p => decide (2 ≤ p.1) && decide (p.1 ≤ 3) && decide (1 ≤ p.2) && decide (p.2 ≤ 4)) = true := by decide
  have := (List.all_eq_true.mp this) (m, h) hd
  simp only [Bool.and_eq_true, decide_eq_true_eq] at this
  exact ⟨this.1.1.1, this.1.1.2, this.1.2, this.2⟩
section
variable {m h k : Nat} {order : List Nat}
theorem ord_lt (hp : order.Perm (List.range h)) : order.length = h ∧ ∀ p ∈ order, p < order.length := by
  have hl : order.length = h := by rw [hp.length_eq, List.length_range]
  exact ⟨hl, fun p hp' => by rw [hl]; exact List.mem_range.mp (hp.mem_iff.mp hp')⟩
theorem laid1 (hd : (m, h) ∈ dom) (hp : order.Perm (List.range h)) (hk : k ≤ h) : v_laid_by [.int (m : Int), .int (k : Int), .tup (nL order)] = some (stA (m ^ k) (laidN m k order), .non) := by
  obtain ⟨a, b, c, d⟩ := dom_b hd
  obtain ⟨hl, ho⟩ := ord_lt hp
  exact laid_ok (by omega) b (by omega) (fun p hp' => by have := ho p hp'; omega) (by omega)
theorem laid2 (hd : (m, h) ∈ dom) (hp : order.Perm (List.range h)) (hk : k ≤ h) : v_law_laid [.int (m : Int), .int (k : Int), .tup (nL order)] = some (stA (m ^ k) (laidN m k order), .non) := by
  obtain ⟨a, b, c, d⟩ := dom_b hd
  obtain ⟨hl, ho⟩ := ord_lt hp
  exact llaid_ok (by omega) b (by omega) ho (by omega) (by rw [hl]; exact (case_of hd hp hk).1)
theorem laid_b (hd : (m, h) ∈ dom) (hp : order.Perm (List.range h)) (hk : k ≤ h) : (laidN m k order).length ≤ 81 ∧ ∀ B ∈ laidN m k order, B.length ≤ 81 ∧ ∀ v ∈ B, v < 81 := by
  obtain ⟨a, b, c, d⟩ := dom_b hd
  obtain ⟨hl, ho⟩ := ord_lt hp
  have h1 := pow_small b (show order.length - k ≤ 4 by omega)
  have h2 := pow_small b (show order.length ≤ 4 by omega)
  refine ⟨?_, fun B hB => ?_⟩
  · show (rowsU _ _ _).length ≤ 81
    rw [rowsU_len]
    exact h1
  · have := rowsU_mem (m ^ (order.length - k)) (fun x => readN x m (order.drop k)) (m ^ order.length) B hB
    exact ⟨by omega, fun v hv => by have := this.2 v hv; omega⟩
theorem laid_repr (hd : (m, h) ∈ dom) (hp : order.Perm (List.range h)) (hk : k ≤ h) : pRepr [stA (m ^ k) (laidN m k order)] [] = .ok (.str (dSD (m ^ k) (laidN m k order)).shown) [] := by
  obtain ⟨a, b, c, d⟩ := dom_b hd
  have h1 := pow_small b (show k ≤ 4 by omega)
  have h2 := laid_b hd hp hk
  exact repr_st (m := 81) (by omega) (by have := h2.1; omega) fun B hB => ⟨(h2.2 B hB).1, fun v hv => by have := (h2.2 B hB).2 v hv; omega⟩
theorem sum_le' {c : Nat} : ∀ {R : List (List Nat)}, (∀ B ∈ R, B.length ≤ c) → (R.map List.length).sum ≤ c * R.length
  | [], _ => Nat.zero_le _
  | B :: R, hb => by
    rw [List.map_cons, List.sum_cons, List.length_cons, Nat.mul_succ]
    have h1 := hb B List.mem_cons_self
    have h2 := sum_le' (c := c) (R := R) fun C hC => hb C (List.mem_cons_of_mem _ hC)
    omega
abbrev spE (m k : Nat) (order : List Nat) (R1 : List (List Nat)) (b1 : Nat) (G : List Nat) (d : Nat) (x y : Option Ent) : PEnv := [pt (.int (m : Int)), pt (.int (k : Int)), pt (.tup (nL order)), ow (stA b1 R1), ow (.tup (nL G)), ow (.int (d : Int)), x, y, none, none, none]
theorem rowsU_cnt (M : Nat) (f : Nat → Nat) : ∀ i, ((rowsU M f i).map List.length).sum ≤ i
  | 0 => by
    show ((List.replicate M ([] : List Nat)).map List.length).sum ≤ 0
    rw [List.map_replicate, List.sum_replicate_nat]
    exact Nat.le_of_eq (Nat.mul_zero _)
  | i + 1 => by
    rw [rowsU_succ]
    unfold appN
    have ih := rowsU_cnt M f i
    by_cases hlt : f i < (rowsU M f i).length
    · have : ∀ (R : List (List Nat)) (j : Nat) (B : List Nat), j < R.length → ((R.set j B).map List.length).sum + (R.getD j []).length = (R.map List.length).sum + B.length := by
        intro R
        induction R with
        | nil => intro j B hj; cases hj
        | cons C R ihR =>
          intro j B hj
          cases j with
          | zero => simp only [List.set_cons_zero, List.map_cons, List.sum_cons, List.getD_cons_zero]; omega
          | succ j =>
            have := ihR j B (by simpa using hj)
            simp only [List.set_cons_succ, List.map_cons, List.sum_cons, List.getD_cons_succ]
            omega
      have := this (rowsU M f i) (f i) ((rowsU M f i).getD (f i) [] ++ [i]) hlt
      rw [List.length_append] at this
      simp only [List.length_cons, List.length_nil] at this
      omega
    · rw [List.set_eq_of_length_le (by omega)]
      omega
theorem spread_ok (hd : (m, h) ∈ dom) (hp : order.Perm (List.range h)) (hk : k ≤ h) : v_law_spread [.int (m : Int), .int (k : Int), .tup (nL order)] = some (.bl true, .non) := by
  obtain ⟨a, b, c, d4⟩ := dom_b hd
  obtain ⟨hl, ho⟩ := ord_lt hp
  have hs := (case_of hd hp hk).2
  unfold okSpread at hs
  simp only [Bool.and_eq_true, decide_eq_true_eq] at hs
  obtain ⟨⟨⟨hg, hf⟩, hdk⟩, hall⟩ := hs
  have hlb := laid_b hd hp hk
  have hp0 : (List.range h).Perm (List.range h) := List.Perm.refl _
  have hlb0 := laid_b (k := k) hd hp0 hk
  have hsum : ((laidN m k order).map List.length).sum ≤ 1000 := by
    have h1 := rowsU_cnt (m ^ (order.length - k)) (fun x => readN x m (order.drop k)) (m ^ order.length)
    have h2 := pow_small b (show order.length ≤ 4 by omega)
    exact Nat.le_trans h1 (by omega)
  generalize hG : plN (laidN m k order) = G at hall
  have hplaces := places_ok (b := m ^ k) (by have := hlb.1; omega) hsum hg
  rw [hG] at hplaces
  generalize hD : forN k order = D at *
  have hfor := foreign_ok (k := k) (order := order) (by omega) (by omega)
  rw [hD] at hfor
  have hrng : vTRg1 (vN1 bLen (vC (rd [99] 2) vN)) [pt (.int (m : Int)), pt (.int (k : Int)), pt (.tup (nL order)), none, none, none, none, none, none, none, none] = some (.tup (nL (List.range h)), [pt (.int (m : Int)), pt (.int (k : Int)), pt (.tup (nL order)), none, none, none, none, none, none, none, none]) := by
    rw [x_TRg1 (x_N1 (x_C (rd_pt rfl) x_N) (o_lent order)) (rgOk_nat (i := 0) (by omega) (by omega)), rgA_nL, hl]
  have s1 : vasgT [3, 4] (vN1 mkTup (vC (vcall v_law_laid (vC (rd [99] 0) (vC (rd [99] 1) (vC (vTRg1 (vN1 bLen (vC (rd [99] 2) vN))) vN)))) (vC (vcall v_law_places (vC (vcall v_law_laid (vC (rd [99] 0) (vC (rd [99] 1) (vC (rd [99] 2) vN)))) vN)) vN))) [pt (.int (m : Int)), pt (.int (k : Int)), pt (.tup (nL order)), none, none, none, none, none, none, none, none] = some (.nx [pt (.int (m : Int)), pt (.int (k : Int)), pt (.tup (nL order)), ow (stA (m ^ k) (laidN m k (List.range h))), ow (.tup (nL G)), none, none, none, none, none, none]) :=
    Eq.trans (n_asgT (x_N1 (o := mkTup) (x_C (x_call (x_C (rd_pt rfl) (x_C (rd_pt rfl) (x_C hrng x_N))) (laid2 hd hp0 hk)) (x_C (x_call (x_C (x_call (x_C (rd_pt rfl) (x_C (rd_pt rfl) (x_C (rd_pt rfl) x_N))) (laid2 hd hp hk)) x_N) hplaces) x_N)) rfl) rfl) rfl
  have s2 : vasg 5 (vcallK v_foreign_digits (vC (rd [99] 2) (vC (rd [99] 1) vN))) [pt (.int (m : Int)), pt (.int (k : Int)), pt (.tup (nL order)), ow (stA (m ^ k) (laidN m k (List.range h))), ow (.tup (nL G)), none, none, none, none, none, none] = some (.nx (spE m k order (laidN m k (List.range h)) (m ^ k) G D none none)) :=
    Eq.trans (n_asg (x_callK (x_C (rd_pt rfl) (x_C (rd_pt rfl) x_N)) hfor)) rfl
  have lc := vLc_quiet (b := vbN 9) (vi := viRg2 (rd [99] 1) (vN1 bLen (vC (rd [99] 2) vN))) (js := [9]) (src := []) (u := qB (v2 opLt (v2 opIx (rd [99] 2) (rd [9] 9)) (rd [99] 1))) (g := rd [] 9) (e := spE m k order (laidN m k (List.range h)) (m ^ k) G D none none) (e0 := spE m k order (laidN m k (List.range h)) (m ^ k) G D none none) (f := fun p : Nat => A.int (p : Int)) (fun t : Nat => decide (order.getD t 0 < k)) (fun p : Nat => A.int (p : Int)) (fun p : Nat => (spE m k order (laidN m k (List.range h)) (m ^ k) G D none none).set 9 (ow (.int (p : Int)))) (xs := List.range' k (h - k))
    (by
      have hr := rg2_nL k (h - k)
      rw [show k + (h - k) = h by omega] at hr
      rw [x_viRg2 (rd_pt rfl) (x_N1 (x_C (rd_pt rfl) x_N) (o_lent order)) ⟨⟨by omega, by omega⟩, by omega, by omega⟩, hl, hr]) rfl (fun p hp' => ⟨n_bN rfl, x_qB (x_2 (x_2 (rd_pt rfl) (n_rd rfl) (o_ixt (by have := List.mem_range'_1.mp hp'; omega))) (rd_pt rfl) o_ltN), fun _ => x_rd rfl rfl, rfl⟩) (by rw [List.length_range']; omega)
  have hDs : D ≤ 4 := by omega
  have s3 : vif (qB (v2 pNe (vN1 pRepr (vC (rd [5] 5) vN)) (vN1 pRepr (vC (vN1 bLen (vC (vLc (viRg2 (rd [99] 1) (vN1 bLen (vC (rd [99] 2) vN))) [9] (vbN 9) (qB (v2 opLt (v2 opIx (rd [99] 2) (rd [9] 9)) (rd [99] 1))) (rd [] 9)) vN)) vN)))) (vret (vc (.bl false))) vnil (spE m k order (laidN m k (List.range h)) (m ^ k) G D none none) = some (.nx (spE m k order (laidN m k (List.range h)) (m ^ k) G D none none)) := by
    refine x_ifF (x_qB (x_2 (o := pNe) (x_N1 (x_C (n_rd rfl) x_N) (reprI (n := D) (by omega))) (x_N1 (x_C (x_N1 (x_C lc x_N) (o_lenm _)) x_N) ?_) (pNe_same _))) rfl
    rw [hf]
    exact reprI (by omega)
  have hpk := pow_small b (show k ≤ 4 by omega)
  obtain ⟨e', s4, x, y, hx, hy, rfl⟩ := vfor_at (vi := viE (v2 opIx (rd [3] 3) (vc (.int 1)))) (src := []) (b := vbN 6) (e0 := spE m k order (laidN m k (List.range h)) (m ^ k) G D none none) (e := spE m k order (laidN m k (List.range h)) (m ^ k) G D none none) (f := bkA) (xs := laidN m k (List.range h)) (h := (vseq (vasg 7 (vLc (viV [6] 6) [8] (vbN 8) qYes (fl (v2 opIx (rd [4] 4) (rd [8] 8)))))
    (vif (qB (v2 pNe (vN1 bSrt (vC (vLc (viE (vSrtSet (rd [7] 7))) [10] (vbN 10) qYes (vMr pCount (rd [7] 7) (vC (rd [10] 10) vN))) vN)) (v2 pMul (vN1 mkLst (vC (vcall v_law_power (vC (rd [99] 0) (vC (v2 opSub (rd [99] 1) (rd [5] 5)) vN))) vN)) (vcall v_law_power (vC (rd [99] 0) (vC (rd [5] 5) vN)))))) (vret (vc (.bl false))) vnil)))
    (fun i e => ∃ x y, Co x ∧ Co y ∧ e = spE m k order (laidN m k (List.range h)) (m ^ k) G D x y)
    (x_viE (x_2 (x_rd rfl (dry_or (dry_st _ _))) rfl (st_1 _ _)) rfl (dry_bs _)) ⟨none, none, Co_x, Co_x, rfl⟩ (by
    rintro i B e hB ⟨x, y, hx, hy, rfl⟩
    have hBm := List.mem_of_getElem? hB
    have hok := (List.all_eq_true.mp hall) B hBm
    simp only [Bool.and_eq_true, decide_eq_true_eq] at hok
    obtain ⟨⟨hr, hcnt⟩, hlen⟩ := hok
    have hr2 : ∀ r ∈ B, r < G.length := fun r hr' => of_decide_eq_true ((List.all_eq_true.mp hr) r hr')
    have l1 := vLc_map (vi := viV [6] 6) (js := [8]) (src := []) (b := vbN 8) (g := fl (v2 opIx (rd [4] 4) (rd [8] 8))) (e := spE m k order (laidN m k (List.range h)) (m ^ k) G D (ow (bkA B)) y) (e0 := spE m k order (laidN m k (List.range h)) (m ^ k) G D (ow (bkA B)) y) (f := fun r : Nat => A.int (r : Int)) (fun r : Nat => A.int ((G.getD r 0 : Nat) : Int)) (fun r : Nat => (spE m k order (laidN m k (List.range h)) (m ^ k) G D (ow (bkA B)) y).set 8 (ow (.int (r : Int)))) (xs := B)
      (n_viV rfl rfl (dry_nL B)) rfl (fun r hr' => ⟨n_bN rfl, x_fl (x_2 (x_rd rfl (dry_or (dry_nL _))) (n_rd rfl) (o_ixt (hr2 r hr'))) rfl, rfl⟩) (by omega)
    rw [nL_map] at l1
    generalize hW : B.map (fun r => G.getD r 0) = W at l1 hcnt
    have hWl : W.length < 64 := by rw [← hW, List.length_map]; exact hlen
    have l2 := vLc_map (vi := viE (vSrtSet (rd [7] 7))) (js := [10]) (src := []) (b := vbN 10) (g := vMr pCount (rd [7] 7) (vC (rd [10] 10) vN)) (e := spE m k order (laidN m k (List.range h)) (m ^ k) G D (ow (bkA B)) (ow (.tmp (nL W)))) (e0 := spE m k order (laidN m k (List.range h)) (m ^ k) G D (ow (bkA B)) (ow (.tmp (nL W)))) (f := fun r : Nat => A.int (r : Int)) (fun a : Nat => A.int ((W.count a : Nat) : Int)) (fun r : Nat => (spE m k order (laidN m k (List.range h)) (m ^ k) G D (ow (bkA B)) (ow (.tmp (nL W)))).set 10 (ow (.int (r : Int)))) (xs := isrt (ddN W))
      (x_viE (x_srtset (n_rd rfl) hWl) rfl (dry_nL _)) rfl (fun r hr' => ⟨n_bN rfl, x_Mr (n_rd rfl) (x_C (n_rd rfl) x_N) (o_count W r), rfl⟩) (by
        rw [isrt_len]
        have h1 := (dd_spec W).1
        have : (ddN W).length ≤ W.length := by
          have key : ∀ (xs acc : List Nat), (xs.foldl (fun acc x => if acc.contains x then acc else acc ++ [x]) acc).length ≤ acc.length + xs.length := by
            intro xs
            induction xs with
            | nil => intro acc; exact Nat.le_refl _
            | cons x xs ih =>
              intro acc
              rw [List.foldl_cons]
              have h3 := ih (if acc.contains x then acc else acc ++ [x])
              have h2 : (if acc.contains x then acc else acc ++ [x]).length ≤ acc.length + 1 := by
                split
                · omega
                · rw [List.length_append]; exact Nat.le_refl _
              rw [List.length_cons]
              omega
          have := key W []
          rw [List.length_nil, Nat.zero_add] at this
          exact this
        omega)
    rw [nL_map] at l2
    have hDp := pow_small b (show D ≤ 4 by omega)
    refine ⟨_, _, n_bN (dry_bk B), .inl (vseq_nx (n_asg l1) (x_ifF (x_qB (x_2 (x_N1 (x_C l2 x_N) (o_srt _)) (x_2 (x_N1 (o := mkLst) (x_C (x_call (x_C (rd_pt rfl) (x_C (x_2 (rd_pt rfl) (n_rd rfl) (o_sub hdk)) x_N)) (pw b (by omega))) x_N) rfl) (x_call (x_C (rd_pt rfl) (x_C (n_rd rfl) x_N)) (pw b (by omega))) (o_repL (by omega))) ?_)) rfl)), ow (bkA B), ow (.tmp (nL W)), Co_o, Co_o, rfl⟩
    rw [pNeLL, decide_eq_true hcnt]
    rfl)
  refine vdefF (e := spE m k order (laidN m k (List.range h)) (m ^ k) G D x y) rfl ?_
  show h_law_spread [pt (.int (m : Int)), pt (.int (k : Int)), pt (.tup (nL order)), none, none, none, none, none, none, none, none] = _
  exact vseq_nx s1 (vseq_nx s2 (vseq_nx s3 (vseq_nx s4 rfl)))
end

end Lw
namespace Lw
open PySem PySem.Spec PyProof.Rows L2 Gd Ev Vs Vl M24
/-! the law's body -/
section
variable {x : A} {cs : List Int} {bl : Int} {m h i j k : Nat} {order : List Nat}
theorem l1 (S : Src cs bl) : ∃ (cs' : List Int) (bl' : Int) (y : Option Ent), Src cs' bl' ∧ Co y ∧ (vfor (viRg1 (vc (.int 2))) (vbN 2) (vif (qNot (qT (vcallD 1 v_law_table vN))) (vret (vc (.bl false))) vnil)) (E x (dl cs bl) [none, none, none, none, none, none, none, none]) = some (.nx (E x (dl cs' bl') [y, none, none, none, none, none, none, none])) := by
  obtain ⟨e', hh, cs', bl', y, S', hy, rfl⟩ := vfor_at (vi := viRg1 (vc (.int 2))) (src := []) (b := vbN 2) (e0 := (E x (dl cs bl) [none, none, none, none, none, none, none, none])) (e := (E x (dl cs bl) [none, none, none, none, none, none, none, none])) (f := fun i : Nat => A.int (i : Int)) (xs := List.range 2) (h := (vif (qNot (qT (vcallD 1 v_law_table vN))) (vret (vc (.bl false))) vnil)) (fun i e => ∃ cs bl y, Src cs bl ∧ Co y ∧ e = (E x (dl cs bl) [y, none, none, none, none, none, none, none])) (by rw [x_viRg1 (j := 2) rfl (rg_in (n := 2) (by decide)), show ((2 : Int)) = ((2 : Nat) : Int) from rfl, rg_map]) ⟨cs, bl, none, S, Co_x, rfl⟩ (by
    rintro i v e hx ⟨cs, bl, y, S, hy, rfl⟩
    obtain ⟨cs', bl', S', ht⟩ := table_ok S
    have hd : vcallD 1 v_law_table vN (E x (dl cs bl) [ow (.int (v : Int)), none, none, none, none, none, none, none]) = some (.bl true, (E x (dl cs' bl') [ow (.int (v : Int)), none, none, none, none, none, none, none])) := n_callD (e1 := (E x (dl cs bl) [ow (.int (v : Int)), none, none, none, none, none, none, none])) rfl x_N rfl ht
    exact ⟨_, _, n_bN rfl, .inl (x_ifF (x_qNot (b := true) (x_qT hd rfl)) rfl), cs', bl', _, S', Co_o, rfl⟩)
  exact ⟨cs', bl', y, S', hy, hh⟩
variable {y : Option Ent} [Co y]
theorem l2 (S : Src cs bl) : ∃ (m : Nat) (cs' : List Int) (bl' : Int), Src cs' bl' ∧ 2 ≤ m ∧ m ≤ 3 ∧ (vasg 3 (v2 opAdd (vc (.int 2)) (vcallD 1 v_law_any (vC (vc (.int 2)) vN)))) (E x (dl cs bl) [y, none, none, none, none, none, none, none]) = some (.nx (E x (dl cs' bl') [y, ow (.int (m : Int)), none, none, none, none, none, none])) := by
  obtain ⟨a, cs1, b1, S1, hk, h1⟩ := drawE (x := x) (cs := cs) (b := bl) (r := [y, none, none, none, none, none, none, none]) (r1 := [y, none, none, none, none, none, none, none]) (g := vc (.int 2)) (n := 2) S rfl (by decide) (by decide)
  exact ⟨2 + a, cs1, b1, S1, by omega, by omega, Eq.trans (n_asg (x_2 rfl h1 (o_add (a := 2)))) rfl⟩
theorem l3 (S : Src cs bl) (m2 : 2 ≤ m) (m3 : m ≤ 3) : ∃ (h : Nat) (cs' : List Int) (bl' : Int), Src cs' bl' ∧ (m, h) ∈ dom ∧ (vasg 4 (v2 opAdd (vc (.int 1)) (vcallD 1 v_law_any (vC (v2 opSub (vc (.int 6)) (rd [3] 3)) vN)))) (E x (dl cs bl) [y, ow (.int (m : Int)), none, none, none, none, none, none]) = some (.nx (E x (dl cs' bl') [y, ow (.int (m : Int)), ow (.int (h : Int)), none, none, none, none, none])) := by
  obtain ⟨a, cs1, b1, S1, hk, h1⟩ := drawE (x := x) (cs := cs) (b := bl) (r := [y, ow (.int (m : Int)), none, none, none, none, none, none]) (r1 := [y, ow (.int (m : Int)), none, none, none, none, none, none]) (g := v2 opSub (vc (.int 6)) (rd [3] 3)) (n := 6 - m) S (x_2 rfl (n_rd rfl) (o_sub (a := 6) (by omega))) (by omega) (by omega)
  refine ⟨1 + a, cs1, b1, S1, ?_, Eq.trans (n_asg (x_2 rfl h1 (o_add (a := 1)))) rfl⟩
  have : m = 2 ∨ m = 3 := by omega
  rcases this with rfl | rfl
  · have : a = 0 ∨ a = 1 ∨ a = 2 ∨ a = 3 := by omega
    rcases this with rfl | rfl | rfl | rfl <;> decide
  · have : a = 0 ∨ a = 1 ∨ a = 2 := by omega
    rcases this with rfl | rfl | rfl <;> decide
theorem l4 (S : Src cs bl) (hd : (m, h) ∈ dom) : ∃ (order : List Nat) (cs' : List Int) (bl' : Int), Src cs' bl' ∧ order.Perm (List.range h) ∧ (vasg 5 (vN1 bTup (vC (vcallD 1 v_law_mixed (vC (vLRg1 (rd [4] 4)) vN)) vN))) (E x (dl cs bl) [y, ow (.int (m : Int)), ow (.int (h : Int)), none, none, none, none, none]) = some (.nx (E x (dl cs' bl') [y, ow (.int (m : Int)), ow (.int (h : Int)), ow (.tup (nL order)), none, none, none, none])) := by
  obtain ⟨_, _, _, h4⟩ := dom_b hd
  have hg : vLRg1 (rd [4] 4) (E x (dl cs bl) [y, ow (.int (m : Int)), ow (.int (h : Int)), none, none, none, none, none]) = some (.tmp (nL (List.range h)), (E x (dl cs bl) [y, ow (.int (m : Int)), ow (.int (h : Int)), none, none, none, none, none])) := by
    rw [x_LRg1 (n_rd rfl) (rgOk_nat (i := 0) (by omega) (by omega)), rgA_nL]
  obtain ⟨ys, cs1, b1, S1, hp, h1⟩ := shufE (x := x) (g := vLRg1 (rd [4] 4)) S hg (by rw [List.length_range]; omega)
  exact ⟨ys, cs1, b1, S1, hp, Eq.trans (n_asg (x_N1 (x_C h1 x_N) (o_tup _))) rfl⟩
theorem l5 (hd : (m, h) ∈ dom) (hp : order.Perm (List.range h)) : ∃ z, Co z ∧ (vfor (viRg1 (v2 opAdd (rd [4] 4) (vc (.int 1)))) (vbN 6) (vif (qOr (qB (v2 pNe (vN1 pRepr (vC (vcallK v_laid_by (vC (rd [5] 5) (vC (rd [6] 6) (vC (rd [3] 3) vN)))) vN)) (vN1 pRepr (vC (vcall v_law_laid (vC (rd [3] 3) (vC (rd [6] 6) (vC (rd [5] 5) vN)))) vN)))) (qNot (qT (vcall v_law_spread (vC (rd [3] 3) (vC (rd [6] 6) (vC (rd [5] 5) vN))))))) (vret (vc (.bl false))) vnil)) (E x (dl cs bl) [y, ow (.int (m : Int)), ow (.int (h : Int)), ow (.tup (nL order)), none, none, none, none]) = some (.nx (E x (dl cs bl) [y, ow (.int (m : Int)), ow (.int (h : Int)), ow (.tup (nL order)), z, none, none, none])) := by
  obtain ⟨_, _, _, h4⟩ := dom_b hd
  obtain ⟨e', hh, z, hz, rfl⟩ := vfor_at (vi := viRg1 (v2 opAdd (rd [4] 4) (vc (.int 1)))) (src := []) (b := vbN 6) (e0 := (E x (dl cs bl) [y, ow (.int (m : Int)), ow (.int (h : Int)), ow (.tup (nL order)), none, none, none, none])) (e := (E x (dl cs bl) [y, ow (.int (m : Int)), ow (.int (h : Int)), ow (.tup (nL order)), none, none, none, none])) (f := fun i : Nat => A.int (i : Int)) (xs := List.range (h + 1)) (h := (vif (qOr (qB (v2 pNe (vN1 pRepr (vC (vcallK v_laid_by (vC (rd [5] 5) (vC (rd [6] 6) (vC (rd [3] 3) vN)))) vN)) (vN1 pRepr (vC (vcall v_law_laid (vC (rd [3] 3) (vC (rd [6] 6) (vC (rd [5] 5) vN)))) vN)))) (qNot (qT (vcall v_law_spread (vC (rd [3] 3) (vC (rd [6] 6) (vC (rd [5] 5) vN))))))) (vret (vc (.bl false))) vnil)) (fun i e => ∃ z, Co z ∧ e = (E x (dl cs bl) [y, ow (.int (m : Int)), ow (.int (h : Int)), ow (.tup (nL order)), z, none, none, none])) (by rw [x_viRg1 (x_2 (n_rd rfl) rfl (o_add (b := 1))) (rg_in (by omega)), rg_map]) ⟨none, Co_x, rfl⟩ (by
    rintro i v e hx ⟨z, hz, rfl⟩
    obtain ⟨rfl, hi⟩ := range_lt hx
    have hk : v ≤ h := by omega
    have hr := laid_repr hd hp hk
    refine ⟨_, _, n_bN rfl, .inl (x_ifF (x_qOrF (x_qB (x_2 (o := pNe) (x_N1 (x_C (x_callK (x_C (x_rd rfl (dry_or (dry_nL _))) (x_C (n_rd rfl) (x_C (n_rd rfl) x_N))) (laid1 hd hp hk)) x_N) hr) (x_N1 (x_C (x_call (x_C (n_rd rfl) (x_C (n_rd rfl) (x_C (x_rd rfl (dry_or (dry_nL _))) x_N))) (laid2 hd hp hk)) x_N) hr) (pNe_same _))) (x_qNot (b := true) (x_qT (x_call (x_C (n_rd rfl) (x_C (n_rd rfl) (x_C (x_rd rfl (dry_or (dry_nL _))) x_N))) (spread_ok hd hp hk)) rfl))) rfl), ow (.int (v : Int)), Co_o, rfl⟩)
  exact ⟨z, hz, hh⟩
variable {z : Option Ent} [Co z]
theorem l6 (S : Src cs bl) (hd : (m, h) ∈ dom) : ∃ (i : Nat) (cs' : List Int) (bl' : Int), Src cs' bl' ∧ i ≤ h ∧ (vasg 7 (vcallD 1 v_law_any (vC (v2 opAdd (rd [4] 4) (vc (.int 1))) vN))) (E x (dl cs bl) [y, ow (.int (m : Int)), ow (.int (h : Int)), ow (.tup (nL order)), z, none, none, none]) = some (.nx (E x (dl cs' bl') [y, ow (.int (m : Int)), ow (.int (h : Int)), ow (.tup (nL order)), z, ow (.int (i : Int)), none, none])) := by
  obtain ⟨_, _, _, h4⟩ := dom_b hd
  obtain ⟨a, cs1, b1, S1, hk, h1⟩ := drawE (x := x) (cs := cs) (b := bl) (r := [y, ow (.int (m : Int)), ow (.int (h : Int)), ow (.tup (nL order)), z, none, none, none]) (r1 := [y, ow (.int (m : Int)), ow (.int (h : Int)), ow (.tup (nL order)), z, none, none, none]) (g := v2 opAdd (rd [4] 4) (vc (.int 1))) (n := h + 1) S (x_2 (n_rd rfl) rfl (o_add (b := 1))) (by omega) (by omega)
  exact ⟨a, cs1, b1, S1, by omega, Eq.trans (n_asg h1) rfl⟩
theorem l7 (hi : i ≤ h) : (vasg 8 (v2 opSub (rd [4] 4) (rd [7] 7))) (E x (dl cs bl) [y, ow (.int (m : Int)), ow (.int (h : Int)), ow (.tup (nL order)), z, ow (.int (i : Int)), none, none]) = some (.nx (E x (dl cs bl) [y, ow (.int (m : Int)), ow (.int (h : Int)), ow (.tup (nL order)), z, ow (.int (i : Int)), ow (.int ((h - i : Nat) : Int)), none])) := Eq.trans (n_asg (x_2 (n_rd rfl) (n_rd rfl) (o_sub hi))) rfl
theorem turn_of (hd : (m, h) ∈ dom) (hi : i ≤ h) (hk : k ≤ h) : okTurn m h i k = true := by
  have h1 := (List.all_eq_true.mp chk3) (m, h) hd
  have h2 := (List.all_eq_true.mp h1) i (List.mem_range.mpr (by omega))
  exact (List.all_eq_true.mp h2) k (List.mem_range.mpr (by omega))
theorem l8 (hd : (m, h) ∈ dom) (hi : i ≤ h) (hj : j = h - i) : (vif (qB (v2 pNe (vN1 pRepr (vC (vcallK v_turned_order (vC (rd [8] 8) (vC (rd [7] 7) vN))) vN)) (vN1 pRepr (vC (vN1 bTup (vC (vLc (viRg1 (rd [4] 4)) [9] (vbN 9) qYes (vIf (qB (v2 opLt (rd [9] 9) (rd [7] 7))) (fn (v2 opAdd (rd [9] 9) (rd [8] 8))) (v2 opSub (rd [9] 9) (rd [7] 7)))) vN)) vN)))) (vret (vc (.bl false))) vnil) (E x (dl cs bl) [y, ow (.int (m : Int)), ow (.int (h : Int)), ow (.tup (nL order)), z, ow (.int (i : Int)), ow (.int (j : Int)), none]) = some (.nx (E x (dl cs bl) [y, ow (.int (m : Int)), ow (.int (h : Int)), ow (.tup (nL order)), z, ow (.int (i : Int)), ow (.int (j : Int)), none])) := by
  obtain ⟨_, _, _, h4⟩ := dom_b hd
  have hk := turn_of (k := 0) hd hi (Nat.zero_le _)
  unfold okTurn at hk
  simp only [Bool.and_eq_true, decide_eq_true_eq] at hk
  obtain ⟨⟨⟨⟨⟨⟨t1, t2⟩, t3⟩, t4⟩, t5⟩, t6⟩, t7⟩ := hk
  rw [← hj] at t1 t2 t3
  have hr : pRepr [.tup (nL (turnN i j))] [] = .ok (.str (dN (turnN i j)).shown) [] := reprN (fun v hv => by
    have := of_decide_eq_true ((List.all_eq_true.mp t2) v hv)
    omega) (by omega)
  have lc := vLc_map (vi := viRg1 (rd [4] 4)) (js := [9]) (src := []) (b := vbN 9) (g := vIf (qB (v2 opLt (rd [9] 9) (rd [7] 7))) (fn (v2 opAdd (rd [9] 9) (rd [8] 8))) (v2 opSub (rd [9] 9) (rd [7] 7))) (e := (E x (dl cs bl) [y, ow (.int (m : Int)), ow (.int (h : Int)), ow (.tup (nL order)), z, ow (.int (i : Int)), ow (.int (j : Int)), none])) (e0 := (E x (dl cs bl) [y, ow (.int (m : Int)), ow (.int (h : Int)), ow (.tup (nL order)), z, ow (.int (i : Int)), ow (.int (j : Int)), none])) (f := fun t : Nat => A.int (t : Int)) (fun t : Nat => A.int (((if t < i then t + j else t - i : Nat)) : Int)) (fun t => (E x (dl cs bl) [y, ow (.int (m : Int)), ow (.int (h : Int)), ow (.tup (nL order)), z, ow (.int (i : Int)), ow (.int (j : Int)), ow (.int (t : Int))])) (xs := List.range h)
    (by rw [x_viRg1 (n_rd rfl) (rg_in (by omega)), rg_map]) rfl (fun t ht => ⟨n_bN rfl, ?_, rfl⟩) (by rw [List.length_range]; omega)
  · rw [nL_map, t3] at lc
    exact x_ifF (x_qB (x_2 (o := pNe) (x_N1 (x_C (x_callK (x_C (n_rd rfl) (x_C (n_rd rfl) x_N)) (tord_ok (i := i) (j := j) (by omega))) x_N) hr) (x_N1 (x_C (x_N1 (x_C lc x_N) (o_tup _)) x_N) hr) (pNe_same _))) rfl
  · have c : qB (v2 opLt (rd [9] 9) (rd [7] 7)) (E x (dl cs bl) [y, ow (.int (m : Int)), ow (.int (h : Int)), ow (.tup (nL order)), z, ow (.int (i : Int)), ow (.int (j : Int)), ow (.int (t : Int))]) = some (decide (t < i), (E x (dl cs bl) [y, ow (.int (m : Int)), ow (.int (h : Int)), ow (.tup (nL order)), z, ow (.int (i : Int)), ow (.int (j : Int)), ow (.int (t : Int))])) := x_qB (x_2 (n_rd rfl) (n_rd rfl) o_ltN)
    by_cases hti : t < i
    · rw [decide_eq_true hti] at c
      rw [if_pos hti]
      exact x_ifeT c (x_fn (x_2 (n_rd rfl) (n_rd rfl) o_add) rfl)
    · rw [decide_eq_false hti] at c
      rw [if_neg hti]
      exact x_ifeF c (x_2 (n_rd rfl) (n_rd rfl) (o_sub (by omega)))
theorem l9 (S : Src cs bl) (hd : (m, h) ∈ dom) : ∃ (k : Nat) (cs' : List Int) (bl' : Int), Src cs' bl' ∧ k ≤ h ∧ (vasg 6 (vcallD 1 v_law_any (vC (v2 opAdd (rd [4] 4) (vc (.int 1))) vN))) (E x (dl cs bl) [y, ow (.int (m : Int)), ow (.int (h : Int)), ow (.tup (nL order)), z, ow (.int (i : Int)), ow (.int (j : Int)), none]) = some (.nx (E x (dl cs' bl') [y, ow (.int (m : Int)), ow (.int (h : Int)), ow (.tup (nL order)), ow (.int (k : Int)), ow (.int (i : Int)), ow (.int (j : Int)), none])) := by
  obtain ⟨_, _, _, h4⟩ := dom_b hd
  obtain ⟨a, cs1, b1, S1, hk, h1⟩ := drawE (x := x) (cs := cs) (b := bl) (r := [y, ow (.int (m : Int)), ow (.int (h : Int)), ow (.tup (nL order)), z, ow (.int (i : Int)), ow (.int (j : Int)), none]) (r1 := [y, ow (.int (m : Int)), ow (.int (h : Int)), ow (.tup (nL order)), z, ow (.int (i : Int)), ow (.int (j : Int)), none]) (g := v2 opAdd (rd [4] 4) (vc (.int 1))) (n := h + 1) S (x_2 (n_rd rfl) rfl (o_add (b := 1))) (by omega) (by omega)
  exact ⟨a, cs1, b1, S1, by omega, Eq.trans (n_asg h1) rfl⟩
theorem l10 (hd : (m, h) ∈ dom) (hi : i ≤ h) (hj : j = h - i) (hk : k ≤ h) : (vret (v2 pEq (vcall v_turned_wish (vC (vcall v_law_power (vC (rd [3] 3) (vC (rd [6] 6) vN))) (vC (vcall v_law_power (vC (rd [3] 3) (vC (rd [7] 7) vN))) (vC (vcall v_law_power (vC (rd [3] 3) (vC (rd [8] 8) vN))) vN)))) (vcall v_law_places (vC (vcall v_law_laid (vC (rd [3] 3) (vC (rd [6] 6) (vC (vcall v_turned_order (vC (rd [7] 7) (vC (rd [8] 8) vN))) vN)))) vN)))) (E x (dl cs bl) [y, ow (.int (m : Int)), ow (.int (h : Int)), ow (.tup (nL order)), ow (.int (k : Int)), ow (.int (i : Int)), ow (.int (j : Int)), none]) = some (.rt (.bl true) (E x (dl cs bl) [y, ow (.int (m : Int)), ow (.int (h : Int)), ow (.tup (nL order)), ow (.int (k : Int)), ow (.int (i : Int)), ow (.int (j : Int)), none])) := by
  obtain ⟨a, b, c, h4⟩ := dom_b hd
  have ht := turn_of (k := k) hd hi hk
  unfold okTurn at ht
  simp only [Bool.and_eq_true, decide_eq_true_eq] at ht
  obtain ⟨⟨⟨⟨⟨⟨t1, t2⟩, t3⟩, t4⟩, t5⟩, t6⟩, t7⟩ := ht
  rw [← hj] at t1 t2 t3 t4 t5 t6 t7
  have hpk := pow_small b (show k ≤ 4 by omega)
  have hpi := pow_small b (show i ≤ 4 by omega)
  have hpj := pow_small b (show j ≤ 4 by omega)
  have hb0 : 0 < m ^ k := Nat.pow_pos (by omega)
  have hlaid := llaid_ok (m := m) (k := k) (order := turnN i j) (by omega) b (by omega) (fun p hp => by
    rw [t1]
    exact of_decide_eq_true ((List.all_eq_true.mp t2) p hp)) (by omega) (by rw [t1]; exact t5)
  have hsum : ((laidN m k (turnN i j)).map List.length).sum ≤ 1000 := by
    have h1 := rowsU_cnt (m ^ ((turnN i j).length - k)) (fun x => readN x m ((turnN i j).drop k)) (m ^ (turnN i j).length)
    have h2 := pow_small b (show (turnN i j).length ≤ 4 by omega)
    exact Nat.le_trans h1 (by omega)
  have hrl : (laidN m k (turnN i j)).length ≤ 1000 := by
    show (rowsU _ _ _).length ≤ 1000
    rw [rowsU_len]
    have := pow_small b (show (turnN i j).length - k ≤ 4 by omega)
    omega
  have hpl := places_ok (b := m ^ k) hrl hsum t6
  refine x_ret (x_2 (x_call (x_C (x_call (x_C (n_rd rfl) (x_C (n_rd rfl) x_N)) (pw b (by omega))) (x_C (x_call (x_C (n_rd rfl) (x_C (n_rd rfl) x_N)) (pw b (by omega))) (x_C (x_call (x_C (n_rd rfl) (x_C (n_rd rfl) x_N)) (pw b (by omega))) x_N))) (twish_ok hb0 (by omega) (by omega) (by omega))) (x_call (x_C (x_call (x_C (n_rd rfl) (x_C (n_rd rfl) (x_C (x_call (x_C (n_rd rfl) (x_C (n_rd rfl) x_N)) (tord_ok (by omega))) x_N))) hlaid) x_N) hpl) ?_)
  rw [pEqTT, decide_eq_true t4]
end
theorem law_v (ns : List Int) : ∃ o, v_law [.frz (iL ns)] = some (.bl true, o) := by
  obtain ⟨cs, bl, S, hd⟩ := draw_ok ns 24 (by decide) (by decide)
  obtain ⟨cs1, bl1, y, S1, hy, e1⟩ := l1 (x := .frz (iL ns)) S
  obtain ⟨m, cs2, bl2, S2, m2, m3, e2⟩ := l2 (x := .frz (iL ns)) (y := y) S1
  obtain ⟨h, cs3, bl3, S3, hdm, e3⟩ := l3 (x := .frz (iL ns)) (y := y) S2 m2 m3
  obtain ⟨order, cs4, bl4, S4, hp, e4⟩ := l4 (x := .frz (iL ns)) (y := y) S3 hdm
  obtain ⟨z, hz, e5⟩ := l5 (x := .frz (iL ns)) (cs := cs4) (bl := bl4) (y := y) hdm hp
  obtain ⟨i, cs5, bl5, S5, hi, e6⟩ := l6 (x := .frz (iL ns)) (y := y) (order := order) (z := z) S4 hdm
  have e7 := l7 (x := .frz (iL ns)) (cs := cs5) (bl := bl5) (m := m) (y := y) (order := order) (z := z) hi
  have e8 := l8 (x := .frz (iL ns)) (cs := cs5) (bl := bl5) (m := m) (y := y) (order := order) (z := z) (j := h - i) hdm hi rfl
  obtain ⟨k, cs6, bl6, S6, hk, e9⟩ := l9 (x := .frz (iL ns)) (i := i) (j := h - i) (y := y) (order := order) (z := z) S5 hdm
  have e10 := l10 (x := .frz (iL ns)) (cs := cs6) (bl := bl6) (y := y) (order := order) (j := h - i) hdm hi rfl hk
  have a0 : (vasg 1 (vcall v_law_draw (vC (rd [99] 0) (vC (vc (.int 24)) vN)))) [pt (.frz (iL ns)), none, none, none, none, none, none, none, none, none] = some (.nx (E (.frz (iL ns)) (dl cs bl) [none, none, none, none, none, none, none, none])) :=
    Eq.trans (n_asg (x_call (x_C (rd_pt rfl) (x_C rfl x_N)) (by rw [eq_draw]; exact hd))) rfl
  exact ⟨_, vdefF rfl (vseq_nx a0 (vseq_nx e1 (vseq_nx e2 (vseq_nx e3 (vseq_nx e4 (vseq_nx e5 (vseq_nx e6 (vseq_nx e7 (vseq_nx e8 (vseq_nx e9 e10))))))))))⟩
theorem law_ok (ns : List Int) : ∃ st', c_law [.frz (iL ns)] [] = .ok (.bl true) st' := by
  obtain ⟨o, h⟩ := law_v ns
  exact law_end s_v_law h

end Lw
namespace Lw
open PySem PySem.Spec PyProof.Rows L2 Gd Ev
theorem all_mk {l : PySem.W.OpenLaw} {w : World} {K : PySem.W.Frag} {h : Heap} {mg : Str → Option Value} {fa f1 f2 f3 f4 f5 f6 f7 f8 f9 f10 f11 f12 f13 f14 f15 f16 f17 f18 f19 f20 : Addr} (X : K.In h) (G : h.Ns mainGlobals mg) (hfa : mg "law" = some (.ref fa))
    {od1 an1 : Option Addr} {sl1 : Array (Option Value)} {oc1 kV1 dc1 pm1 cd1 ct1 : Value} {od2 an2 : Option Addr} {sl2 : Array (Option Value)} {oc2 kV2 dc2 pm2 cd2 ct2 : Value} {od3 an3 : Option Addr} {sl3 : Array (Option Value)} {oc3 kV3 dc3 pm3 cd3 ct3 : Value} {od4 an4 : Option Addr} {sl4 : Array (Option Value)} {oc4 kV4 dc4 pm4 cd4 ct4 : Value} {od5 an5 : Option Addr} {sl5 : Array (Option Value)} {oc5 kV5 dc5 pm5 cd5 ct5 : Value} {od6 an6 : Option Addr} {sl6 : Array (Option Value)} {oc6 kV6 dc6 pm6 cd6 ct6 : Value} {od7 an7 : Option Addr} {sl7 : Array (Option Value)} {oc7 kV7 dc7 pm7 cd7 ct7 : Value} {od8 an8 : Option Addr} {sl8 : Array (Option Value)} {oc8 kV8 dc8 pm8 cd8 ct8 : Value} {od9 an9 : Option Addr} {sl9 : Array (Option Value)} {oc9 kV9 dc9 pm9 cd9 ct9 : Value} {od10 an10 : Option Addr} {sl10 : Array (Option Value)} {oc10 kV10 dc10 pm10 cd10 ct10 : Value} {od11 an11 : Option Addr} {sl11 : Array (Option Value)} {oc11 kV11 dc11 pm11 cd11 ct11 : Value} {od12 an12 : Option Addr} {sl12 : Array (Option Value)} {oc12 kV12 dc12 pm12 cd12 ct12 : Value} {od13 an13 : Option Addr} {sl13 : Array (Option Value)} {oc13 kV13 dc13 pm13 cd13 ct13 : Value} {od14 an14 : Option Addr} {sl14 : Array (Option Value)} {oc14 kV14 dc14 pm14 cd14 ct14 : Value} {od15 an15 : Option Addr} {sl15 : Array (Option Value)} {oc15 kV15 dc15 pm15 cd15 ct15 : Value} {od16 an16 : Option Addr} {sl16 : Array (Option Value)} {oc16 kV16 dc16 pm16 cd16 ct16 : Value} {od17 an17 : Option Addr} {sl17 : Array (Option Value)} {oc17 kV17 dc17 pm17 cd17 ct17 : Value} {od18 an18 : Option Addr} {sl18 : Array (Option Value)} {oc18 kV18 dc18 pm18 cd18 ct18 : Value} {od19 an19 : Option Addr} {sl19 : Array (Option Value)} {oc19 kV19 dc19 pm19 cd19 ct19 : Value} {od20 an20 : Option Addr} {sl20 : Array (Option Value)} {oc20 kV20 dc20 pm20 cd20 ct20 : Value}
    (a1 : PySem.W.nsIn K mainGlobals "raised" = some (some (.ref f1))) (l1 : K.lookup f1 = some ⟨oc1, od1, .func (PySem.W.fnOf "raised" "raised" (defArgs s_raised) (defBody s_raised) (defScope s_raised) .none kV1 dc1 pm1 an1 cd1 ct1), sl1⟩) (c1 : PySem.W.codeIn K cd1 "raised" = true) (k1 : PySem.W.keepIn K (.ref f1) = true)
    (a2 : PySem.W.nsIn K mainGlobals "digit" = some (some (.ref f2))) (l2 : K.lookup f2 = some ⟨oc2, od2, .func (PySem.W.fnOf "digit" "digit" (defArgs s_digit) (defBody s_digit) (defScope s_digit) .none kV2 dc2 pm2 an2 cd2 ct2), sl2⟩) (c2 : PySem.W.codeIn K cd2 "digit" = true) (k2 : PySem.W.keepIn K (.ref f2) = true)
    (a3 : PySem.W.nsIn K mainGlobals "read_off" = some (some (.ref f3))) (l3 : K.lookup f3 = some ⟨oc3, od3, .func (PySem.W.fnOf "read_off" "read_off" (defArgs s_read_off) (defBody s_read_off) (defScope s_read_off) .none kV3 dc3 pm3 an3 cd3 ct3), sl3⟩) (c3 : PySem.W.codeIn K cd3 "read_off" = true) (k3 : PySem.W.keepIn K (.ref f3) = true)
    (a4 : PySem.W.nsIn K mainGlobals "laid_by" = some (some (.ref f4))) (l4 : K.lookup f4 = some ⟨oc4, od4, .func (PySem.W.fnOf "laid_by" "laid_by" (defArgs s_laid_by) (defBody s_laid_by) (defScope s_laid_by) .none kV4 dc4 pm4 an4 cd4 ct4), sl4⟩) (c4 : PySem.W.codeIn K cd4 "laid_by" = true) (k4 : PySem.W.keepIn K (.ref f4) = true)
    (a5 : PySem.W.nsIn K mainGlobals "foreign_digits" = some (some (.ref f5))) (l5 : K.lookup f5 = some ⟨oc5, od5, .func (PySem.W.fnOf "foreign_digits" "foreign_digits" (defArgs s_foreign_digits) (defBody s_foreign_digits) (defScope s_foreign_digits) .none kV5 dc5 pm5 an5 cd5 ct5), sl5⟩) (c5 : PySem.W.codeIn K cd5 "foreign_digits" = true) (k5 : PySem.W.keepIn K (.ref f5) = true)
    (a6 : PySem.W.nsIn K mainGlobals "table_standing" = some (some (.ref f6))) (l6 : K.lookup f6 = some ⟨oc6, od6, .func (PySem.W.fnOf "table_standing" "table_standing" (defArgs s_table_standing) (defBody s_table_standing) (defScope s_table_standing) .none kV6 dc6 pm6 an6 cd6 ct6), sl6⟩) (c6 : PySem.W.codeIn K cd6 "table_standing" = true) (k6 : PySem.W.keepIn K (.ref f6) = true)
    (a7 : PySem.W.nsIn K mainGlobals "turned_wish" = some (some (.ref f7))) (l7 : K.lookup f7 = some ⟨oc7, od7, .func (PySem.W.fnOf "turned_wish" "turned_wish" (defArgs s_turned_wish) (defBody s_turned_wish) (defScope s_turned_wish) .none kV7 dc7 pm7 an7 cd7 ct7), sl7⟩) (c7 : PySem.W.codeIn K cd7 "turned_wish" = true) (k7 : PySem.W.keepIn K (.ref f7) = true)
    (a8 : PySem.W.nsIn K mainGlobals "turned_order" = some (some (.ref f8))) (l8 : K.lookup f8 = some ⟨oc8, od8, .func (PySem.W.fnOf "turned_order" "turned_order" (defArgs s_turned_order) (defBody s_turned_order) (defScope s_turned_order) .none kV8 dc8 pm8 an8 cd8 ct8), sl8⟩) (c8 : PySem.W.codeIn K cd8 "turned_order" = true) (k8 : PySem.W.keepIn K (.ref f8) = true)
    (a9 : PySem.W.nsIn K mainGlobals "_law_draw" = some (some (.ref f9))) (l9 : K.lookup f9 = some ⟨oc9, od9, .func (PySem.W.fnOf "_law_draw" "_law_draw" (defArgs s_law_draw) (defBody s_law_draw) (defScope s_law_draw) .none kV9 dc9 pm9 an9 cd9 ct9), sl9⟩) (c9 : PySem.W.codeIn K cd9 "_law_draw" = true) (k9 : PySem.W.keepIn K (.ref f9) = true)
    (a10 : PySem.W.nsIn K mainGlobals "_law_any" = some (some (.ref f10))) (l10 : K.lookup f10 = some ⟨oc10, od10, .func (PySem.W.fnOf "_law_any" "_law_any" (defArgs s_law_any) (defBody s_law_any) (defScope s_law_any) .none kV10 dc10 pm10 an10 cd10 ct10), sl10⟩) (c10 : PySem.W.codeIn K cd10 "_law_any" = true) (k10 : PySem.W.keepIn K (.ref f10) = true)
    (a11 : PySem.W.nsIn K mainGlobals "_law_of" = some (some (.ref f11))) (l11 : K.lookup f11 = some ⟨oc11, od11, .func (PySem.W.fnOf "_law_of" "_law_of" (defArgs s_law_of) (defBody s_law_of) (defScope s_law_of) .none kV11 dc11 pm11 an11 cd11 ct11), sl11⟩) (c11 : PySem.W.codeIn K cd11 "_law_of" = true) (k11 : PySem.W.keepIn K (.ref f11) = true)
    (a12 : PySem.W.nsIn K mainGlobals "_law_mixed" = some (some (.ref f12))) (l12 : K.lookup f12 = some ⟨oc12, od12, .func (PySem.W.fnOf "_law_mixed" "_law_mixed" (defArgs s_law_mixed) (defBody s_law_mixed) (defScope s_law_mixed) .none kV12 dc12 pm12 an12 cd12 ct12), sl12⟩) (c12 : PySem.W.codeIn K cd12 "_law_mixed" = true) (k12 : PySem.W.keepIn K (.ref f12) = true)
    (a13 : PySem.W.nsIn K mainGlobals "_law_power" = some (some (.ref f13))) (l13 : K.lookup f13 = some ⟨oc13, od13, .func (PySem.W.fnOf "_law_power" "_law_power" (defArgs s_law_power) (defBody s_law_power) (defScope s_law_power) .none kV13 dc13 pm13 an13 cd13 ct13), sl13⟩) (c13 : PySem.W.codeIn K cd13 "_law_power" = true) (k13 : PySem.W.keepIn K (.ref f13) = true)
    (a14 : PySem.W.nsIn K mainGlobals "_law_digits" = some (some (.ref f14))) (l14 : K.lookup f14 = some ⟨oc14, od14, .func (PySem.W.fnOf "_law_digits" "_law_digits" (defArgs s_law_digits) (defBody s_law_digits) (defScope s_law_digits) .none kV14 dc14 pm14 an14 cd14 ct14), sl14⟩) (c14 : PySem.W.codeIn K cd14 "_law_digits" = true) (k14 : PySem.W.keepIn K (.ref f14) = true)
    (a15 : PySem.W.nsIn K mainGlobals "_law_laid" = some (some (.ref f15))) (l15 : K.lookup f15 = some ⟨oc15, od15, .func (PySem.W.fnOf "_law_laid" "_law_laid" (defArgs s_law_laid) (defBody s_law_laid) (defScope s_law_laid) .none kV15 dc15 pm15 an15 cd15 ct15), sl15⟩) (c15 : PySem.W.codeIn K cd15 "_law_laid" = true) (k15 : PySem.W.keepIn K (.ref f15) = true)
    (a16 : PySem.W.nsIn K mainGlobals "_law_column" = some (some (.ref f16))) (l16 : K.lookup f16 = some ⟨oc16, od16, .func (PySem.W.fnOf "_law_column" "_law_column" (defArgs s_law_column) (defBody s_law_column) (defScope s_law_column) .none kV16 dc16 pm16 an16 cd16 ct16), sl16⟩) (c16 : PySem.W.codeIn K cd16 "_law_column" = true) (k16 : PySem.W.keepIn K (.ref f16) = true)
    (a17 : PySem.W.nsIn K mainGlobals "_law_places" = some (some (.ref f17))) (l17 : K.lookup f17 = some ⟨oc17, od17, .func (PySem.W.fnOf "_law_places" "_law_places" (defArgs s_law_places) (defBody s_law_places) (defScope s_law_places) .none kV17 dc17 pm17 an17 cd17 ct17), sl17⟩) (c17 : PySem.W.codeIn K cd17 "_law_places" = true) (k17 : PySem.W.keepIn K (.ref f17) = true)
    (a18 : PySem.W.nsIn K mainGlobals "_law_table" = some (some (.ref f18))) (l18 : K.lookup f18 = some ⟨oc18, od18, .func (PySem.W.fnOf "_law_table" "_law_table" (defArgs s_law_table) (defBody s_law_table) (defScope s_law_table) .none kV18 dc18 pm18 an18 cd18 ct18), sl18⟩) (c18 : PySem.W.codeIn K cd18 "_law_table" = true) (k18 : PySem.W.keepIn K (.ref f18) = true)
    (a19 : PySem.W.nsIn K mainGlobals "_law_spread" = some (some (.ref f19))) (l19 : K.lookup f19 = some ⟨oc19, od19, .func (PySem.W.fnOf "_law_spread" "_law_spread" (defArgs s_law_spread) (defBody s_law_spread) (defScope s_law_spread) .none kV19 dc19 pm19 an19 cd19 ct19), sl19⟩) (c19 : PySem.W.codeIn K cd19 "_law_spread" = true) (k19 : PySem.W.keepIn K (.ref f19) = true)
    (a20 : PySem.W.nsIn K mainGlobals "law" = some (some (.ref f20))) (l20 : K.lookup f20 = some ⟨oc20, od20, .func (PySem.W.fnOf "law" "law" (defArgs s_law) (defBody s_law) (defScope s_law) .none kV20 dc20 pm20 an20 cd20 ct20), sl20⟩) (c20 : PySem.W.codeIn K cd20 "law" = true) (k20 : PySem.W.keepIn K (.ref f20) = true)
    (z1 : PySem.W.nsIn K mainGlobals "abs" = some none)
    (z2 : PySem.W.nsIn K mainGlobals "enumerate" = some none)
    (z3 : PySem.W.nsIn K mainGlobals "int" = some none)
    (z4 : PySem.W.nsIn K mainGlobals "len" = some none)
    (z5 : PySem.W.nsIn K mainGlobals "list" = some none)
    (z6 : PySem.W.nsIn K mainGlobals "range" = some none)
    (z7 : PySem.W.nsIn K mainGlobals "repr" = some none)
    (z8 : PySem.W.nsIn K mainGlobals "set" = some none)
    (z9 : PySem.W.nsIn K mainGlobals "sorted" = some none)
    (z10 : PySem.W.nsIn K mainGlobals "sum" = some none)
    (z11 : PySem.W.nsIn K mainGlobals "tuple" = some none)
    : ∃ fd : FuncData, (∀ (s : Shared) (v : Value), BindsTo s fd ⟨[v], []⟩ [("script", v)]) ∧ ∀ base : Heap, K.In base → base.Ns mainGlobals mg → FnG l.prog w K mg base 5 fa fd ["script"] (spOf K c_law) := by
  have e := hfa.symm.trans (PySem.W.mg_of X G a20)
  cases e
  have F1 := fun_mk (st := s_raised) l1 c1 k1
  have g1 := PySem.W.mg_of X G a1
  have b1 := F1.binds (ps := ["base", "times"]) fun _ _ _ _ _ _ us hl => match us, hl with | [_, _], _ => rfl
  have F2 := fun_mk (st := s_digit) l2 c2 k2
  have g2 := PySem.W.mg_of X G a2
  have b2 := F2.binds (ps := ["x", "m", "place"]) fun _ _ _ _ _ _ us hl => match us, hl with | [_, _, _], _ => rfl
  have F3 := fun_mk (st := s_read_off) l3 c3 k3
  have g3 := PySem.W.mg_of X G a3
  have b3 := F3.binds (ps := ["x", "m", "places"]) fun _ _ _ _ _ _ us hl => match us, hl with | [_, _, _], _ => rfl
  have F4 := fun_mk (st := s_laid_by) l4 c4 k4
  have g4 := PySem.W.mg_of X G a4
  have b4 := F4.binds (ps := ["m", "k", "order"]) fun _ _ _ _ _ _ us hl => match us, hl with | [_, _, _], _ => rfl
  have F5 := fun_mk (st := s_foreign_digits) l5 c5 k5
  have g5 := PySem.W.mg_of X G a5
  have b5 := F5.binds (ps := ["k", "order"]) fun _ _ _ _ _ _ us hl => match us, hl with | [_, _], _ => rfl
  have F6 := fun_mk (st := s_table_standing) l6 c6 k6
  have g6 := PySem.W.mg_of X G a6
  have b6 := F6.binds (ps := ["b", "rows", "columns"]) fun _ _ _ _ _ _ us hl => match us, hl with | [_, _, _], _ => rfl
  have F7 := fun_mk (st := s_turned_wish) l7 c7 k7
  have g7 := PySem.W.mg_of X G a7
  have b7 := F7.binds (ps := ["b", "rows", "columns"]) fun _ _ _ _ _ _ us hl => match us, hl with | [_, _, _], _ => rfl
  have F8 := fun_mk (st := s_turned_order) l8 c8 k8
  have g8 := PySem.W.mg_of X G a8
  have b8 := F8.binds (ps := ["i", "j"]) fun _ _ _ _ _ _ us hl => match us, hl with | [_, _], _ => rfl
  have F9 := fun_mk (st := s_law_draw) l9 c9 k9
  have g9 := PySem.W.mg_of X G a9
  have b9 := F9.binds (ps := ["script", "salt"]) fun _ _ _ _ _ _ us hl => match us, hl with | [_, _], _ => rfl
  have F10 := fun_mk (st := s_law_any) l10 c10 k10
  have g10 := PySem.W.mg_of X G a10
  have b10 := F10.binds (ps := ["deal", "bound"]) fun _ _ _ _ _ _ us hl => match us, hl with | [_, _], _ => rfl
  have F11 := fun_mk (st := s_law_of) l11 c11 k11
  have g11 := PySem.W.mg_of X G a11
  have b11 := F11.binds (ps := ["deal", "some"]) fun _ _ _ _ _ _ us hl => match us, hl with | [_, _], _ => rfl
  have F12 := fun_mk (st := s_law_mixed) l12 c12 k12
  have g12 := PySem.W.mg_of X G a12
  have b12 := F12.binds (ps := ["deal", "some"]) fun _ _ _ _ _ _ us hl => match us, hl with | [_, _], _ => rfl
  have F13 := fun_mk (st := s_law_power) l13 c13 k13
  have g13 := PySem.W.mg_of X G a13
  have b13 := F13.binds (ps := ["m", "many"]) fun _ _ _ _ _ _ us hl => match us, hl with | [_, _], _ => rfl
  have F14 := fun_mk (st := s_law_digits) l14 c14 k14
  have g14 := PySem.W.mg_of X G a14
  have b14 := F14.binds (ps := ["m", "h", "x"]) fun _ _ _ _ _ _ us hl => match us, hl with | [_, _, _], _ => rfl
  have F15 := fun_mk (st := s_law_laid) l15 c15 k15
  have g15 := PySem.W.mg_of X G a15
  have b15 := F15.binds (ps := ["m", "k", "order"]) fun _ _ _ _ _ _ us hl => match us, hl with | [_, _, _], _ => rfl
  have F16 := fun_mk (st := s_law_column) l16 c16 k16
  have g16 := PySem.W.mg_of X G a16
  have b16 := F16.binds (ps := ["rows", "columns"]) fun _ _ _ _ _ _ us hl => match us, hl with | [_, _], _ => rfl
  have F17 := fun_mk (st := s_law_places) l17 c17 k17
  have g17 := PySem.W.mg_of X G a17
  have b17 := F17.binds (ps := ["standing"]) fun _ _ _ _ _ _ us hl => match us, hl with | [_], _ => rfl
  have F18 := fun_mk (st := s_law_table) l18 c18 k18
  have g18 := PySem.W.mg_of X G a18
  have b18 := F18.binds (ps := ["deal"]) fun _ _ _ _ _ _ us hl => match us, hl with | [_], _ => rfl
  have F19 := fun_mk (st := s_law_spread) l19 c19 k19
  have g19 := PySem.W.mg_of X G a19
  have b19 := F19.binds (ps := ["m", "k", "order"]) fun _ _ _ _ _ _ us hl => match us, hl with | [_, _, _], _ => rfl
  have F20 := fun_mk (st := s_law) l20 c20 k20
  have g20 := PySem.W.mg_of X G a20
  have b20 := F20.binds (ps := ["script"]) fun _ _ _ _ _ _ us hl => match us, hl with | [_], _ => rfl
  have y_abs := PySem.W.mg_none_of X G z1
  have y_enumerate := PySem.W.mg_none_of X G z2
  have y_int := PySem.W.mg_none_of X G z3
  have y_len := PySem.W.mg_none_of X G z4
  have y_list := PySem.W.mg_none_of X G z5
  have y_range := PySem.W.mg_none_of X G z6
  have y_repr := PySem.W.mg_none_of X G z7
  have y_set := PySem.W.mg_none_of X G z8
  have y_sorted := PySem.W.mg_none_of X G z9
  have y_sum := PySem.W.mg_none_of X G z10
  have y_tuple := PySem.W.mg_none_of X G z11
  refine ⟨PySem.W.fnOf "law" "law" (defArgs s_law) (defBody s_law) (defScope s_law) .none kV20 dc20 pm20 an20 cd20 ct20, fun s v => .of_eq rfl, fun base _ _ => ?_⟩
  have Z : Zs K mg := ⟨y_abs, y_enumerate, y_int, y_len, y_list, y_range, y_repr, y_set, y_sorted, y_sum, y_tuple⟩
  let C_raised : Cal l.prog w K mg base 1 "raised" ["base", "times"] (spOf K c_raised) := ⟨f1, _, ok_raised F1 Z , b1, k1, g1⟩
  let C_digit : Cal l.prog w K mg base 2 "digit" ["x", "m", "place"] (spOf K c_digit) := ⟨f2, _, ok_digit F2 Z C_raised, b2, k2, g2⟩
  let C_read_off : Cal l.prog w K mg base 3 "read_off" ["x", "m", "places"] (spOf K c_read_off) := ⟨f3, _, ok_read_off F3 Z C_digit, b3, k3, g3⟩
  let C_laid_by : Cal l.prog w K mg base 4 "laid_by" ["m", "k", "order"] (spOf K c_laid_by) := ⟨f4, _, ok_laid_by F4 Z C_raised C_read_off, b4, k4, g4⟩
  let C_foreign_digits : Cal l.prog w K mg base 1 "foreign_digits" ["k", "order"] (spOf K c_foreign_digits) := ⟨f5, _, ok_foreign_digits F5 Z , b5, k5, g5⟩
  let C_table_standing : Cal l.prog w K mg base 1 "table_standing" ["b", "rows", "columns"] (spOf K c_table_standing) := ⟨f6, _, ok_table_standing F6 Z , b6, k6, g6⟩
  let C_turned_wish : Cal l.prog w K mg base 1 "turned_wish" ["b", "rows", "columns"] (spOf K c_turned_wish) := ⟨f7, _, ok_turned_wish F7 Z , b7, k7, g7⟩
  let C_turned_order : Cal l.prog w K mg base 1 "turned_order" ["i", "j"] (spOf K c_turned_order) := ⟨f8, _, ok_turned_order F8 Z , b8, k8, g8⟩
  let C_law_draw : Cal l.prog w K mg base 1 "_law_draw" ["script", "salt"] (spOf K c_law_draw) := ⟨f9, _, ok_law_draw F9 Z , b9, k9, g9⟩
  let C_law_any : Cal l.prog w K mg base 1 "_law_any" ["deal", "bound"] (spOf K c_law_any) := ⟨f10, _, ok_law_any F10 Z , b10, k10, g10⟩
  let C_law_of : Cal l.prog w K mg base 2 "_law_of" ["deal", "some"] (spOf K c_law_of) := ⟨f11, _, ok_law_of F11 Z C_law_any, b11, k11, g11⟩
  let C_law_mixed : Cal l.prog w K mg base 2 "_law_mixed" ["deal", "some"] (spOf K c_law_mixed) := ⟨f12, _, ok_law_mixed F12 Z C_law_any, b12, k12, g12⟩
  let C_law_power : Cal l.prog w K mg base 1 "_law_power" ["m", "many"] (spOf K c_law_power) := ⟨f13, _, ok_law_power F13 Z , b13, k13, g13⟩
  let C_law_digits : Cal l.prog w K mg base 1 "_law_digits" ["m", "h", "x"] (spOf K c_law_digits) := ⟨f14, _, ok_law_digits F14 Z , b14, k14, g14⟩
  let C_law_laid : Cal l.prog w K mg base 2 "_law_laid" ["m", "k", "order"] (spOf K c_law_laid) := ⟨f15, _, ok_law_laid F15 Z C_law_power C_law_digits, b15, k15, g15⟩
  let C_law_column : Cal l.prog w K mg base 1 "_law_column" ["rows", "columns"] (spOf K c_law_column) := ⟨f16, _, ok_law_column F16 Z , b16, k16, g16⟩
  let C_law_places : Cal l.prog w K mg base 1 "_law_places" ["standing"] (spOf K c_law_places) := ⟨f17, _, ok_law_places F17 Z , b17, k17, g17⟩
  have kb_table_standing : KBinds K C_table_standing.fd ["b", "rows", "columns"] ["columns", "rows", "b"] (fun us ws => us ++ ws.reverse) (fun us ws => us ++ ws.reverse) := Ev.kw_three F6 (fun _ _ _ _ _ _ _ _ _ => rfl) (fun _ _ _ _ _ _ _ _ _ => rfl) (fun _ _ _ _ _ _ _ _ _ => rfl) (fun _ _ _ _ _ _ _ _ _ => rfl)
  have kb_turned_wish : KBinds K C_turned_wish.fd ["b", "rows", "columns"] ["columns", "rows", "b"] (fun us ws => us ++ ws.reverse) (fun us ws => us ++ ws.reverse) := Ev.kw_three F7 (fun _ _ _ _ _ _ _ _ _ => rfl) (fun _ _ _ _ _ _ _ _ _ => rfl) (fun _ _ _ _ _ _ _ _ _ => rfl) (fun _ _ _ _ _ _ _ _ _ => rfl)
  let C_law_table : Cal l.prog w K mg base 2 "_law_table" ["deal"] (spOf K c_law_table) := ⟨f18, _, ok_law_table F18 Z C_table_standing kb_table_standing C_turned_wish kb_turned_wish C_law_any C_law_column, b18, k18, g18⟩
  have kb_foreign_digits : KBinds K C_foreign_digits.fd ["k", "order"] ["order", "k"] (fun us ws => us ++ ws.reverse) (fun us ws => us ++ ws.reverse) := Ev.kw_two F5 (fun _ _ _ _ _ _ _ _ => rfl) (fun _ _ _ _ _ _ _ _ => rfl) (fun _ _ _ _ _ _ _ _ => rfl)
  let C_law_spread : Cal l.prog w K mg base 3 "_law_spread" ["m", "k", "order"] (spOf K c_law_spread) := ⟨f19, _, ok_law_spread F19 Z C_foreign_digits kb_foreign_digits C_law_power C_law_laid C_law_places, b19, k19, g19⟩
  have kb_laid_by : KBinds K C_laid_by.fd ["m", "k", "order"] ["order", "k", "m"] (fun us ws => us ++ ws.reverse) (fun us ws => us ++ ws.reverse) := Ev.kw_three F4 (fun _ _ _ _ _ _ _ _ _ => rfl) (fun _ _ _ _ _ _ _ _ _ => rfl) (fun _ _ _ _ _ _ _ _ _ => rfl) (fun _ _ _ _ _ _ _ _ _ => rfl)
  have kb_turned_order : KBinds K C_turned_order.fd ["i", "j"] ["j", "i"] (fun us ws => us ++ ws.reverse) (fun us ws => us ++ ws.reverse) := Ev.kw_two F8 (fun _ _ _ _ _ _ _ _ => rfl) (fun _ _ _ _ _ _ _ _ => rfl) (fun _ _ _ _ _ _ _ _ => rfl)
  exact ok_law F20 Z C_laid_by kb_laid_by C_turned_wish C_turned_order kb_turned_order C_law_draw C_law_any C_law_mixed C_law_power C_law_laid C_law_places C_law_table C_law_spread
end Lw
open PySem PySem.W PyProof.Rows
set_option maxHeartbeats 0 in
theorem PySem.Challenge.cw_fewestpours_k24_tables_and_digits_holds : PySem.Challenge.rw_fewestpours_k24_tables_and_digits.Holds := by
  w_on; o_law; k_head; (case hw => w_witness2)
  k_fill
  refine Ev.walk_ofE (l := PySem.Challenge.rw_fewestpours_k24_tables_and_digits) (n := 63) (k := 5) (x := "script") (c := Lw.c_law) rfl (by decide) rfl ⟨rfl, by decide, by decide⟩ (fun w h Y => PySem.W.kIn_of Y) ?F (fun ns _ => Lw.law_ok ns)
  case F =>
    intro w mg fa h KX G hmg
    refine' Lw.all_mk KX G hmg ?a1 ?l1 ?c1 ?k1 ?a2 ?l2 ?c2 ?k2 ?a3 ?l3 ?c3 ?k3 ?a4 ?l4 ?c4 ?k4 ?a5 ?l5 ?c5 ?k5 ?a6 ?l6 ?c6 ?k6 ?a7 ?l7 ?c7 ?k7 ?a8 ?l8 ?c8 ?k8 ?a9 ?l9 ?c9 ?k9 ?a10 ?l10 ?c10 ?k10 ?a11 ?l11 ?c11 ?k11 ?a12 ?l12 ?c12 ?k12 ?a13 ?l13 ?c13 ?k13 ?a14 ?l14 ?c14 ?k14 ?a15 ?l15 ?c15 ?k15 ?a16 ?l16 ?c16 ?k16 ?a17 ?l17 ?c17 ?k17 ?a18 ?l18 ?c18 ?k18 ?a19 ?l19 ?c19 ?k19 ?a20 ?l20 ?c20 ?k20 ?z1 ?z2 ?z3 ?z4 ?z5 ?z6 ?z7 ?z8 ?z9 ?z10 ?z11
    (case a1 => k_is)
    (case l1 => k_is)
    (case c1 => k_is)
    (case k1 => k_is)
    (case a2 => k_is)
    (case l2 => k_is)
    (case c2 => k_is)
    (case k2 => k_is)
    (case a3 => k_is)
    (case l3 => k_is)
    (case c3 => k_is)
    (case k3 => k_is)
    (case a4 => k_is)
    (case l4 => k_is)
    (case c4 => k_is)
    (case k4 => k_is)
    (case a5 => k_is)
    (case l5 => k_is)
    (case c5 => k_is)
    (case k5 => k_is)
    (case a6 => k_is)
    (case l6 => k_is)
    (case c6 => k_is)
    (case k6 => k_is)
    (case a7 => k_is)
    (case l7 => k_is)
    (case c7 => k_is)
    (case k7 => k_is)
    (case a8 => k_is)
    (case l8 => k_is)
    (case c8 => k_is)
    (case k8 => k_is)
    (case a9 => k_is)
    (case l9 => k_is)
    (case c9 => k_is)
    (case k9 => k_is)
    (case a10 => k_is)
    (case l10 => k_is)
    (case c10 => k_is)
    (case k10 => k_is)
    (case a11 => k_is)
    (case l11 => k_is)
    (case c11 => k_is)
    (case k11 => k_is)
    (case a12 => k_is)
    (case l12 => k_is)
    (case c12 => k_is)
    (case k12 => k_is)
    (case a13 => k_is)
    (case l13 => k_is)
    (case c13 => k_is)
    (case k13 => k_is)
    (case a14 => k_is)
    (case l14 => k_is)
    (case c14 => k_is)
    (case k14 => k_is)
    (case a15 => k_is)
    (case l15 => k_is)
    (case c15 => k_is)
    (case k15 => k_is)
    (case a16 => k_is)
    (case l16 => k_is)
    (case c16 => k_is)
    (case k16 => k_is)
    (case a17 => k_is)
    (case l17 => k_is)
    (case c17 => k_is)
    (case k17 => k_is)
    (case a18 => k_is)
    (case l18 => k_is)
    (case c18 => k_is)
    (case k18 => k_is)
    (case a19 => k_is)
    (case l19 => k_is)
    (case c19 => k_is)
    (case k19 => k_is)
    (case a20 => k_is)
    (case l20 => k_is)
    (case c20 => k_is)
    (case k20 => k_is)
    (case z1 => k_is)
    (case z2 => k_is)
    (case z3 => k_is)
    (case z4 => k_is)
    (case z5 => k_is)
    (case z6 => k_is)
    (case z7 => k_is)
    (case z8 => k_is)
    (case z9 => k_is)
    (case z10 => k_is)
    (case z11 => k_is)
