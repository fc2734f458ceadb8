import PyProof.Rows.All
import Wide.All
import OpenK.AllK
import Wide.FinOn
import HandS.ForMost
import HandS.Wide
import HandS.Zip
import HandS.Codes
import HandS.ForSpec
import HandS.ExcInit
import HandS.ExcValue
import HandS.ExcIs
import HandS.ExcField
import HandS.IsInst
import HandS.Lambda
import HandS.TupAny
import HandS.Deep
import HandS.Style
import HandS.Strs
import HandS.SetFor
import HandS.Conv
import HandS.TupSets
import HandS.SortInts
import HandS.DictComp
import HandS.Iter
import HandS.WideBits
import HandS.Text
import KE.IntBitsLaws
import KE.OsArith
import HandS.Exc
import HandS.MakeKw
import HandS.RaiseMore
import HandS.ExcOwn
import HandS.NamedTupSort
import HandS.SetBool
import KE.GoesEnum
import KE.KDictZip
import HandS.Star
import HandS.Steps
import PyProof.PureInt
import PySem.Challenge.RW_flatrooms_k19_signs_of_tables
set_option Elab.async false
set_option linter.all false
set_option maxRecDepth 100000
set_option maxHeartbeats 16000000
namespace Fr
open PySem PySem.Spec PyProof.Rows L2
abbrev Frag := PySem.W.Frag
theorem same_upd {H : Hp} {p : Addr} {o : HO} (h : H p = none) : Same H (upd H p o) := fun b x e => by
  rw [upd_ne (ne_of_none e h)]
  exact e
theorem same_sqt {K : Frag} {H H' : Hp} {a : Addr} {xs : List V} (e : Same H H') (h : SqT K H a xs) : SqT K H' a xs := by
  rcases h with (h | ⟨o, h⟩) | h
  · exact .inl (.inl (e _ _ h))
  · exact .inl (.inr ⟨o, e _ _ h⟩)
  · exact .inr h
mutual
theorem dp_same {K : Frag} {H H' : Hp} (e : Same H H') : ∀ {v : V} {d : PyData}, Dp K H v d → Dp K H' v d
  | _, _, .non => .non
  | _, _, .bl b => .bl b
  | _, _, .int i => .int i
  | _, _, .str x => .str x
  | _, _, .lst h t => .lst (e.seq h) (dps_same e t)
  | _, _, .tup h t => .tup (same_sqt e h) (dps_same e t)
theorem dps_same {K : Frag} {H H' : Hp} (e : Same H H') : ∀ {vs : List V} {ds : List PyData}, DpAll K H vs ds → DpAll K H' vs ds
  | _, _, .nil => .nil
  | _, _, .cons h t => .cons (dp_same e h) (dps_same e t)
end
theorem dps_ints {K : Frag} {H : Hp} : ∀ ns : List Int, DpAll K H (ns.map V.int) (ns.map PyData.int)
  | [] => .nil
  | n :: r => .cons (.int n) (dps_ints r)
structure Grow (M : Addr → Prop) (G H G' H' : Hp) : Prop where
  gg : Same G G'
  gh : Same G' H'
  hh : ∀ b o, ¬ M b → H b = some o → H' b = some o
  tr : ∀ b, H b ≠ none → H' b ≠ none
  nw : ∀ b, H b ≠ none → G b = none → G' b = none
abbrev M0 : Addr → Prop := fun _ => False
theorem Grow.refl {M : Addr → Prop} {G H : Hp} (h : Same G H) : Grow M G H G H := ⟨Same.refl _, h, fun _ _ _ e => e, fun _ e => e, fun _ _ e => e⟩
theorem Grow.trans {M : Addr → Prop} {G H G1 H1 G2 H2 : Hp} (a : Grow M G H G1 H1) (b : Grow M G1 H1 G2 H2) : Grow M G H G2 H2 :=
  ⟨a.gg.trans b.gg, b.gh, fun c o n e => b.hh c o n (a.hh c o n e), fun c e => b.tr c (a.tr c e), fun c e n => b.nw c (a.tr c e) (a.nw c e n)⟩
theorem Grow.weak {M M' : Addr → Prop} {G H G' H' : Hp} (a : Grow M G H G' H') (h : ∀ b, M b → M' b) : Grow M' G H G' H' :=
  ⟨a.gg, a.gh, fun b o n e => a.hh b o (fun z => n (h b z)) e, a.tr, a.nw⟩
theorem Grow.same {G H G' H' : Hp} (a : Grow M0 G H G' H') : Same H H' := fun b o e => a.hh b o (fun z => z) e
theorem Grow.lay {M : Addr → Prop} {G H : Hp} {p : Addr} {o : HO} (h : Same G H) (n : H p = none) : Grow M G H (upd G p o) (upd H p o) where
  gg := same_upd (h.free n)
  gh := fun b u e => by
    by_cases hb : b = p
    · subst hb
      rw [upd_same] at e ⊢
      exact e
    · rw [upd_ne hb] at e ⊢
      exact h _ _ e
  hh := fun b u _ e => same_upd n b u e
  tr := fun b e => by
    by_cases hb : b = p
    · subst hb
      rw [upd_same]
      simp
    · rw [upd_ne hb]
      exact e
  nw := fun b e z => by
    rw [upd_ne (fun hb => by subst hb; exact e n)]
    exact z
theorem Grow.new {M : Addr → Prop} {G H : Hp} {p : Addr} {o : HO} (h : Same G H) (n : H p = none) : Grow M G H G (upd H p o) where
  gg := Same.refl _
  gh := h.trans (same_upd n)
  hh := fun b u _ e => same_upd n b u e
  tr := fun b e => by
    by_cases hb : b = p
    · subst hb
      rw [upd_same]
      simp
    · rw [upd_ne hb]
      exact e
  nw := fun b e z => z
theorem Grow.chg {M : Addr → Prop} {G H : Hp} {p : Addr} {o : HO} (h : Same G H) (hm : M p) (hg : G p = none) : Grow M G H G (upd H p o) where
  gg := Same.refl _
  gh := fun b u e => by
    rw [upd_ne (ne_of_none e hg)]
    exact h _ _ e
  hh := fun b u nm e => by
    rw [upd_ne (fun z => nm (by rw [z]; exact hm))]
    exact e
  tr := fun b e => by
    by_cases hb : b = p
    · subst hb
      rw [upd_same]
      simp
    · rw [upd_ne hb]
      exact e
  nw := fun b e z => z
theorem Grow.done {M : Addr → Prop} {G H G' H' : Hp} {p : Addr} {o : HO} (a : Grow M G H G' H') (hn : H p = none) (e : H' p = some o) : Grow M G H (upd G' p o) H' where
  gg := fun b u z => by
    by_cases hb : b = p
    · subst hb
      have q := a.gh _ _ (a.gg _ _ z)
      rw [upd_same]
      exact e.symm.trans q
    · rw [upd_ne hb]
      exact a.gg _ _ z
  gh := fun b u z => by
    by_cases hb : b = p
    · subst hb
      rw [upd_same] at z
      exact e.trans z
    · rw [upd_ne hb] at z
      exact a.gh _ _ z
  hh := a.hh
  tr := a.tr
  nw := fun b z q => by
    rw [upd_ne (fun hb => by subst hb; exact z hn)]
    exact a.nw b z q
end Fr

namespace Fr
open PySem PySem.Spec PyProof.Rows L2
structure FnG (P : Program) (w : World) (K : Frag) (mg : Str → Option Value) (base : Heap) (CX : CXT) (k : Nat) (f : Addr) (fd : FuncData) (ps : List Str) (sp : Sp) : Prop where
  len : ∀ vs H Q E, sp vs H Q E → vs.length = ps.length
  run : ∀ (A : Around) (outer : List Env) (s : Shared) (H : Hp) (args : Args) (us : List Value) (vs : List V) (Q : VK) (E : XK),
    Room k A → A.guards = some [] → Env0 P w K mg base A outer s H → BindsTo s fd args (ps.zip us) → Vals vs us → sp vs H Q E →
      codeAny (model P w) A (.call (.ref f) args) (CR CX outer P w H s Q E) s
section
variable {P : Program} {w : World} {K : Frag} {mg : Str → Option Value} {base : Heap} {CX : CXT} {k : Nat} {f : Addr} {fd : FuncData} {N ps : List Str} {sp : Sp}
theorem FnG.of (F : FnOk P w K mg base CX k f fd ps sp) : FnG P w K mg base CX k f fd ps sp :=
  ⟨F.len, fun A outer s H args us vs Q E hr _ => F.run A outer s H args us vs Q E hr⟩
theorem FnG.mono {j : Nat} (F : FnG P w K mg base CX j f fd ps sp) (h : j ≤ k) : FnG P w K mg base CX k f fd ps sp :=
  ⟨F.len, fun A outer s H args us vs Q E hr => F.run A outer s H args us vs Q E (hr.mono h)⟩
theorem FnG.mk' {x qual : Str} {st : Stmt} (F : C8.Fun K x qual st f fd) (S : FnScope N ps (C8.fnScope st)) (len : ∀ vs H Q E, sp vs H Q E → vs.length = ps.length)
    (hbody : ∀ (cdv : Value) (A : Around) (outer : List Env) (s : Shared) (H : Hp) (vs : List V) (Q : VK) (E : XK),
      Room k (A.deeper (envOfC qual (C8.fnScope st) s.heap.objs.size f cdv)) → A.guards = some [] → sp vs H Q E →
      ∃ t, PSs (cxOf CX P w K mg base N qual (C8.fnScope st) f cdv A outer s H E) (C8.fnBody st) t ∧
        t { nx := fun _ H' => Q .non H', rt := Q } (start N vs) H) : FnG P w K mg base CX (k + 1) f fd ps sp := by
  obtain ⟨oc, od, dV, kV, doc, pm, an, cdv, ct, osl, rfl, lk, hcd⟩ := F.ex
  refine ⟨len, ?_⟩
  intro A outer s H args us vs Q E hr hgu e0 hb r hsp
  have KX : K.In s.heap := by
    refine e0.mod.kin.keeps ?_
    intro b o e
    exact (e0.bs b o e).1
  have lim : s.heap.NoLimit := by
    refine e0.mod.nolimit.keeps ?_
    intro b o e
    exact (e0.bs b o e).1
  refine codeAny_call_function hr.depth (KX _ _ lk) rfl S.co S.gen rfl
    (PySem.W.codeRec_of KX hcd) (hb _ _ _ _ ?_)
  refine wpAny_newFunctionEnv_cells S.kind ?_ ?_
  · rintro ⟨n, v⟩ hy
    rcases S.par n (List.of_mem_zip hy).1 with q | q
    · exact .inl q
    · refine .inr ⟨q, ?_⟩
      exact PySem.W.cellsFrom_some _ _ _ (.inl q)
  intro env he s1 x
  subst he
  refine ⟨lim.keeps x.toInCall.keep, ?_⟩
  refine codeAny_func ?_
  obtain ⟨t, ht, hq⟩ := hbody cdv A outer s H vs Q E (hr.deeper _) hgu hsp
  have I := inv_start (CX := CX) (E := E) S hr.hd e0 (len _ _ _ _ hsp) r x
  refine wpAny_mono (ht.run [] s1 (start N vs) H _ I hq) ?_ (fun _ _ z => z)
  intro fl s' hs
  cases fl with
  | ret u =>
    obtain ⟨v, σ', H', J, rv, q⟩ := hs
    exact ⟨v, H', J.os, J.bare, J.base, J.hok, rv, q⟩
  | next =>
    obtain ⟨σ', H', J, q⟩ := hs
    exact ⟨.non, H', J.os, J.bare, J.base, J.hok, rfl, q⟩
  | brk =>
    obtain ⟨_, _, _, q⟩ := hs
    cases q
  | cont =>
    obtain ⟨_, _, _, q⟩ := hs
    cases q
end
structure CalG (P : Program) (w : World) (K : Frag) (mg : Str → Option Value) (base : Heap) (CX : CXT) (k : Nat) (x : Str) (sp : Sp) : Prop where
  ex : ∃ (f : Addr) (fd : FuncData) (ps : List Str), FnG P w K mg base CX k f fd ps sp ∧ mg x = some (.ref f) ∧ PySem.W.keepIn K (.ref f) = true ∧ Binds K fd ps []
theorem CalG.of {P : Program} {w : World} {K : Frag} {mg : Str → Option Value} {base : Heap} {k : Nat} {x : Str} {sp : Sp} (c : C8.Cal P w K mg base k x sp []) : CalG P w K mg base C8.CX0 k x sp := by
  obtain ⟨f, fd, ps, ds, F, hm, kp, b, d⟩ := c.ex
  cases d
  exact ⟨f, fd, ps, .of F, hm, kp, b⟩
section
variable {X : Cx} {CX : CXT} {k j : Nat} {x : Str} {sp : Sp} {p pos : Pos} {e : Expr} {es : List Expr} {t : TA}
theorem run_g {f : Addr} {fd : FuncData} {ps : List Str} {E : XK} {pins : List (Addr × Obj)} {σ : L2.St} {H : Hp} {s : Shared} {Q : VK} {us : List Value} {vs : List V} (F : FnG X.prog X.w X.K X.mg X.base CX k f fd ps sp) (hr : Room k X.A) (hgu : X.A.guards = some []) (hb : Binds X.K fd ps [])
    (hx : ∀ e s', CX X.stack H s E e s' → X.xe e s') (I : Inv X pins σ H s) (r : Vals vs us) (h : sp vs H Q E) : wpAny (model X.prog X.w) X.A (call (.ref f) us) (EP X pins σ Q) X.xe s := by
  have hl : us.length = ps.length := r.length.symm.trans (F.len _ _ _ _ h)
  have hbb := hb s us I.kIn (by simpa using hl)
  rw [List.append_nil] at hbb
  have z := F.run X.A X.stack s H ⟨us, []⟩ us vs Q E hr hgu I.env0 hbb r h
  refine wpAny_call (codeAny_mono z ?_)
  rintro (er | fl) s' hq
  · exact hx er s' hq
  · cases fl with
    | ret u => exact I.after hq
    | next => cases hq
    | brk => cases hq
    | cont => cases hq
theorem pe_cg (c : CalG X.prog X.w X.K X.mg X.base C8.CX0 k x sp) (hr : Room j X.A) (hk : k ≤ j) (hgu : X.A.guards = some []) (hg : Gl X x) (ha : PA X (e :: es) t)
    (hdb : (x == ("__debug__" : Str)) = false := by decide) (he : starEach (e :: es) X.env = (false, eval e X.env) :: starEach es X.env := by rfl)
    (hpl : (backTo pos (starEach es X.env)).any (·.1) = false := by rfl) : PE X (.Call (.Name x p) (e :: es) [] pos) (tCall sp [] C8.E0 t) := by
  obtain ⟨f, fd, ps, F, hm, kp, b⟩ := c.ex
  refine ⟨?_⟩
  intro pins s σ H Q I h
  refine wpAny_Call_Name_kw (ld_glob I hg hm ?_ hdb)
  refine PySem.W.callWith_K (h₀ := X.base) I.ok.mod.kin kp (thn (ha.run pos pins s σ H _ I h) ?_) he hpl
  rintro us s1 ⟨vs, H1, I1, r, q⟩
  refine ⟨I1.kIn, ?_⟩
  have q' : sp (vs ++ []) H1 Q C8.E0 := q
  rw [List.append_nil] at q'
  exact run_g F (hr.mono hk) hgu b (fun _ _ z => z.elim) I1 r q'
theorem pe_cgS {E : L2.St → XK} (c : CalG X.prog X.w X.K X.mg X.base CX k x sp) (hr : Room j X.A) (hk : k ≤ j) (hgu : X.A.guards = some []) (hg : Gl X x) (hx : ∀ σ, PassesAt CX X σ (E σ)) (ha : PA X (e :: es) t)
    (hdb : (x == ("__debug__" : Str)) = false := by decide) (he : starEach (e :: es) X.env = (false, eval e X.env) :: starEach es X.env := by rfl)
    (hpl : (backTo pos (starEach es X.env)).any (·.1) = false := by rfl) : PE X (.Call (.Name x p) (e :: es) [] pos) (tCallS sp E t) := by
  obtain ⟨f, fd, ps, F, hm, kp, b⟩ := c.ex
  refine ⟨?_⟩
  intro pins s σ H Q I h
  refine wpAny_Call_Name_kw (ld_glob I hg hm ?_ hdb)
  refine PySem.W.callWith_K (h₀ := X.base) I.ok.mod.kin kp (thn (ha.run pos pins s σ H _ I h) ?_) he hpl
  rintro us s1 ⟨vs, H1, I1, r, q⟩
  exact ⟨I1.kIn, run_g F (hr.mono hk) hgu b (fun e s' z => hx σ pins H1 s1 e s' I1 z) I1 r q⟩
end
theorem calG0 {P : Program} {w : World} {K : Frag} {mg : Str → Option Value} {base : Heap} {x : Str} {st : Stmt} {f : Addr} {fd : FuncData} {N ps : List Str} {k : Nat} {sp : Sp} (F : C8.Def K mg x st f fd) (b : Binds K fd ps []) (S : FnScope N ps (C8.fnScope st))
    (len : ∀ vs H Q E, sp vs H Q E → vs.length = ps.length)
    (hbody : ∀ (cdv : Value) (A : Around) (outer : List Env) (s : Shared) (H : Hp) (vs : List V) (Q : VK) (E : XK),
      Room k (A.deeper (envOfC x (C8.fnScope st) s.heap.objs.size f cdv)) → A.guards = some [] → sp vs H Q E →
      ∃ t, PSs (cxOf C8.CX0 P w K mg base N x (C8.fnScope st) f cdv A outer s H E).nox (C8.fnBody st) t ∧
        t { nx := fun _ H' => Q .non H', rt := Q } (start N vs) H) : CalG P w K mg base C8.CX0 (k + 1) x sp := by
  refine ⟨f, fd, ps, FnG.mk' F.fn S len ?_, F.mgf, F.kp, b⟩
  intro cdv A outer s H vs Q E hr hgu hsp
  obtain ⟨t, h, q⟩ := hbody cdv A outer s H vs Q E hr hgu hsp
  exact ⟨t, h.nox, q⟩
end Fr

namespace Fr
open PySem PySem.Spec PyProof.Rows L2
section
variable {X : Cx} {pins : List (Addr × Obj)} {σ : L2.St} {H : Hp} {s : Shared}
def rRepr (K : Frag) : List V → Hp → VK → Prop := fun xs H Q => ∃ (a : Addr) (d : PyData), xs = [.ref a] ∧ Dp K H (.ref a) d ∧ d.showable = true ∧ d.hasDict = false ∧ d.depth ≤ 60 ∧ d.shown.length ≤ sizeLine ∧ Q (.str d.shown) H
theorem call_reprD (hgu : X.A.guards = some []) (hu : X.A.units + 64 < cLine) : CallR X (.builtin "repr") (rRepr X.K) := by
  intro pins s σ H xs us Q I r h
  obtain ⟨a, d, rfl, hd, hs, hnd, hdp, hsz, q⟩ := h
  cases r with
  | cons rx rr =>
    cases rr
    cases rx
    obtain ⟨as, hr⟩ := Dp.reads I d _ _ hd rfl
    refine PySem.repr_of_reads' hr hs (fun z => by rw [hnd] at z; cases z) hgu (by omega) (fun _ _ z => z) ?_ hsz
    intro h' u tk k
    exact ⟨.str d.shown, H, I.kept (t' := tk) k, ⟨u, rfl⟩, q⟩
end
end Fr

namespace Fr
open PySem PySem.Spec PyProof.Rows L2
def topS (i : Nat) : Stmt := PySem.Challenge.pw_flatrooms_k19_signs_of_tables.main.body.getD i (.Pass ⟨0, 0, 0, 0⟩)
abbrev s_law_begun : Stmt := topS 18
abbrev s_law_mixed : Stmt := topS 19
abbrev s_law_take : Stmt := topS 20
abbrev s_law_pick : Stmt := topS 21
theorem sc_law_begun : FnScope ["script", "large", "grain"] ["script"] (C8.fnScope s_law_begun) := C8.fnScope_by (by decide +kernel)
theorem sc_law_mixed : FnScope ["draw", "turn", "found", "great", "blend", "grain"] ["draw"] (C8.fnScope s_law_mixed) := C8.fnScope_by (by decide +kernel)
theorem sc_law_take : FnScope ["draw", "amount", "found"] ["draw", "amount"] (C8.fnScope s_law_take) := C8.fnScope_by (by decide +kernel)
theorem sc_law_pick : FnScope ["draw", "some"] ["draw", "some"] (C8.fnScope s_law_pick) := C8.fnScope_by (by decide +kernel)
def drawK (l c : Addr) (rest turn : Int) : List (Key × V) := [(Sum.inr "large", .ref l), (Sum.inr "rest", .int rest), (Sum.inr "cells", .ref c), (Sum.inr "turn", .int turn)]
structure DrawAt (d l c : Addr) (H : Hp) (large cells : List Int) (rest turn : Int) : Prop where
  hd : H d = some (.dK (drawK l c rest turn))
  hl : H l = some (.lst (large.map V.int))
  hc : H c = some (.lst (cells.map V.int))
  ne : c ≠ l
def Draw (d l c : Addr) (H : Hp) : Prop := ∃ large cells rest turn, DrawAt d l c H large cells rest turn
abbrev Mdl (d l : Addr) : Addr → Prop := fun b => b = d ∨ b = l
section
variable {l c : Addr} {r t : Int} {v : Int}
theorem dp_rest : putK (drawK l c r t) (Sum.inr "rest" : Key) (.int v) = drawK l c v t := by rfl
theorem dp_turn : putK (drawK l c r t) (Sum.inr "turn" : Key) (.int v) = drawK l c r v := by rfl
end
end Fr

namespace Fr
open PySem PySem.Spec PyProof.Rows L2
structure Bi (mg : Str → Option Value) : Prop where
  abs : mg "abs" = none
  int : mg "int" = none
  len : mg "len" = none
def spMixed : Sp := fun vs H Q _ => ∃ d l c large cells rest turn, vs = [.ref d] ∧ DrawAt d l c H large cells rest turn ∧
  ∀ (r : Int) H', (∀ b o, b ≠ d → H b = some o → H' b = some o) → (∀ b, H b ≠ none → H' b ≠ none) → DrawAt d l c H' large cells rest (turn + 1) → Q (.int r) H'
section
variable {P : Program} {w : World} {K : PySem.W.Frag} {mg : Str → Option Value} {base : Heap}
theorem DrawAt.step {d l c : Addr} {H H' : Hp} {large cells : List Int} {rest turn rest' turn' : Int} (D : DrawAt d l c H large cells rest turn) (h : ∀ b o, b ≠ d → H b = some o → H' b = some o) (e : H' d = some (.dK (drawK l c rest' turn'))) :
    DrawAt d l c H' large cells rest' turn' :=
  ⟨e, h _ _ (ne_of D.hl D.hd (by intro z; cases z)) D.hl, h _ _ (ne_of D.hc D.hd (by intro z; cases z)) D.hc, D.ne⟩
theorem list_item {xs : List Int} {i : Nat} {y : V} (h : (xs.map V.int)[i]? = some y) : ∃ z, xs[i]? = some z ∧ y = .int z := by
  rw [List.getElem?_map] at h
  cases e : xs[i]? with
  | none =>
    rw [e] at h
    cases h
  | some z =>
    rw [e] at h
    exact ⟨z, rfl, (Option.some.inj h).symm⟩
theorem fmod_lt {a b : Int} (h : 0 < b) : 0 ≤ a.fmod b ∧ a.fmod b < b := by
  rw [Int.fmod_eq_emod_of_nonneg a (by omega)]
  exact ⟨Int.emod_nonneg a (by omega), Int.emod_lt_of_pos a h⟩
theorem ok_law_mixed {f : Addr} {fd : FuncData} (F : C8.Def K mg "_law_mixed" s_law_mixed f fd) (b : Binds K fd ["draw"] []) (B : Bi mg) :
    C8.Cal P w K mg base 1 "_law_mixed" spMixed [] := by
  have sc := sc_law_mixed
  refine C8.cal0 F b .nil sc (fun vs H Q E h => ?_) (fun cdv A outer s H vs Q E hr h => ?_)
  · obtain ⟨_, _, _, _, _, _, _, rfl, _⟩ := h
    rfl
  · obtain ⟨d, l, c, large, cells, rest, turn, rfl, D, k⟩ := h
    refine ⟨_, pss_cons (ps_dput (hu_of hr) (pv 0) pe_str (pe_op op_add (pe_dget (hu_of hr) (pv 0) pe_str (fun _ _ => rfl)) pe_int) rfl)
      (pss_cons (ps_par (i := 1) (j := 2) (by rfl) sc.nd rfl rfl (by decide) rfl rfl (pa_cons (pe_callTy call_int1 (by rfl) B.int (by decide +kernel) (pa_cons (pe_dget (hu_of hr) (pv 0) pe_str (fun _ _ => rfl)) pa_nil)) (pa_cons pe_int pa_nil)) (by rfl))
      (pss_cons (ps_for PassesOwn.never rfl (pi_list (pe_lst (pa_cons pe_int (pa_cons pe_int (pa_cons pe_int pa_nil))))) (pg_name (i := 3) sc.nd rfl (by first | exact Or.inl rfl | exact Or.inr rfl))
        (pss_cons (ps_set (i := 4) sc.nd rfl (by first | exact Or.inl rfl | exact Or.inr rfl) (pe_op op_modN (pe_op op_add (pe_op op_mul (pv 1) pe_int) (pe_op op_fdivN (pv 3) pe_int)) (pv 3)))
          (pss_cons (ps_for PassesOwn.never rfl (pi_list (pe_dget (hu_of hr) (pv 0) pe_str (fun _ _ => rfl))) (pg_name (i := 5) sc.nd rfl (by first | exact Or.inl rfl | exact Or.inr rfl))
            (pss_one (ps_set (i := 4) sc.nd rfl (by first | exact Or.inl rfl | exact Or.inr rfl) (pe_op op_modN (pe_op op_add (pe_op op_mul (pv 4) pe_int) (pe_callTy call_int1 (by rfl) B.int (by decide +kernel) (pa_cons (pv 5) pa_nil))) (pv 3)))))
          (pss_one (ps_set (i := 2) sc.nd rfl (by first | exact Or.inl rfl | exact Or.inr rfl) (pe_op op_add (pe_op op_mul (pv 2) pe_int) (pe_op op_modN (pe_op op_pow (pv 4) pe_int) (pv 3))))))))
      (pss_one (ps_ret (pv 2))))), ?_⟩
    -- draw["turn"] = draw["turn"] + 1
    refine ⟨_, rfl, _, _, rfl, DGet.k (k := Sum.inr "turn") D.hd, _, _, rfl, rfl, ?_⟩
    refine ⟨_, rfl, _, _, rfl, DPut.k (k := Sum.inr "turn") D.hd (by show 4 < sizeLine; decide), ?_⟩
    have k1 : ∀ b o, b ≠ d → H b = some o → (upd H d (.dK (putK (drawK l c rest turn) (Sum.inr "turn" : Key) (.int (turn + 1))))) b = some o := fun b o n e => by
      rw [upd_ne n]
      exact e
    have D1 : DrawAt d l c (upd H d (.dK (putK (drawK l c rest turn) (Sum.inr "turn" : Key) (.int (turn + 1))))) large cells rest (turn + 1) := D.step k1 (by rw [upd_same, dp_turn])
    have t1 : ∀ b, H b ≠ none → (upd H d (.dK (putK (drawK l c rest turn) (Sum.inr "turn" : Key) (.int (turn + 1))))) b ≠ none := fun b e => by
      by_cases hb : b = d
      · subst hb
        rw [upd_same]
        simp
      · rw [upd_ne hb]
        exact e
    generalize (upd H d (.dK (putK (drawK l c rest turn) (Sum.inr "turn" : Key) (.int (turn + 1))))) = H1 at k1 D1 t1 ⊢
    -- turn, found = int(draw["turn"]), 0
    refine ⟨_, rfl, _, _, rfl, DGet.k (k := Sum.inr "turn") D1.hd, .inl ⟨_, rfl, _, _, rfl, ?_⟩⟩
    refine ⟨by show 3 ≤ sizeLine; decide, fun p hp => ⟨_, rfl, ⟨_, .inl (.inl upd_same)⟩, ?_⟩⟩
    generalize hH2 : upd H1 p (.lst [V.int 2147483629, .int 2147483587, .int 2147483579]) = H2
    have s2 : Same H1 H2 := by
      subst hH2
      exact same_upd hp
    have hP : H2 p = some (.lst ([2147483629, 2147483587, 2147483579].map V.int)) := by
      subst hH2
      exact upd_same
    have pd : p ≠ d := fun e => by
      rw [e, D1.hd] at hp
      cases hp
    refine for_list (K := K) (a := p) (xs := [2147483629, 2147483587, 2147483579].map V.int) (fun i σ H3 => ∃ (fo : Int) (v3 v4 v5 : Option V), σ = [some (.ref d), some (.int (turn + 1)), some (.int fo), v3, v4, v5] ∧ Same H2 H3)
      ⟨0, none, none, none, rfl, fun _ _ e => e⟩ (fun i σ H3 _ ⟨_, _, _, _, _, s3⟩ => .inl (.inl (s3 _ _ hP))) ?_ ?_
    · rintro i y σ H3 hi ⟨fo, v3, v4, v5, rfl, s3⟩
      obtain ⟨g, hg, rfl⟩ := list_item hi
      have gb : 0 < g ∧ g < 2147483648 := by
        match i, hg with
        | 0, hg => cases hg; decide
        | 1, hg => cases hg; decide
        | 2, hg => cases hg; decide
        | n + 3, hg => simp at hg
      have D3 : DrawAt d l c H3 large cells rest (turn + 1) := D1.step (fun b o _ e => s3 _ _ (s2 _ _ e)) (s3 _ _ (s2 _ _ D1.hd))
      refine ⟨_, rfl, _, _, rfl, rfl, .inr ⟨by decide, by decide⟩, _, rfl, _, _, rfl, rfl, ⟨by decide, by decide⟩, _, _, rfl, rfl, _, rfl, _, _, rfl, rfl, by omega, ?_⟩
      have hb0 := fmod_lt (a := (turn + 1) * 69621 + g.fdiv 7) gb.1
      refine ⟨_, rfl, _, _, rfl, DGet.k (k := Sum.inr "cells") D3.hd, _, rfl, ⟨_, .inl (.inl D3.hc)⟩, ?_⟩
      refine for_list (K := K) (a := c) (xs := cells.map V.int) (fun j σ H4 => ∃ (bl : Int) (v5 : Option V), σ = [some (.ref d), some (.int (turn + 1)), some (.int fo), some (.int g), some (.int bl), v5] ∧ (0 ≤ bl ∧ bl < g) ∧ H4 = H3)
        ⟨_, _, rfl, hb0, rfl⟩ (fun j σ H4 _ ⟨_, _, _, _, e⟩ => by rw [e]; exact .inl (.inl D3.hc)) ?_ ?_
      · rintro j y σ H4 hj ⟨bl, w5, rfl, hbl, rfl⟩
        obtain ⟨z, hz, rfl⟩ := list_item hj
        refine ⟨_, rfl, _, _, rfl, rfl, .inr ⟨by decide, by decide⟩, _, rfl, .inl ⟨_, rfl, _, _, rfl, rfl, _, rfl, _, _, rfl, rfl, by omega, ?_⟩⟩
        exact ⟨_, _, rfl, fmod_lt gb.1, rfl⟩
      · rintro σ H4 ⟨bl, w5, rfl, hbl, rfl⟩
        refine ⟨_, rfl, _, _, rfl, rfl, .inr ⟨by decide, by decide⟩, _, rfl, _, _, rfl, rfl, ⟨by decide, by decide, by omega⟩, _, rfl, _, _, rfl, rfl, by omega, _, _, rfl, rfl, ?_⟩
        exact ⟨_, _, _, _, rfl, s3⟩
    · rintro σ H3 ⟨fo, v3, v4, v5, rfl, s3⟩
      refine ⟨_, rfl, k fo H3 (fun b o n e => s3 _ _ (s2 _ _ (k1 b o n e))) (fun b e => ?_) (D1.step (fun b o _ e => s3 _ _ (s2 _ _ e)) (s3 _ _ (s2 _ _ D1.hd)))⟩
      cases q : H1 b with
      | none => exact absurd q (t1 b e)
      | some o =>
        rw [s3 _ _ (s2 _ _ q)]
        simp
end
end Fr

namespace Fr
open PySem PySem.Spec PyProof.Rows L2
def spTake : Sp := fun vs H Q _ => ∃ (d l c : Addr) (amount : Int), vs = [.ref d, .int amount] ∧ 0 < amount ∧ amount.natAbs.log2 < 9000 ∧ Draw d l c H ∧
  ∀ (r : Int) H', 0 ≤ r → r < amount → (∀ b o, ¬ Mdl d l b → H b = some o → H' b = some o) → (∀ b, H b ≠ none → H' b ≠ none) → Draw d l c H' → Q (.int r) H'
section
variable {P : Program} {w : World} {K : PySem.W.Frag} {mg : Str → Option Value} {base : Heap}
theorem trk_upd {H : Hp} {a : Addr} {o : HO} : ∀ b, H b ≠ none → (upd H a o) b ≠ none := fun b e => by
  by_cases hb : b = a
  · subst hb
    rw [upd_same]
    simp
  · rw [upd_ne hb]
    exact e
theorem shaped_ints (ns : List Int) : SeqAt.shaped (.list (ns.map .int)) = true := by
  have h : PyData.depthAll (ns.map PyData.int) ≤ 1 := by
    induction ns with
    | nil => simp [PyData.depthAll]
    | cons n r ih => simp only [List.map, PyData.depthAll, PyData.depth]; omega
  have h2 : PyData.canLayAll0 (ns.map PyData.int) = true := by
    induction ns with
    | nil => simp [PyData.canLayAll0]
    | cons n r ih =>
      have h' : PyData.depthAll (r.map PyData.int) ≤ 1 := by
        simp only [List.map, PyData.depthAll, PyData.depth] at h
        omega
      simp only [List.map, PyData.canLayAll0, PyData.canLay0, ih h', Bool.and_self]
  unfold SeqAt.shaped
  rw [Bool.and_eq_true]
  refine ⟨by simpa only [PyData.canLay0] using h2, decide_eq_true ?_⟩
  simp only [PyData.depth]
  omega
theorem eqv_nil {ns : List Int} : (!PyData.eqv (.list (ns.map PyData.int)) (.list [])) = !ns.isEmpty := by
  cases ns with
  | nil => rfl
  | cons n r => rfl
theorem ok_law_take {f : Addr} {fd : FuncData} (F : C8.Def K mg "_law_take" s_law_take f fd) (b : Binds K fd ["draw", "amount"] []) (B : Bi mg) (c_law_mixed : C8.Cal P w K mg base 1 "_law_mixed" spMixed []) :
    C8.Cal P w K mg base 2 "_law_take" spTake [] := by
  have sc := sc_law_take
  refine C8.cal0 F b .nil sc (fun vs H Q E h => ?_) (fun cdv A outer s H vs Q E hr h => ?_)
  · obtain ⟨_, _, _, _, rfl, _⟩ := h
    rfl
  · obtain ⟨d, l, c, amount, rfl, h0, h9, ⟨large, cells, rest, turn, D⟩, k⟩ := h
    refine ⟨_, pss_cons (ps_if (pt_cmpR op_eq (pe_dget (hu_of hr) (pv 0) pe_str (fun _ _ => rfl)) pe_int (nomark _))
        (pss_one (ps_dput (hu_of hr) (pv 0) pe_str (pe_ifExp (pt_cmpR (op_neD hr.units) (pe_dget (hu_of hr) (pv 0) pe_str (fun _ _ => rfl)) (pe_lst pa_nil) (nomark _)) (pe_bm PySem.F.plainAttrs_list PySem.F.slot_list_pop PySem.F.type_list_pop mt_popAt (pe_dget (hu_of hr) (pv 0) pe_str (fun _ _ => rfl)) (pa_cons pe_int pa_nil)) (C8.pe_c c_law_mixed hr (by decide) rfl (pa_cons (pv 0) pa_nil))) rfl))
        (pss_nil))
      (pss_cons (ps_set (i := 2) sc.nd rfl (by first | exact Or.inl rfl | exact Or.inr rfl) (pe_op op_modN (pe_callTy call_int1 (by rfl) B.int (by decide +kernel) (pa_cons (pe_dget (hu_of hr) (pv 0) pe_str (fun _ _ => rfl)) pa_nil)) (pv 1)))
      (pss_cons (ps_dput (hu_of hr) (pv 0) pe_str (pe_op op_fdivW (pe_callTy call_int1 (by rfl) B.int (by decide +kernel) (pa_cons (pe_dget (hu_of hr) (pv 0) pe_str (fun _ _ => rfl)) pa_nil)) (pv 1)) rfl)
      (pss_one (ps_ret (pv 2))))), ?_⟩
    -- what follows the if, from any draw
    have tail : ∀ (H1 : Hp) (large cells : List Int) (rest turn : Int), DrawAt d l c H1 large cells rest turn → (∀ b o, ¬ Mdl d l b → H b = some o → H1 b = some o) → (∀ b, H b ≠ none → H1 b ≠ none) →
        (tSeq (tAsg (tOp (rI (fun _ j => j ≠ 0) fun i j => V.int (i.fmod j)) (tCB (fun xs H Q => (∃ i, xs = [.int i] ∧ Q (.int i) H) ∨ ∃ k, xs = [.bl k] ∧ Q (.int (if k then 1 else 0)) H) (tCons (tDGet (tVar 0) (tC (.str "rest"))) tNil)) (tVar 1)) (gName 2))
          (tSeq (sDPut (tVar 0) (tC (.str "rest")) (tOp (rI CDivW fun i j => V.int (i / j)) (tCB (fun xs H Q => (∃ i, xs = [.int i] ∧ Q (.int i) H) ∨ ∃ k, xs = [.bl k] ∧ Q (.int (if k then 1 else 0)) H) (tCons (tDGet (tVar 0) (tC (.str "rest"))) tNil)) (tVar 1)))
            (tRet (tVar 2)))) { nx := fun _ H' => Q .non H', rt := Q } [some (.ref d), some (.int amount), none] H1 := by
      intro H1 large cells rest turn D1 k1 t1
      refine ⟨_, rfl, _, _, rfl, DGet.k (k := Sum.inr "rest") D1.hd, .inl ⟨_, rfl, _, rfl, _, _, rfl, rfl, by omega, ?_⟩⟩
      refine ⟨_, rfl, _, _, rfl, DGet.k (k := Sum.inr "rest") D1.hd, .inl ⟨_, rfl, _, rfl, _, _, rfl, rfl, ⟨h0, h9⟩, ?_⟩⟩
      refine ⟨_, rfl, _, _, rfl, DPut.k (k := Sum.inr "rest") D1.hd (by show 4 < sizeLine; decide), ?_⟩
      have z := fmod_lt (a := rest) h0
      refine ⟨_, rfl, k _ _ z.1 z.2 (fun b o n e => ?_) (fun b e => trk_upd b (t1 b e)) ⟨large, cells, _, turn, D1.step (fun b o n e => ?_) (by rw [upd_same]; exact congrArg (fun z => some (HO.dK z)) dp_rest)⟩⟩
      · rw [upd_ne (fun z => n (.inl z))]
        exact k1 b o n e
      · rw [upd_ne n]
        exact e
    refine ⟨_, rfl, _, _, rfl, DGet.k (k := Sum.inr "rest") D.hd, rfl, _, rfl, ?_⟩
    refine ite2 (fun _ => ?_) (fun _ => ?_)
    · -- draw["large"] != []
      refine ⟨_, rfl, _, _, rfl, DGet.k (k := Sum.inr "large") D.hd, by show 0 ≤ sizeLine; decide, fun p hp => ?_⟩
      have s1 : Same H (upd H p (.lst [])) := same_upd hp
      refine ⟨.list (large.map PyData.int), .list [], .lst (.inl (.inl (s1 _ _ D.hl))) (dps_ints large), .lst (.inl (.inl upd_same)) .nil, ?_⟩
      refine ⟨shaped_ints large, by decide, _, rfl, ?_⟩
      rw [eqv_nil]
      have k1 : ∀ b o, ¬ Mdl d l b → H b = some o → (upd H p (.lst [])) b = some o := fun b o _ e => s1 _ _ e
      have D1 : DrawAt d l c (upd H p (.lst [])) large cells rest turn := D.step (fun b o _ e => s1 _ _ e) (s1 _ _ D.hd)
      have t1 : ∀ b, H b ≠ none → (upd H p (.lst [])) b ≠ none := trk_upd
      generalize (upd H p (.lst [])) = H1 at k1 D1 t1 ⊢
      cases large with
      | nil =>
        refine iteF ?_
        refine ⟨_, rfl, d, l, c, _, _, _, _, rfl, D1, fun r H2 k2 t2 D2 => ?_⟩
        refine ⟨_, rfl, _, _, rfl, DPut.k (k := Sum.inr "rest") D2.hd (by show 4 < sizeLine; decide), ?_⟩
        refine tail _ [] cells r (turn + 1) (D2.step (fun b o n e => by rw [upd_ne n]; exact e) (by rw [upd_same]; exact congrArg (fun z => some (HO.dK z)) dp_rest)) (fun b o n e => ?_) (fun b e => trk_upd b (t2 b (t1 b e)))
        rw [upd_ne (fun z => n (.inl z))]
        exact k2 b o (fun z => n (.inl z)) (k1 b o n e)
      | cons x xs =>
        refine iteT ?_
        have nl : l ≠ d := ne_of D1.hl D1.hd (by intro z; cases z)
        refine ⟨_, rfl, _, _, rfl, DGet.k (k := Sum.inr "large") D1.hd, .inl ⟨rfl, _, .inl (.inl D1.hl)⟩, l, _, 0, 0, .int x, rfl, rfl, D1.hl, by decide, by decide, ?_, rfl, ?_⟩
        · unfold seqIndex?
          rw [List.length_map, List.length_cons]
          simp
        have D2 : DrawAt d l c (upd H1 l (.lst ((V.int x :: xs.map V.int).eraseIdx 0))) xs cells rest turn := ⟨by rw [upd_ne nl.symm]; exact D1.hd, upd_same, by rw [upd_ne D1.ne]; exact D1.hc, D1.ne⟩
        refine ⟨_, rfl, _, _, rfl, DPut.k (k := Sum.inr "rest") D2.hd (by show 4 < sizeLine; decide), ?_⟩
        refine tail _ xs cells x turn (D2.step (fun b o n e => by rw [upd_ne n]; exact e) (by rw [upd_same]; exact congrArg (fun z => some (HO.dK z)) dp_rest)) (fun b o n e => ?_) (fun b e => trk_upd b (trk_upd b (t1 b e)))
        rw [upd_ne (fun z => n (.inl z)), upd_ne (fun z => n (.inr z))]
        exact k1 b o n e
    · exact tail H large cells rest turn D (fun b o _ e => e) (fun b e => e)
end
end Fr

namespace Fr
open PySem PySem.Spec PyProof.Rows L2
theorem take_more {α : Type} {l : List α} {i : Nat} {x : α} (h : l[i]? = some x) : l.take (i + 1) = l.take i ++ [x] := by
  rw [List.take_add_one, h]
  rfl
theorem lc_ints {K : Frag} {a : Addr} {xs : List Int} {g : TG} {tt : TT} {te : TE} {vs : List Nat} {σ : L2.St} {H1 : Hp} {D : Addr} {Qd : Hp → Prop} (p : Int → Bool) (f : Int → Int) (hS : SqL K H1 a (xs.map V.int)) (hD : H1 D = none) (hlen : xs.length < sizeLine)
    (turn : ∀ (x : Int) (H : Hp) (Qy : VK) (Qn : Hp → Prop), x ∈ xs → Same H1 H → (p x = true → Qy (.int (f x)) H) → (p x = false → Qn H) →
      g (.int x) (wipe σ vs) H fun σ2 H2 => wipe σ2 vs = wipe σ vs ∧ tt σ2 H2 fun b H3 => if b = true then te σ2 H3 Qy else Qn H3)
    (hd : ∀ H, Same H1 H → H D = some (.lst (((xs.filter p).map f).map V.int)) → Qd H) :
    ∃ W : Nat → Nat → Hp → Prop, (∃ m, W 0 m (upd H1 D (.lst []))) ∧ ∀ i m H, W i m H →
      ((Itl K a).stop i H ∧ Qd H) ∨ ((Itl K a).go i H ∧ ∃ Nx : Hp → Prop, (∀ H', Nx H' → ∃ m', m' < m ∧ W (i + 1) m' H') ∧ ∀ x H', (Itl K a).yld i H x H' → g x (wipe σ vs) H' fun σ2 H2 => wipe σ2 vs = wipe σ vs ∧ tt σ2 H2 fun b H3 =>
        if b = true then te σ2 H3 fun y H4 => ∃ acc, H4 D = some (.lst acc) ∧ acc.length < sizeLine ∧ Nx (upd H4 D (.lst (acc ++ [y]))) else Nx H3) := by
  refine lc_list (K := K) (a := a) (xs := xs.map V.int) (fun i H => Same H1 H ∧ H D = some (.lst ((((xs.take i).filter p).map f).map V.int))) ⟨same_upd hD, upd_same⟩ (fun i H _ h => h.1.seq hS) ?_ (fun H h => hd H h.1 ?_)
  · rintro i y H hi ⟨s, e⟩
    obtain ⟨x, hx, rfl⟩ := list_item hi
    have hm : x ∈ xs := List.mem_of_getElem? hx
    have ht := take_more hx
    refine turn x H _ _ hm s (fun hp => ⟨_, e, ?_, fun b o q => ?_, ?_⟩) (fun hp => ⟨s, ?_⟩)
    · have h1 : i < xs.length := (List.getElem?_eq_some_iff.mp hx).1
      have h2 : ((xs.take i).filter p).length ≤ (xs.take i).length := List.length_filter_le _ _
      rw [List.length_map, List.length_map]
      rw [List.length_take] at h2
      omega
    · rw [upd_ne (ne_of_none q hD)]
      exact s _ _ q
    · rw [upd_same, ht, List.filter_append, List.map_append, List.map_append]
      have e1 : [x].filter p = [x] := by simp [hp]
      rw [e1]
      rfl
    · rw [ht, List.filter_append, List.map_append, List.map_append]
      have e1 : [x].filter p = [] := by simp [hp]
      rw [e1, e]
      simp
  · have := h.2
    rw [List.length_map, List.take_length] at this
    exact this
def spBegun (K : Frag) : Sp := fun vs H Q _ => ∃ (a : Addr) (ns : List Int), vs = [.ref a] ∧ SqL K H a (ns.map V.int) ∧ ns.length ≤ 63 ∧
  ∀ (d l c : Addr) H', H d = none → H l = none → H c = none → Same H H' → Draw d l c H' → Q (.ref d) H'
section
variable {P : Program} {w : World} {K : PySem.W.Frag} {mg : Str → Option Value} {base : Heap}
theorem sz63 {n : Nat} (h : n ≤ 63) : n < sizeLine := Nat.lt_of_le_of_lt h (by decide)
theorem ok_law_begun {f : Addr} {fd : FuncData} (F : C8.Def K mg "_law_begun" s_law_begun f fd) (b : Binds K fd ["script"] []) (B : Bi mg) :
    C8.Cal P w K mg base 1 "_law_begun" (spBegun K) [] := by
  have sc := sc_law_begun
  refine C8.cal0 F b .nil sc (fun vs H Q E h => ?_) (fun cdv A outer s H vs Q E hr h => ?_)
  · obtain ⟨_, _, rfl, _⟩ := h
    rfl
  · obtain ⟨a, ns, rfl, hS, hlen, k⟩ := h
    refine ⟨_, pss_cons (ps_setLc (i := 1) (own := [("grain", 2)]) (g := gName 2) (by rfl) sc.nd rfl (by rfl) (sw_true rfl (by rfl) rfl (by decide +kernel)) (pi_list (pv 0)) (blkOk_by (by kernel_rfl)) (fun _ _ _ _ _ => (pg_name (i := 2) sc.nd rfl (by first | exact Or.inl rfl | exact Or.inr rfl))) (fun _ _ _ _ _ => pts_one (pt_cmpR op_ge (pe_callB call_abs (by rfl) B.abs (by decide +kernel) (pa_cons (pv 2) pa_nil)) (pe_op op_pow pe_int pe_int) (nomark _))) (fun _ _ _ _ _ => (pe_op op_sub (pe_callB call_abs (by rfl) B.abs (by decide +kernel) (pa_cons (pv 2) pa_nil)) (pe_op op_pow pe_int pe_int))))
      (pss_one (ps_ret (pe_disp (pps_cons pe_str (pv 1) (pps_cons pe_str pe_int (pps_cons pe_str (pe_lc (own := [("grain", 2)]) (g := gName 2) (tt := tYes) (by rfl) sc.nd (pi_list (pv 0)) (blkOk_by (by kernel_rfl)) (fun _ _ _ _ _ => (pg_name (i := 2) sc.nd rfl (by first | exact Or.inl rfl | exact Or.inr rfl))) (fun _ _ _ _ _ => pts_nil) (fun _ _ _ _ _ => (pe_callB call_abs (by rfl) B.abs (by decide +kernel) (pa_cons (pv 2) pa_nil)))) (pps_cons pe_str pe_int pps_nil)))) (by rfl) (by rfl) (fun z => by cases z) (by decide)))), ?_⟩
    refine ⟨_, rfl, a, rfl, ⟨_, hS⟩, fun l hl => ?_⟩
    refine lc_ints (xs := ns) (fun x => decide (10 ^ 18 ≤ if x < 0 then -x else x)) (fun x => (if x < 0 then -x else x) - 10 ^ 18) hS hl (sz63 hlen) ?_ ?_
    · intro x H1 Qy Qn hx s1 q1 q2
      refine ⟨rfl, _, rfl, _, rfl, _, _, rfl, rfl, ⟨by decide, by decide, by decide⟩, _, _, rfl, rfl, _, rfl, ?_⟩
      refine ite2 (fun hb => ?_) (fun hb => ?_)
      · exact ⟨_, rfl, _, rfl, _, _, rfl, rfl, ⟨by decide, by decide, by decide⟩, _, _, rfl, rfl, q1 hb⟩
      · exact q2 (by simpa using hb)
    · intro H1 s1 e1
      intro d hd
      have ld : l ≠ d := ne_of_none e1 hd
      have s2 : Same H1 (upd H1 d (.dK [])) := same_upd hd
      refine ⟨_, rfl, _, rfl, a, rfl, ⟨_, s2.seq (s1.seq hS)⟩, fun c hc => ?_⟩
      refine lc_ints (xs := ns) (fun _ => true) (fun x => if x < 0 then -x else x) (s2.seq (s1.seq hS)) hc (sz63 hlen) ?_ ?_
      · intro x H2 Qy Qn hx s3 q1 q2
        exact ⟨rfl, _, rfl, _, rfl, q1 rfl⟩
      · intro H2 s3 e3
        have n1 : H d = none := s1.free hd
        have n2 : H c = none := s1.free (s2.free hc)
        have cd : c ≠ d := fun z => by
          rw [z, upd_same] at hc
          cases hc
        have cl : c ≠ l := fun z => by
          rw [z, s2 _ _ e1] at hc
          cases hc
        refine ⟨s3 _ _ upd_same, drawK l c 0 0, rfl, (by show 4 ≤ 15; decide), ?_⟩
        obtain ⟨large, el⟩ : ∃ large : List Int, H1 l = some (.lst (large.map V.int)) := ⟨_, e1⟩
        obtain ⟨cells, ec⟩ : ∃ cells : List Int, H2 c = some (.lst (cells.map V.int)) := ⟨_, e3⟩
        refine k d l c _ n1 hl n2 (fun b o e => ?_) ⟨large, cells, 0, 0, by rw [upd_same]; rfl, ?_, ?_, cl⟩
        · rw [upd_ne (ne_of_none e n1)]
          exact s3 _ _ (s2 _ _ (s1 _ _ e))
        · rw [upd_ne ld]
          exact s3 _ _ (s2 _ _ el)
        · rw [upd_ne cd]
          exact ec
def spPick (K : Frag) : Sp := fun vs H Q _ => ∃ (d l c a : Addr) (xs : List V) (G : Hp), vs = [.ref d, .ref a] ∧ SqL K G a xs ∧ xs ≠ [] ∧ xs.length ≤ 1000000 ∧ Same G H ∧ G d = none ∧ G l = none ∧ Draw d l c H ∧
  ∀ (i : Nat) (v : V) H', xs[i]? = some v → Grow (Mdl d l) G H G H' → Draw d l c H' → Q v H'
theorem log2_small {n : Nat} (h : n ≤ 1000000) (h0 : 0 < n) : n.log2 < 9000 := by
  have := Nat.log2_lt (n := n) (k := 20) (by omega)
  have h2 : n < 2 ^ 20 := by omega
  have := this.mpr h2
  omega
theorem ok_law_pick {f : Addr} {fd : FuncData} (F : C8.Def K mg "_law_pick" s_law_pick f fd) (b : Binds K fd ["draw", "some"] []) (B : Bi mg) (c_law_take : C8.Cal P w K mg base 2 "_law_take" spTake []) :
    C8.Cal P w K mg base 3 "_law_pick" (spPick K) [] := by
  have sc := sc_law_pick
  refine C8.cal0 F b .nil sc (fun vs H Q E h => ?_) (fun cdv A outer s H vs Q E hr h => ?_)
  · obtain ⟨_, _, _, _, _, _, rfl, _⟩ := h
    rfl
  · obtain ⟨d, l, c, a, xs, G, rfl, hS, hne, hlen, hG, gd, gl, D, k⟩ := h
    refine ⟨_, pss_one (ps_ret (pe_ix ix_list (pv 1) (C8.pe_c c_law_take hr (by decide) rfl (pa_cons (pv 0) (pa_cons (pe_callB call_len_seq (by rfl) B.len (by decide +kernel) (pa_cons (pv 1) pa_nil)) pa_nil))) (fun _ _ => rfl))), ?_⟩
    have h0 : 0 < xs.length := List.length_pos_iff.mpr hne
    refine ⟨_, rfl, _, rfl, _, rfl, a, xs, rfl, .inl (hG.seq hS), d, l, c, (xs.length : Int), rfl, by omega, log2_small hlen h0, D, fun r H' r0 r1 k1 t1 D1 => ?_⟩
    have g1 : Same G H' := fun b o e => k1 b o (fun z => by
      rcases z with z | z
      · rw [z, gd] at e
        cases e
      · rw [z, gl] at e
        cases e) (hG b o e)
    have hi : r.toNat < xs.length := by omega
    have er : r = ((r.toNat : Nat) : Int) := by omega
    have hx : xs[r.toNat]? = some xs[r.toNat] := List.getElem?_eq_getElem hi
    refine ⟨a, xs, r, _, rfl, rfl, g1.seq hS, (congrArg (atI xs) er).trans (atI_nat hx), k r.toNat _ H' hx ⟨Same.refl _, g1, k1, t1, fun _ _ e => e⟩ D1⟩
end
end Fr

namespace Fw
open PySem PySem.Spec PyProof.Rows L2 Fr
inductive Da where
  | non | bl (b : Bool) | int (i : Int) | str (x : Str) | lst (xs : List Da) | tup (xs : List Da) | obj (n : Nat) (xs : List Da)
structure Ly where
  K : Frag
  Ob : Nat → Hp → V → List V → Prop
  mo : ∀ {n H H' v vs}, Same H H' → Ob n H v vs → Ob n H' v vs
mutual
inductive Dv (L : Ly) (H : Hp) : V → Da → Prop
  | non : Dv L H .non .non
  | bl (b : Bool) : Dv L H (.bl b) (.bl b)
  | int (i : Int) : Dv L H (.int i) (.int i)
  | str (x : Str) : Dv L H (.str x) (.str x)
  | lst {a : Addr} {xs : List V} {ds : List Da} : H a = some (.lst xs) → DvAll L H xs ds → Dv L H (.ref a) (.lst ds)
  | tup {a : Addr} {xs : List V} {ds : List Da} : SqT L.K H a xs → DvAll L H xs ds → Dv L H (.ref a) (.tup ds)
  | obj {n : Nat} {v : V} {xs : List V} {ds : List Da} : L.Ob n H v xs → DvAll L H xs ds → Dv L H v (.obj n ds)
inductive DvAll (L : Ly) (H : Hp) : List V → List Da → Prop
  | nil : DvAll L H [] []
  | cons {v : V} {vs : List V} {d : Da} {ds : List Da} : Dv L H v d → DvAll L H vs ds → DvAll L H (v :: vs) (d :: ds)
end
mutual
theorem dv_same {L : Ly} {H H' : Hp} (e : Same H H') : ∀ {v : V} {d : Da}, Dv L H v d → Dv L H' v d
  | _, _, .non => .non
  | _, _, .bl b => .bl b
  | _, _, .int i => .int i
  | _, _, .str x => .str x
  | _, _, .lst h t => .lst (e _ _ h) (dvs_same e t)
  | _, _, .tup h t => .tup (same_sqt e h) (dvs_same e t)
  | _, _, .obj h t => .obj (L.mo e h) (dvs_same e t)
theorem dvs_same {L : Ly} {H H' : Hp} (e : Same H H') : ∀ {vs : List V} {ds : List Da}, DvAll L H vs ds → DvAll L H' vs ds
  | _, _, .nil => .nil
  | _, _, .cons h t => .cons (dv_same e h) (dvs_same e t)
end
theorem dvs_len {L : Ly} {H : Hp} : ∀ {vs : List V} {ds : List Da}, DvAll L H vs ds → vs.length = ds.length
  | _, _, .nil => rfl
  | _, _, .cons h t => by simp [dvs_len t]
theorem dvs_app {L : Ly} {H : Hp} : ∀ {vs ws : List V} {ds es : List Da}, DvAll L H vs ds → DvAll L H ws es → DvAll L H (vs ++ ws) (ds ++ es)
  | _, _, _, _, .nil, s => s
  | _, _, _, _, .cons h t, s => .cons h (dvs_app t s)
theorem dvs_get {L : Ly} {H : Hp} : ∀ {vs : List V} {ds : List Da} {i : Nat} {v : V}, DvAll L H vs ds → vs[i]? = some v → ∃ d, ds[i]? = some d ∧ Dv L H v d
  | _, _, i, _, .nil, e => by simp at e
  | _, _, 0, _, .cons h t, e => by
    simp at e
    subst e
    exact ⟨_, rfl, h⟩
  | _, _, i + 1, _, .cons h t, e => by
    obtain ⟨d, h1, h2⟩ := dvs_get (i := i) t (by simpa using e)
    exact ⟨d, by simpa using h1, h2⟩
theorem dvs_at {L : Ly} {H : Hp} : ∀ {vs : List V} {ds : List Da} {i : Nat} {d : Da}, DvAll L H vs ds → ds[i]? = some d → ∃ v, vs[i]? = some v ∧ Dv L H v d
  | _, _, i, _, .nil, e => by simp at e
  | _, _, 0, _, .cons h t, e => by
    simp at e
    subst e
    exact ⟨_, rfl, h⟩
  | _, _, i + 1, _, .cons h t, e => by
    obtain ⟨d, h1, h2⟩ := dvs_at (i := i) t (by simpa using e)
    exact ⟨d, by simpa using h1, h2⟩
theorem dvs_set {L : Ly} {H : Hp} : ∀ {vs : List V} {ds : List Da} (i : Nat) {v : V} {d : Da}, DvAll L H vs ds → Dv L H v d → DvAll L H (vs.set i v) (ds.set i d)
  | _, _, _, _, _, .nil, _ => .nil
  | _, _, 0, _, _, .cons h t, e => .cons e t
  | _, _, i + 1, _, _, .cons h t, e => .cons h (dvs_set i t e)
theorem dvs_erase {L : Ly} {H : Hp} : ∀ {vs : List V} {ds : List Da} (i : Nat), DvAll L H vs ds → DvAll L H (vs.eraseIdx i) (ds.eraseIdx i)
  | _, _, _, .nil => .nil
  | _, _, 0, .cons h t => t
  | _, _, i + 1, .cons h t => .cons h (dvs_erase i t)
theorem dvs_drop {L : Ly} {H : Hp} : ∀ {vs : List V} {ds : List Da} (i : Nat), DvAll L H vs ds → DvAll L H (vs.drop i) (ds.drop i)
  | _, _, _, .nil => by simpa using DvAll.nil
  | _, _, 0, h => h
  | _, _, i + 1, .cons h t => dvs_drop i t
theorem dvs_take {L : Ly} {H : Hp} : ∀ {vs : List V} {ds : List Da} (i : Nat), DvAll L H vs ds → DvAll L H (vs.take i) (ds.take i)
  | _, _, _, .nil => by simpa using DvAll.nil
  | _, _, 0, h => by simpa using DvAll.nil
  | _, _, i + 1, .cons h t => .cons h (dvs_take i t)
theorem draw_trk {d l c : Addr} {H : Hp} (D : Draw d l c H) : H d ≠ none ∧ H l ≠ none ∧ H c ≠ none := by
  obtain ⟨_, _, _, _, D⟩ := D
  exact ⟨by rw [D.hd]; simp, by rw [D.hl]; simp, by rw [D.hc]; simp⟩
theorem draw_same {d l c : Addr} {H H' : Hp} (D : Draw d l c H) (s : Same H H') : Draw d l c H' := by
  obtain ⟨a, b, e, f, D⟩ := D
  exact ⟨a, b, e, f, s _ _ D.hd, s _ _ D.hl, s _ _ D.hc, D.ne⟩
structure OwnR where
  f : Ly → Hp → HO → Prop
  mo : ∀ {L : Ly} {G G' : Hp} {o : HO}, Same G G' → f L G o → f L G' o
inductive Gy where
  | two (qs : List (Addr × List Da))
  | any (R : OwnR)
instance : Coe (List (Addr × List Da)) Gy := ⟨Gy.two⟩
def Gy.as : Gy → List Addr
  | .two qs => qs.map Prod.fst
  | .any _ => []
inductive Sl where
  | dat (d : Da)
  /-- a list that may still change, at p -/
  | gro (p : Addr) (ds : List Da)
  /-- the state of the draws -/
  | drw (d l c : Addr)
  /-- a list, at p, of lists that may still change, or another thing -/
  | gr2 (p : Addr) (qs : Gy)
  /-- no slot of the def: it tells the tables that stand around -/
  | tab (T : List (Addr × Str))
def Sl.isTab : Sl → Bool
  | .tab _ => true
  | _ => false
abbrev En := List (Option Sl)
def slA : Option Sl → List Addr
  | some (.gro p _) => [p]
  | some (.drw d l c) => [d, l, c]
  | some (.gr2 p y) => p :: y.as
  | _ => []
def own (ρ : En) : List Addr := ρ.flatMap slA
def Gy.Ok (L : Ly) (G H : Hp) (p : Addr) : Gy → Prop
  | .two qs => H p = some (.lst (qs.map fun q => V.ref q.1)) ∧ ∀ q ∈ qs, G q.1 = none ∧ ∃ vs, H q.1 = some (.lst vs) ∧ DvAll L G vs q.2
  | .any R => ∃ o, H p = some o ∧ R.f L G o
def RepS (L : Ly) (G H : Hp) : Option V → Option Sl → Prop
  | _, none => True
  | some v, some (.dat d) => Dv L G v d
  | some v, some (.gro p ds) => v = .ref p ∧ G p = none ∧ ∃ vs, H p = some (.lst vs) ∧ DvAll L G vs ds
  | some v, some (.drw d l c) => v = .ref d ∧ G d = none ∧ G l = none ∧ Draw d l c H
  | some v, some (.gr2 p qs) => v = .ref p ∧ G p = none ∧ qs.Ok L G H p
  | none, some t => t.isTab = true
  | some _, some (.tab _) => False
theorem reps_none {L : Ly} {G H : Hp} {t : Sl} (h : RepS L G H none (some t)) (n : t.isTab = false := by rfl) : False := by
  have h' : t.isTab = true := by cases t <;> exact h
  rw [n] at h'
  cases h'
structure Bs where
  M : Addr → Prop
  G0 : Hp
  H0 : Hp
  ks : List (Addr × HO)
  /-- tables of code objects, with the names of what they tell -/
  T : List (Addr × Str)
def TabG (G H : Hp) (P : Addr) (q : Str) : Prop := ∃ ps : Array Value, H P = some (.tbl ps) ∧ TriplesOk ps.toList ∧ ∀ (pos : Pos) (cv : Value), codeAmong pos ps.toList = some cv → ∃ c, cv = .ref c ∧ G c = some (LamX.CodeO c q)
theorem TabG.go {G H G' H' : Hp} {P : Addr} {q : Str} (t : TabG G H P q) (s : Same G G') (e : ∀ o, H P = some o → H' P = some o) : TabG G' H' P q := by
  obtain ⟨ps, h1, h2, h3⟩ := t
  refine ⟨ps, e _ h1, h2, fun pos cv hc => ?_⟩
  obtain ⟨c, e1, e2⟩ := h3 pos cv hc
  exact ⟨c, e1, s _ _ e2⟩
theorem TabG.tk {G H : Hp} {P : Addr} {q : Str} (t : TabG G H P q) : H P ≠ none := by
  obtain ⟨ps, h1, _⟩ := t
  rw [h1]
  simp
def TabsG (T : List (Addr × Str)) (G H : Hp) : Prop := ∀ p ∈ T, TabG G H p.1 p.2
theorem TabsG.go {T : List (Addr × Str)} {G H G' H' : Hp} (t : TabsG T G H) (s : Same G G') (e : Same H H') : TabsG T G' H' := fun p hp => (t p hp).go s fun o h => e _ _ h
structure Rep (L : Ly) (B : Bs) (G H : Hp) (σ : L2.St) (ρ : En) : Prop where
  gr : Grow B.M B.G0 B.H0 G H
  mh : ∀ b, B.M b → B.H0 b ≠ none ∧ B.G0 b = none
  env : Paired (RepS L G H) σ ρ
  nd : (own ρ).Nodup
  fm : ∀ p ds, some (Sl.gro p ds) ∈ ρ → B.H0 p = none
  fd : ∀ d l c, some (Sl.drw d l c) ∈ ρ → B.M d ∧ B.M l
  f2 : ∀ p qs, some (Sl.gr2 p qs) ∈ ρ → ∀ b ∈ slA (some (Sl.gr2 p qs)), B.H0 b = none := by
    intro p qs hm
    simp at hm
  ks : ∀ q ∈ B.ks, H q.1 = some q.2 ∧ G q.1 = none ∧ ¬ B.M q.1 ∧ q.1 ∉ own ρ
  tb : TabsG B.T G H
  tg : ∀ p ∈ B.T, G p.1 = none ∧ p.1 ∉ own ρ ∧ ∀ q ∈ B.ks, q.1 ≠ p.1
  mt : ∀ p ∈ B.T, B.M p.1
  ft : ∀ T, some (Sl.tab T) ∈ ρ → T = B.T
section
variable {L : Ly} {B : Bs} {G H G' H' : Hp} {σ : L2.St} {ρ : En}
theorem Rep.gh (r : Rep L B G H σ ρ) : Same G H := r.gr.gh
theorem RepS.grow {s : Option V} {t : Option Sl} (h : RepS L G H s t) (g : Same G G') (hm : ∀ p ds, t = some (.gro p ds) → H' p = H p ∧ G' p = none) (hd : ∀ d l c, t = some (.drw d l c) → G' d = none ∧ G' l = none ∧ Draw d l c H') (h2 : ∀ p qs, t = some (.gr2 p qs) → ∀ b ∈ slA (some (Sl.gr2 p qs)), H' b = H b ∧ G' b = none) : RepS L G' H' s t := by
  cases t with
  | none => cases s <;> trivial
  | some t =>
    cases s with
    | none =>
      cases t with
      | tab T => rfl
      | _ => cases h
    | some v =>
      cases t with
      | tab T => exact h
      | dat d => exact dv_same g h
      | gro p ds =>
        obtain ⟨e, _, vs, h1, h2⟩ := h
        obtain ⟨e1, e2⟩ := hm p ds rfl
        exact ⟨e, e2, vs, e1.trans h1, dvs_same g h2⟩
      | drw d l c =>
        obtain ⟨e, _⟩ := h
        obtain ⟨h1, h2, h3⟩ := hd d l c rfl
        exact ⟨e, h1, h2, h3⟩
      | gr2 p y =>
        cases y with
        | any R =>
          obtain ⟨e, _, o, h3, h4⟩ := h
          have k := h2 p _ rfl p List.mem_cons_self
          exact ⟨e, k.2, o, k.1.trans h3, R.mo g h4⟩
        | two qs =>
        obtain ⟨e, _, h3, h4⟩ := h
        have k := h2 p qs rfl
        refine ⟨e, (k p List.mem_cons_self).2, (k p List.mem_cons_self).1.trans h3, fun q hq => ?_⟩
        obtain ⟨_, vs, h5, h6⟩ := h4 q hq
        have kq := k q.1 (List.mem_cons_of_mem _ (List.mem_map.mpr ⟨q, hq, rfl⟩))
        exact ⟨kq.2, vs, kq.1.trans h5, dvs_same g h6⟩
theorem paired_imp {α β : Type} {F F' : α → β → Prop} : ∀ {l : List α} {m : List β}, Paired F l m → (∀ a b, b ∈ m → F a b → F' a b) → Paired F' l m
  | _, _, .nil, _ => .nil
  | _, _, .cons h t, f => .cons (f _ _ List.mem_cons_self h) (paired_imp t fun a b m => f a b (List.mem_cons_of_mem _ m))
theorem paired_get {α β : Type} {F : α → β → Prop} : ∀ {l : List α} {m : List β} {i : Nat} {b : β}, Paired F l m → m[i]? = some b → ∃ a, l[i]? = some a ∧ F a b
  | _, _, _, _, .nil, e => by simp at e
  | _, _, 0, _, .cons h t, e => by
    simp at e
    subst e
    exact ⟨_, rfl, h⟩
  | _, _, i + 1, _, .cons h t, e => by
    obtain ⟨d, h1, h2⟩ := paired_get (i := i) t (by simpa using e)
    exact ⟨d, by simpa using h1, h2⟩
theorem paired_set {α β : Type} {F : α → β → Prop} {a : α} {b : β} (h : F a b) : ∀ {l : List α} {m : List β} (i : Nat), Paired F l m → Paired F (l.set i a) (m.set i b)
  | _, _, _, .nil => .nil
  | _, _, 0, .cons _ t => .cons h t
  | _, _, i + 1, .cons g t => .cons g (paired_set h i t)
theorem own_mem {p : Addr} {s : Option Sl} (h : s ∈ ρ) (hp : p ∈ slA s) : p ∈ own ρ := List.mem_flatMap.mpr ⟨s, h, hp⟩
theorem RepS.own {s : Option V} {t : Option Sl} (h : RepS L G H s t) : ∀ p ∈ slA t, H p ≠ none := by
  intro p hp
  cases t with
  | none => cases hp
  | some t =>
    cases s with
    | none =>
      cases t with
      | tab T => cases hp
      | _ => cases h
    | some v =>
      cases t with
      | tab T => cases hp
      | dat d => cases hp
      | gro q ds =>
        obtain ⟨_, _, vs, h1, _⟩ := h
        simp [slA] at hp
        rw [hp, h1]
        simp
      | drw d l c =>
        obtain ⟨_, _, _, _, _, _, _, D⟩ := h
        simp [slA] at hp
        rcases hp with e | e | e
        · rw [e, D.hd]; simp
        · rw [e, D.hl]; simp
        · rw [e, D.hc]; simp
      | gr2 p' y =>
        cases y with
        | any R =>
          obtain ⟨_, _, o, h3, _⟩ := h
          rcases List.mem_cons.mp hp with e | e
          · rw [e, h3]; simp
          · cases e
        | two qs =>
        obtain ⟨_, _, h3, h4⟩ := h
        rcases List.mem_cons.mp hp with e | e
        · rw [e, h3]; simp
        · obtain ⟨q, hq, rfl⟩ := List.mem_map.mp e
          obtain ⟨_, vs, h5, _⟩ := h4 q hq
          rw [h5]; simp
theorem RepS.g2 {s : Option V} {p : Addr} {qs : Gy} (h : RepS L G H s (some (.gr2 p qs))) : ∀ b ∈ slA (some (Sl.gr2 p qs)), G b = none := by
  intro b hb
  cases s with
  | none => cases h
  | some v =>
    cases qs with
    | any R =>
      obtain ⟨_, h1, _⟩ := h
      rcases List.mem_cons.mp hb with e | e
      · rw [e]; exact h1
      · cases e
    | two qs =>
    obtain ⟨_, h1, _, h4⟩ := h
    rcases List.mem_cons.mp hb with e | e
    · rw [e]; exact h1
    · obtain ⟨q, hq, rfl⟩ := List.mem_map.mp e
      exact (h4 q hq).1
theorem paired_mem {α β : Type} {F : α → β → Prop} : ∀ {l : List α} {m : List β} {b : β}, Paired F l m → b ∈ m → ∃ a ∈ l, F a b
  | _, _, _, .nil, h => by cases h
  | _, _, _, .cons h t, hb => by
    rcases List.mem_cons.mp hb with e | hb
    · exact ⟨_, List.mem_cons_self, by rw [e]; exact h⟩
    · obtain ⟨a, h1, h2⟩ := paired_mem t hb
      exact ⟨a, List.mem_cons_of_mem _ h1, h2⟩
theorem Rep.own (r : Rep L B G H σ ρ) : ∀ p ∈ own ρ, H p ≠ none := by
  intro p hp
  obtain ⟨s, hs, hp⟩ := List.mem_flatMap.mp hp
  obtain ⟨v, _, h⟩ := paired_mem r.env hs
  exact h.own p hp
theorem Rep.step (r : Rep L B G H σ ρ) (g : Grow B.M G H G' H') (hd : ∀ d l c, some (Sl.drw d l c) ∈ ρ → Draw d l c H') (ht : TabsG B.T G' H') : Rep L B G' H' σ ρ where
  gr := r.gr.trans g
  mh := r.mh
  env := paired_imp r.env fun a b hb h => h.grow g.gg (fun p ds e => by
    subst e
    have hn := r.fm p ds hb
    have hM : ¬ B.M p := fun z => (r.mh p z).1 hn
    cases a with
    | none => exact (reps_none h).elim
    | some v =>
      obtain ⟨_, hG, vs, h1, _⟩ := h
      exact ⟨(g.hh p _ hM h1).trans h1.symm, g.nw p (by rw [h1]; simp) hG⟩) (fun d l c e => by
    subst e
    cases a with
    | none => exact (reps_none h).elim
    | some v =>
      obtain ⟨_, h1, h2, D⟩ := h
      obtain ⟨t1, t2, _⟩ := draw_trk D
      exact ⟨g.nw d t1 h1, g.nw l t2 h2, hd d l c hb⟩) (fun p qs e b hb2 => by
    subst e
    have hn := r.f2 p qs hb b hb2
    have hM : ¬ B.M b := fun z => (r.mh b z).1 hn
    cases a with
    | none => exact (reps_none h).elim
    | some v =>
      cases qs with
      | any R =>
        obtain ⟨_, hG, o, h3, _⟩ := h
        rcases List.mem_cons.mp hb2 with e | e
        · rw [e] at hM ⊢
          exact ⟨(g.hh p _ hM h3).trans h3.symm, g.nw p (by rw [h3]; simp) hG⟩
        · cases e
      | two qs =>
      obtain ⟨_, hG, h3, h4⟩ := h
      rcases List.mem_cons.mp hb2 with e | e
      · rw [e] at hM ⊢
        exact ⟨(g.hh p _ hM h3).trans h3.symm, g.nw p (by rw [h3]; simp) hG⟩
      · obtain ⟨q, hq, rfl⟩ := List.mem_map.mp e
        obtain ⟨h5, vs, h6, _⟩ := h4 q hq
        exact ⟨(g.hh q.1 _ hM h6).trans h6.symm, g.nw q.1 (by rw [h6]; simp) h5⟩)
  nd := r.nd
  fm := r.fm
  f2 := r.f2
  fd := r.fd
  ks := fun q hq => by
    obtain ⟨h1, h2, h3, h4⟩ := r.ks q hq
    exact ⟨g.hh _ _ h3 h1, g.nw _ (by rw [h1]; simp) h2, h3, h4⟩
  tb := ht
  tg := fun p hp => ⟨g.nw _ (r.tb p hp).tk (r.tg p hp).1, (r.tg p hp).2⟩
  mt := r.mt
  ft := r.ft
theorem Rep.lay (r : Rep L B G H σ ρ) {p : Addr} {o : HO} (n : H p = none) : Rep L B (upd G p o) (upd H p o) σ ρ :=
  r.step (Grow.lay r.gh n) (fun d l c h => by
    obtain ⟨v, _, hv⟩ := paired_mem r.env h
    cases v with
    | none => exact (reps_none hv).elim
    | some v => exact draw_same hv.2.2.2 (same_upd n)) (r.tb.go (same_upd (r.gh.free n)) (same_upd n))
end
end Fw

namespace Fw
open PySem PySem.Spec PyProof.Rows L2 Fr
structure Px where
  f : En → (Da → En → Prop) → Prop
  mono : ∀ {ρ : En} {k k' : Da → En → Prop}, (∀ d ρ', k d ρ' → k' d ρ') → f ρ k → f ρ k'
structure Pt where
  f : En → (Bool → En → Prop) → Prop
  mono : ∀ {ρ : En} {k k' : Bool → En → Prop}, (∀ d ρ', k d ρ' → k' d ρ') → f ρ k → f ρ k'
structure Pl where
  f : En → (List Da → En → Prop) → Prop
  mono : ∀ {ρ : En} {k k' : List Da → En → Prop}, (∀ d ρ', k d ρ' → k' d ρ') → f ρ k → f ρ k'
def tW (L : Ly) (g : Px) : TE := fun σ H Q => ∃ B G ρ, Rep L B G H σ ρ ∧ g.f ρ fun d ρ' => ∀ v G' H', Rep L B G' H' σ ρ' → Same G G' → Dv L G' v d → Q v H'
def tWT (L : Ly) (g : Pt) : TT := fun σ H Q => ∃ B G ρ, Rep L B G H σ ρ ∧ g.f ρ fun b ρ' => ∀ G' H', Rep L B G' H' σ ρ' → Same G G' → Q b H'
def tWA (L : Ly) (g : Pl) : TA := fun σ H Q => ∃ B G ρ, Rep L B G H σ ρ ∧ g.f ρ fun ds ρ' => ∀ vs G' H', Rep L B G' H' σ ρ' → Same G G' → DvAll L G' vs ds → Q vs H'
section
variable {X : Cx} {L : Ly} {e a b : Expr} {es : List Expr} {pos : Pos}
theorem PE.imp {t t' : TE} (p : PE X e t) (h : ∀ σ H Q, t' σ H Q → t σ H Q) : PE X e t' := ⟨fun pins s σ H Q I q => p.run pins s σ H Q I (h _ _ _ q)⟩
theorem PT.imp {t t' : TT} (p : PT X e t) (h : ∀ σ H Q, t' σ H Q → t σ H Q) : PT X e t' := ⟨fun pins s σ H Q I q => p.run pins s σ H Q I (h _ _ _ q)⟩
theorem PA.imp {t t' : TA} (p : PA X es t) (h : ∀ σ H Q, t' σ H Q → t σ H Q) : PA X es t' := ⟨fun pos pins s σ H Q I q => p.run pos pins s σ H Q I (h _ _ _ q)⟩
def pC (d : Da) : Px := ⟨fun ρ k => k d ρ, fun h => h _ _⟩
theorem tW_C {v : V} {d : Da} (hv : ∀ G, Dv L G v d) (p : PE X e (tC v)) : PE X e (tW L (pC d)) := PE.imp p fun σ H Q ⟨B, G, ρ, r, h⟩ => h v G H r (Same.refl _) (hv G)
theorem w_int {n : Int} {kd : Nat} (p : PE X e (tC (.int n))) : PE X e (tW L (pC (.int n))) := tW_C (fun _ => .int n) p
theorem w_bl {b : Bool} (p : PE X e (tC (.bl b))) : PE X e (tW L (pC (.bl b))) := tW_C (fun _ => .bl b) p
theorem w_str {x : Str} (p : PE X e (tC (.str x))) : PE X e (tW L (pC (.str x))) := tW_C (fun _ => .str x) p
theorem w_non (p : PE X e (tC .non)) : PE X e (tW L (pC .non)) := tW_C (fun _ => .non) p
def pV (i : Nat) : Px := ⟨fun ρ k => ∃ d, ρ[i]? = some (some (.dat d)) ∧ k d ρ, fun h ⟨d, e, q⟩ => ⟨d, e, h _ _ q⟩⟩
theorem w_v {i : Nat} (p : PE X e (tVar i)) : PE X e (tW L (pV i)) := PE.imp p fun σ H Q ⟨B, G, ρ, r, d, hi, h⟩ => by
  obtain ⟨s, hs, hr⟩ := paired_get r.env hi
  cases s with
  | none => exact (reps_none hr).elim
  | some v => exact ⟨v, hs, h v G H r (Same.refl _) hr⟩
structure R2p where
  f : Da → Da → (Da → Prop) → Prop
  mono : ∀ {x y : Da} {k k' : Da → Prop}, (∀ d, k d → k' d) → f x y k → f x y k'
def Snd2 (L : Ly) (R : R2) (r : R2p) : Prop := ∀ {B : Bs} {G H : Hp} {σ : L2.St} {ρ : En} {v u : V} {x y : Da} {Q : VK}, Rep L B G H σ ρ → Dv L G v x → Dv L G u y →
  r.f x y (fun z => ∀ w G' H', Rep L B G' H' σ ρ → Same G G' → Dv L G' w z → Q w H') → R v u H Q
def p2 (ga gb : Px) (r : R2p) : Px := ⟨fun ρ k => ga.f ρ fun x ρ1 => gb.f ρ1 fun y ρ2 => r.f x y fun z => k z ρ2, fun h => ga.mono fun _ _ => gb.mono fun _ _ => r.mono fun _ => h _ _⟩
theorem tW_tOp {R : R2} {r : R2p} {ga gb : Px} (hs : Snd2 L R r) : ∀ σ H Q, tW L (p2 ga gb r) σ H Q → tOp R (tW L ga) (tW L gb) σ H Q := fun σ H Q ⟨B, G, ρ, r0, h⟩ =>
  ⟨B, G, ρ, r0, ga.mono (fun x ρ1 h1 v G1 H1 r1 s1 d1 => ⟨B, G1, ρ1, r1, gb.mono (fun y ρ2 h2 u G2 H2 r2 s2 d2 => hs r2 (dv_same s2 d1) d2 (r.mono (fun z h3 w G3 H3 r3 s3 d3 => h3 w G3 H3 r3 (s1.trans (s2.trans s3)) d3) h2)) h1⟩) h⟩
theorem w_tOp {R : R2} {r : R2p} {ga gb : Px} (hs : Snd2 L R r) (p : PE X e (tOp R (tW L ga) (tW L gb))) : PE X e (tW L (p2 ga gb r)) := PE.imp p (tW_tOp hs)
theorem w_op {op : Operator} {R : R2} {r : R2p} {ga gb : Px} (ho : OpR X (binaryOp op) R) (hs : Snd2 L R r) (ha : PE X a (tW L ga)) (hb : PE X b (tW L gb)) : PE X (.BinOp a op b pos) (tW L (p2 ga gb r)) := w_tOp hs (pe_op ho ha hb)
theorem w_cmp {op : CmpOp} {R : R2} {r : R2p} {ga gb : Px} (ho : OpR X (compareOp op) R) (hs : Snd2 L R r) (ha : PE X a (tW L ga)) (hb : PE X b (tW L gb)) (hm : behindInMarks op b = false) : PE X (.Compare a [op] [b] pos) (tW L (p2 ga gb r)) :=
  w_tOp hs (pe_cmpR ho ha hb hm)
theorem w_ix {R : R2} {r : R2p} {ga gb : Px} (ho : IxR X R) (hs : Snd2 L R r) (ha : PE X a (tW L ga)) (hb : PE X b (tW L gb)) (hp : PlainIx b) : PE X (.Subscript a b pos) (tW L (p2 ga gb r)) := w_tOp hs (pe_ix ho ha hb hp)
def pN : Pl := ⟨fun ρ k => k [] ρ, fun h => h _ _⟩
def pK (g : Px) (gs : Pl) : Pl := ⟨fun ρ k => g.f ρ fun d ρ1 => gs.f ρ1 fun ds ρ2 => k (d :: ds) ρ2, fun h => g.mono fun _ _ => gs.mono fun _ _ => h _ _⟩
theorem w_nil : PA X [] (tWA L pN) := PA.imp pa_nil fun σ H Q ⟨B, G, ρ, r, h⟩ => h [] G H r (Same.refl _) .nil
theorem w_cons {g : Px} {gs : Pl} (ha : PE X e (tW L g)) (hr : PA X es (tWA L gs)) (hs : starEach (e :: es) X.env = (false, eval e X.env) :: starEach es X.env := by rfl) : PA X (e :: es) (tWA L (pK g gs)) :=
  PA.imp (pa_cons ha hr hs) fun σ H Q ⟨B, G, ρ, r0, h⟩ =>
    ⟨B, G, ρ, r0, g.mono (fun x ρ1 h1 v G1 H1 r1 s1 d1 => ⟨B, G1, ρ1, r1, gs.mono (fun ds ρ2 h2 vs G2 H2 r2 s2 d2 => h2 (v :: vs) G2 H2 r2 (s1.trans s2) (.cons (dv_same s2 d1) d2)) h1⟩) h⟩
def pTup (g : Pl) : Px := ⟨fun ρ k => g.f ρ fun ds ρ1 => ds.length ≤ sizeLine ∧ k (.tup ds) ρ1, fun h => g.mono fun _ _ z => ⟨z.1, h _ _ z.2⟩⟩
def pLst (g : Pl) : Px := ⟨fun ρ k => g.f ρ fun ds ρ1 => ds.length ≤ sizeLine ∧ k (.lst ds) ρ1, fun h => g.mono fun _ _ z => ⟨z.1, h _ _ z.2⟩⟩
theorem w_tup {g : Pl} {x1} (h : PA X es (tWA L g)) : PE X (.Tuple es x1 pos) (tW L (pTup g)) := PE.imp (pe_tup h) fun σ H Q ⟨B, G, ρ, r, q⟩ =>
  ⟨B, G, ρ, r, g.mono (fun ds ρ1 h1 vs G1 H1 r1 s1 d1 => ⟨by rw [dvs_len d1]; exact h1.1, fun p hp => h1.2 (.ref p) _ _ (r1.lay hp) (s1.trans (same_upd (r1.gh.free hp))) (.tup (.inl (.inl upd_same)) (dvs_same (same_upd (r1.gh.free hp)) d1))⟩) q⟩
theorem w_lst {g : Pl} (h : PA X es (tWA L g)) : PE X (.List es pos) (tW L (pLst g)) := PE.imp (pe_lst h) fun σ H Q ⟨B, G, ρ, r, q⟩ =>
  ⟨B, G, ρ, r, g.mono (fun ds ρ1 h1 vs G1 H1 r1 s1 d1 => ⟨by rw [dvs_len d1]; exact h1.1, fun p hp => h1.2 (.ref p) _ _ (r1.lay hp) (s1.trans (same_upd (r1.gh.free hp))) (.lst upd_same (dvs_same (same_upd (r1.gh.free hp)) d1))⟩) q⟩
def pB (g : Px) : Pt := ⟨fun ρ k => g.f ρ fun d ρ1 => ∃ b, d = .bl b ∧ k b ρ1, fun h => g.mono fun _ _ ⟨b, e, q⟩ => ⟨b, e, h _ _ q⟩⟩
theorem w_val {g : Px} (h : PT X e (tB (tW L g))) : PT X e (tWT L (pB g)) := PT.imp h fun σ H Q ⟨B, G, ρ, r, q⟩ =>
  ⟨B, G, ρ, r, g.mono (fun d ρ1 ⟨b, e, h1⟩ v G1 H1 r1 s1 d1 => by subst e; cases d1; exact ⟨b, rfl, h1 G1 H1 r1 s1⟩) q⟩
theorem w_cmpT {op : CmpOp} {R : R2} {r : R2p} {ga gb : Px} (ho : OpR X (compareOp op) R) (hs : Snd2 L R r) (ha : PE X a (tW L ga)) (hb : PE X b (tW L gb)) (hm : behindInMarks op b = false) : PT X (.Compare a [op] [b] pos) (tWT L (pB (p2 ga gb r))) :=
  PT.imp (pt_cmpR ho ha hb hm) fun σ H Q ⟨B, G, ρ, r0, q⟩ => tW_tOp hs σ H _ ⟨B, G, ρ, r0, (p2 ga gb r).mono (fun d ρ1 ⟨b, e, h1⟩ v G1 H1 r1 s1 d1 => by subst e; cases d1; exact ⟨b, rfl, h1 G1 H1 r1 s1⟩) q⟩
def pNot (g : Pt) : Pt := ⟨fun ρ k => g.f ρ fun b ρ1 => k (!b) ρ1, fun h => g.mono fun _ _ => h _ _⟩
def pAnd (g g' : Pt) : Pt := ⟨fun ρ k => g.f ρ fun b ρ1 => if b = true then g'.f ρ1 k else k false ρ1, fun h => g.mono fun b _ z => by
  by_cases hb : b = true
  · rw [if_pos hb] at z ⊢
    exact g'.mono h z
  · rw [if_neg hb] at z ⊢
    exact h _ _ z⟩
def pOr (g g' : Pt) : Pt := ⟨fun ρ k => g.f ρ fun b ρ1 => if b = true then k true ρ1 else g'.f ρ1 k, fun h => g.mono fun b _ z => by
  by_cases hb : b = true
  · rw [if_pos hb] at z ⊢
    exact h _ _ z
  · rw [if_neg hb] at z ⊢
    exact g'.mono h z⟩
theorem tWT_and {g g' : Pt} : ∀ σ H Q, tWT L (pAnd g g') σ H Q → tAnd (tWT L g) (tWT L g') σ H Q := fun σ H Q ⟨B, G, ρ, r, q⟩ =>
  ⟨B, G, ρ, r, g.mono (fun b ρ1 h1 G1 H1 r1 s1 => by
    show if b = true then _ else _
    by_cases hb : b = true
    · rw [if_pos hb] at h1 ⊢
      exact ⟨B, G1, ρ1, r1, g'.mono (fun c ρ2 h2 G2 H2 r2 s2 => h2 G2 H2 r2 (s1.trans s2)) h1⟩
    · rw [if_neg hb] at h1 ⊢
      exact h1 G1 H1 r1 s1) q⟩
theorem tWT_or {g g' : Pt} : ∀ σ H Q, tWT L (pOr g g') σ H Q → tOr (tWT L g) (tWT L g') σ H Q := fun σ H Q ⟨B, G, ρ, r, q⟩ =>
  ⟨B, G, ρ, r, g.mono (fun b ρ1 h1 G1 H1 r1 s1 => by
    show if b = true then _ else _
    by_cases hb : b = true
    · rw [if_pos hb] at h1 ⊢
      exact h1 G1 H1 r1 s1
    · rw [if_neg hb] at h1 ⊢
      exact ⟨B, G1, ρ1, r1, g'.mono (fun c ρ2 h2 G2 H2 r2 s2 => h2 G2 H2 r2 (s1.trans s2)) h1⟩) q⟩
theorem PW.imp {t t' : TT} (p : PW X e t) (h : ∀ σ H Q, t' σ H Q → t σ H Q) : PW X e t' := ⟨fun w pins s σ H Q I q => p.run w pins s σ H Q I (h _ _ _ q)⟩
def pIf (c : Pt) (ga gb : Px) : Px := ⟨fun ρ k => c.f ρ fun b ρ1 => if b = true then ga.f ρ1 k else gb.f ρ1 k, fun h => c.mono fun b _ z => by
  by_cases hb : b = true
  · rw [if_pos hb] at z ⊢
    exact ga.mono h z
  · rw [if_neg hb] at z ⊢
    exact gb.mono h z⟩
theorem w_ifExp {c : Expr} {gc : Pt} {ga gb : Px} (hc : PT X c (tWT L gc)) (ha : PE X a (tW L ga)) (hb : PE X b (tW L gb)) : PE X (.IfExp c a b pos) (tW L (pIf gc ga gb)) := PE.imp (pe_ifExp hc ha hb) fun σ H Q ⟨B, G, ρ, r, q⟩ =>
  ⟨B, G, ρ, r, gc.mono (fun b ρ1 h1 G1 H1 r1 s1 => by
    show if b = true then _ else _
    by_cases hb : b = true
    · rw [if_pos hb] at h1 ⊢
      exact ⟨B, G1, ρ1, r1, ga.mono (fun x ρ2 h2 v G2 H2 r2 s2 d2 => h2 v G2 H2 r2 (s1.trans s2) d2) h1⟩
    · rw [if_neg hb] at h1 ⊢
      exact ⟨B, G1, ρ1, r1, gb.mono (fun x ρ2 h2 v G2 H2 r2 s2 d2 => h2 v G2 H2 r2 (s1.trans s2) d2) h1⟩) q⟩
end
end Fw

namespace Fw
open PySem PySem.Spec PyProof.Rows L2 Fr
section
variable {L : Ly}
def r2I (C : Int → Int → Prop) (g : Int → Int → Da) : R2p := ⟨fun x y k => ∃ i j, x = .int i ∧ y = .int j ∧ C i j ∧ k (g i j), fun h ⟨i, j, a, b, c, q⟩ => ⟨i, j, a, b, c, h _ q⟩⟩
theorem snd_I {C C' : Int → Int → Prop} {gV : Int → Int → V} {g : Int → Int → Da} (hC : ∀ i j, C' i j → C i j) (hg : ∀ i j G, Dv L G (gV i j) (g i j)) : Snd2 L (rI C gV) (r2I C' g) := by
  rintro B G H σ ρ v u x y Q r d1 d2 ⟨i, j, rfl, rfl, c, k⟩
  cases d1
  cases d2
  exact ⟨i, j, rfl, rfl, hC i j c, k _ G H r (Same.refl _) (hg i j G)⟩
theorem snd_I0 {gV : Int → Int → V} {g : Int → Int → Da} (hg : ∀ i j G, Dv L G (gV i j) (g i j)) : Snd2 L (rI0 gV) (r2I (fun _ _ => True) g) := by
  rintro B G H σ ρ v u x y Q r d1 d2 ⟨i, j, rfl, rfl, c, k⟩
  cases d1
  cases d2
  exact ⟨i, j, rfl, rfl, k _ G H r (Same.refl _) (hg i j G)⟩
def rAdd := r2I (fun _ _ => True) fun i j => .int (i + j)
def rSub := r2I (fun _ _ => True) fun i j => .int (i - j)
def rMulW := r2I CMulW fun i j => .int (i * j)
def rModN := r2I (fun _ j => j ≠ 0) fun i j => .int (i.fmod j)
def rLt := r2I (fun _ _ => True) fun i j => .bl (decide (i < j))
def rGt := r2I (fun _ _ => True) fun i j => .bl (decide (j < i))
mutual
def py : Da → Option PyData
  | .non => some .none
  | .bl b => some (.bool b)
  | .int i => some (.int i)
  | .str x => some (.str x)
  | .lst xs => (pys xs).map .list
  | .tup xs => (pys xs).map .tuple
  | .obj _ _ => none
def pys : List Da → Option (List PyData)
  | [] => some []
  | x :: r => (py x).bind fun d => (pys r).map fun ds => d :: ds
end
mutual
theorem py_dp {G : Hp} : ∀ {v : V} {x : Da} {d : PyData}, Dv L G v x → py x = some d → Dp L.K G v d
  | _, _, _, .non, e => by
    cases e
    exact .non
  | _, _, _, .bl b, e => by
    cases e
    exact .bl b
  | _, _, _, .int i, e => by
    cases e
    exact .int i
  | _, _, _, .str x, e => by
    cases e
    exact .str x
  | _, _, d, .lst (ds := ds) h t, e => by
    have e' : (pys ds).map PyData.list = some d := by simpa only [py] using e
    obtain ⟨es, h1, rfl⟩ := Option.map_eq_some_iff.mp e'
    exact .lst (.inl (.inl h)) (pys_dp t h1)
  | _, _, d, .tup (ds := ds) h t, e => by
    have e' : (pys ds).map PyData.tuple = some d := by simpa only [py] using e
    obtain ⟨es, h1, rfl⟩ := Option.map_eq_some_iff.mp e'
    exact .tup h (pys_dp t h1)
  | _, _, _, .obj h t, e => by simp only [py] at e; cases e
theorem pys_dp {G : Hp} : ∀ {vs : List V} {xs : List Da} {ds : List PyData}, DvAll L G vs xs → pys xs = some ds → DpAll L.K G vs ds
  | _, _, _, .nil, e => by
    cases e
    exact .nil
  | _, _, ds, .cons (d := x) (ds := r) h t, e => by
    have e' : ((py x).bind fun d => (pys r).map fun ds => d :: ds) = some ds := by simpa only [pys] using e
    obtain ⟨d, h1, e2⟩ := Option.bind_eq_some_iff.mp e'
    obtain ⟨es, h2, rfl⟩ := Option.map_eq_some_iff.mp e2
    exact .cons (py_dp h h1) (pys_dp t h2)
end
def rEqP : R2p := ⟨fun x y k => ∃ d e, py x = some d ∧ py y = some e ∧ SeqAt.shaped d = true ∧ SeqAt.shaped e = true ∧ k (.bl (PyData.eqv d e)), fun h ⟨d, e, a, b, c, f, q⟩ => ⟨d, e, a, b, c, f, h _ q⟩⟩
def rNeP : R2p := ⟨fun x y k => ∃ d e, py x = some d ∧ py y = some e ∧ SeqAt.shaped d = true ∧ SeqAt.shaped e = true ∧ k (.bl (!PyData.eqv d e)), fun h ⟨d, e, a, b, c, f, q⟩ => ⟨d, e, a, b, c, f, h _ q⟩⟩
theorem snd_eq : Snd2 L (rEqD L.K) rEqP := by
  rintro B G H σ ρ v u x y Q r d1 d2 ⟨d, e, h1, h2, s1, s2, k⟩
  exact ⟨d, e, dp_same r.gh (py_dp d1 h1), dp_same r.gh (py_dp d2 h2), s1, s2, k _ G H r (Same.refl _) (.bl _)⟩
theorem snd_ne : Snd2 L (rNeD L.K) rNeP := by
  rintro B G H σ ρ v u x y Q r d1 d2 ⟨d, e, h1, h2, s1, s2, k⟩
  exact ⟨d, e, dp_same r.gh (py_dp d1 h1), dp_same r.gh (py_dp d2 h2), s1, s2, k _ G H r (Same.refl _) (.bl _)⟩
theorem atI_get {α β : Type} {xs : List α} {ys : List β} {i : Int} {y : β} (hl : xs.length = ys.length) (h : atI ys i = some y) : ∃ j : Nat, ys[j]? = some y ∧ ∀ x, xs[j]? = some x → atI xs i = some x := by
  unfold atI at h ⊢
  rw [hl]
  obtain ⟨j, h1, h2⟩ := Option.bind_eq_some_iff.mp h
  exact ⟨j, h2, fun x hx => by rw [h1]; exact hx⟩
def rIxP : R2p := ⟨fun x y k => ∃ (ds : List Da) (i : Int) (d : Da), x = .lst ds ∧ y = .int i ∧ atI ds i = some d ∧ k d, fun h ⟨ds, i, d, a, b, c, q⟩ => ⟨ds, i, d, a, b, c, h _ q⟩⟩
def rIxTP : R2p := ⟨fun x y k => ∃ (ds : List Da) (i : Int) (d : Da), x = .tup ds ∧ y = .int i ∧ atI ds i = some d ∧ k d, fun h ⟨ds, i, d, a, b, c, q⟩ => ⟨ds, i, d, a, b, c, h _ q⟩⟩
theorem snd_ix : Snd2 L (rIxL L.K) rIxP := by
  rintro B G H σ ρ v u x y Q r d1 d2 ⟨ds, i, d, rfl, rfl, hi, k⟩
  cases d1 with
  | @lst a xs _ hs ha =>
    cases d2
    obtain ⟨j, h1, h2⟩ := atI_get (xs := xs) (dvs_len ha) hi
    obtain ⟨w, h3, h4⟩ := dvs_at ha h1
    exact ⟨a, xs, i, w, rfl, rfl, .inl (.inl (r.gh _ _ hs)), h2 w h3, k w G H r (Same.refl _) h4⟩
theorem snd_ixT : Snd2 L (rIxT L.K) rIxTP := by
  rintro B G H σ ρ v u x y Q r d1 d2 ⟨ds, i, d, rfl, rfl, hi, k⟩
  cases d1 with
  | @tup a xs _ hs ha =>
    cases d2
    obtain ⟨j, h1, h2⟩ := atI_get (xs := xs) (dvs_len ha) hi
    obtain ⟨w, h3, h4⟩ := dvs_at ha h1
    exact ⟨a, xs, i, w, rfl, rfl, same_sqt r.gh hs, h2 w h3, k w G H r (Same.refl _) h4⟩
end
structure R1p where
  f : List Da → (Da → Prop) → Prop
  mono : ∀ {x : List Da} {k k' : Da → Prop}, (∀ d, k d → k' d) → f x k → f x k'
def Snd1 (L : Ly) (R : List V → Hp → VK → Prop) (r : R1p) : Prop := ∀ {B : Bs} {G H : Hp} {σ : L2.St} {ρ : En} {vs : List V} {xs : List Da} {Q : VK}, Rep L B G H σ ρ → DvAll L G vs xs →
  r.f xs (fun z => ∀ w G' H', Rep L B G' H' σ ρ → Same G G' → Dv L G' w z → Q w H') → R vs H Q
def p1 (g : Pl) (r : R1p) : Px := ⟨fun ρ k => g.f ρ fun xs ρ1 => r.f xs fun z => k z ρ1, fun h => g.mono fun _ _ => r.mono fun _ => h _ _⟩
section
variable {X : Cx} {L : Ly} {e : Expr}
theorem w_tCB {R : List V → Hp → VK → Prop} {r : R1p} {g : Pl} (hs : Snd1 L R r) (p : PE X e (tCB R (tWA L g))) : PE X e (tW L (p1 g r)) := PE.imp p fun σ H Q ⟨B, G, ρ, r0, h⟩ =>
  ⟨B, G, ρ, r0, g.mono (fun xs ρ1 h1 vs G1 H1 r1 s1 d1 => hs r1 d1 (r.mono (fun z h3 w G3 H3 r3 s3 d3 => h3 w G3 H3 r3 (s1.trans s3) d3) h1)) h⟩
def rLen : R1p := ⟨fun xs k => ∃ ds, (xs = [.lst ds] ∨ xs = [.tup ds]) ∧ k (.int ds.length), fun h ⟨ds, e, q⟩ => ⟨ds, e, h _ q⟩⟩
theorem snd_len : Snd1 L (fun xs H Q => ∃ p ys, xs = [.ref p] ∧ (SqL L.K H p ys ∨ SqT L.K H p ys) ∧ Q (.int ys.length) H) rLen := by
  rintro B G H σ ρ vs xs Q r dv ⟨ds, e, k⟩
  have fin : ∀ {ys : List V}, DvAll L G ys ds → Q (.int ys.length) H := fun {ys} ha => by
    rw [dvs_len ha]
    exact k _ G H r (Same.refl _) (.int _)
  rcases e with rfl | rfl
  · cases dv with
    | cons d t =>
      cases t
      cases d with
      | @lst a ys _ hs ha => exact ⟨a, ys, rfl, .inl (.inl (.inl (r.gh _ _ hs))), fin ha⟩
  · cases dv with
    | cons d t =>
      cases t
      cases d with
      | @tup a ys _ hs ha => exact ⟨a, ys, rfl, .inr (same_sqt r.gh hs), fin ha⟩
def rInt1 : R1p := ⟨fun xs k => (∃ i, xs = [.int i] ∧ k (.int i)) ∨ ∃ b, xs = [.bl b] ∧ k (.int (if b then 1 else 0)), fun h z => z.elim (fun ⟨i, e, q⟩ => .inl ⟨i, e, h _ q⟩) fun ⟨i, e, q⟩ => .inr ⟨i, e, h _ q⟩⟩
theorem snd_int1 : Snd1 L (fun xs H Q => (∃ i, xs = [.int i] ∧ Q (.int i) H) ∨ ∃ k, xs = [.bl k] ∧ Q (.int (if k then 1 else 0)) H) rInt1 := by
  rintro B G H σ ρ vs xs Q r dv z
  rcases z with ⟨i, rfl, k⟩ | ⟨i, rfl, k⟩
  · cases dv with
    | cons d t =>
      cases t
      cases d
      exact .inl ⟨i, rfl, k _ G H r (Same.refl _) (.int _)⟩
  · cases dv with
    | cons d t =>
      cases t
      cases d
      exact .inr ⟨i, rfl, k _ G H r (Same.refl _) (.int _)⟩
end
abbrev Pf := R1p
def spF (L : Ly) (F : Pf) : Sp := fun vs H Q _ => ∃ G ds, Same G H ∧ DvAll L G vs ds ∧ F.f ds fun d => ∀ v G' H', Grow M0 G H G' H' → Dv L G' v d → Q v H'
def spD (L : Ly) (F : Pf) : Sp := fun vs H Q _ => ∃ G d l c us ds, vs = .ref d :: us ∧ Same G H ∧ G d = none ∧ G l = none ∧ Draw d l c H ∧ DvAll L G us ds ∧
  F.f ds fun x => ∀ v G' H', Grow (Mdl d l) G H G' H' → Draw d l c H' → Dv L G' v x → Q v H'
def pF (g : Pl) (F : Pf) : Px := p1 g F
def pD (i : Nat) (g : Pl) (F : Pf) : Px := ⟨fun ρ k => ∃ d l c, ρ[i]? = some (some (.drw d l c)) ∧ g.f ρ fun xs ρ1 => some (.drw d l c) ∈ ρ1 ∧ F.f xs fun z => k z ρ1,
  fun h ⟨d, l, c, e, q⟩ => ⟨d, l, c, e, g.mono (fun _ _ z => ⟨z.1, F.mono (fun _ => h _ _) z.2⟩) q⟩⟩
section
variable {X : Cx} {L : Ly} {k j i : Nat} {x : Str} {p pos : Pos} {e : Expr} {es : List Expr}
theorem draw_mem {B : Bs} {G H : Hp} {σ : L2.St} {ρ : En} (r : Rep L B G H σ ρ) {d l c : Addr} (h : some (Sl.drw d l c) ∈ ρ) : Draw d l c H ∧ G d = none ∧ G l = none := by
  obtain ⟨v, _, hv⟩ := paired_mem r.env h
  cases v with
  | none => exact (reps_none hv).elim
  | some v => exact ⟨hv.2.2.2, hv.2.1, hv.2.2.1⟩
theorem flat_apart {a b : Option Sl} : ∀ {ρ : En}, (own ρ).Nodup → a ∈ ρ → b ∈ ρ → a ≠ b → ∀ x ∈ slA a, x ∉ slA b
  | s :: r, nd, ha, hb, hn, x, hx, hy => by
    have nd' : (slA s ++ own r).Nodup := nd
    obtain ⟨_, n2, n3⟩ := List.nodup_append.mp nd'
    rcases List.mem_cons.mp ha with e1 | h1
    · rcases List.mem_cons.mp hb with e2 | h2
      · exact hn (e1.trans e2.symm)
      · subst e1
        exact n3 x hx x (own_mem h2 hy) rfl
    · rcases List.mem_cons.mp hb with e2 | h2
      · subst e2
        exact n3 x hy x (own_mem h1 hx) rfl
      · exact flat_apart n2 h1 h2 hn x hx hy
theorem imp_F {g : Pl} {F : Pf} : ∀ σ H Q, tW L (pF g F) σ H Q → tCall (spF L F) [] C8.E0 (tWA L g) σ H Q := fun σ H Q ⟨B, G, ρ, r0, h⟩ =>
  ⟨B, G, ρ, r0, g.mono (fun xs ρ1 h1 vs G1 H1 r1 s1 d1 => by
    show spF L F (vs ++ []) H1 Q C8.E0
    rw [List.append_nil]
    exact ⟨G1, xs, r1.gh, d1, F.mono (fun z h3 v G' H' gr dv => h3 v G' H' (r1.step (gr.weak fun b z => z.elim) (fun d l c hm => draw_same (draw_mem r1 hm).1 gr.same) (r1.tb.go gr.gg gr.same)) (s1.trans gr.gg) dv) h1⟩) h⟩
theorem w_call {g : Pl} {F : Pf} (c : CalG X.prog X.w X.K X.mg X.base C8.CX0 k x (spF L F)) (hr : Room j X.A) (hk : k ≤ j) (hgu : X.A.guards = some []) (hg : Gl X x) (ha : PA X (e :: es) (tWA L g))
    (hdb : (x == ("__debug__" : Str)) = false := by decide) (he : starEach (e :: es) X.env = (false, eval e X.env) :: starEach es X.env := by rfl)
    (hpl : (backTo pos (starEach es X.env)).any (·.1) = false := by rfl) : PE X (.Call (.Name x p) (e :: es) [] pos) (tW L (pF g F)) :=
  PE.imp (pe_cg c hr hk hgu hg ha hdb he hpl) imp_F
theorem w_callD {g : Pl} {F : Pf} (c : CalG X.prog X.w X.K X.mg X.base C8.CX0 k x (spD L F)) (hr : Room j X.A) (hk : k ≤ j) (hgu : X.A.guards = some []) (hg : Gl X x) (hd : PE X e (tVar i)) (ha : PA X es (tWA L g))
    (hdb : (x == ("__debug__" : Str)) = false := by decide) (he : starEach (e :: es) X.env = (false, eval e X.env) :: starEach es X.env := by rfl)
    (hpl : (backTo pos (starEach es X.env)).any (·.1) = false := by rfl) : PE X (.Call (.Name x p) (e :: es) [] pos) (tW L (pD i g F)) :=
  PE.imp (pe_cg c hr hk hgu hg (pa_cons hd ha he) hdb he hpl) fun σ H Q ⟨B, G, ρ, r0, d, l, cc, hi, h⟩ => by
    obtain ⟨s, hs, hv⟩ := paired_get r0.env hi
    cases s with
    | none => exact (reps_none hv).elim
    | some v =>
      obtain ⟨rfl, _⟩ := hv
      refine ⟨_, hs, B, G, ρ, r0, g.mono (fun xs ρ1 h1 vs G1 H1 r1 s1 d1 => ?_) h⟩
      show spD L F ((.ref d :: vs) ++ []) H1 Q C8.E0
      rw [List.append_nil]
      obtain ⟨hm, h1⟩ := h1
      obtain ⟨D, n1, n2⟩ := draw_mem r1 hm
      refine ⟨G1, d, l, cc, vs, xs, rfl, r1.gh, n1, n2, D, d1, F.mono (fun z h3 v G' H' gr D' dv => ?_) h1⟩
      refine h3 v G' H' (r1.step (gr.weak fun b z => ?_) (fun d' l' c' hm' => ?_) (fun p hp => (r1.tb p hp).go gr.gg fun o ho => gr.hh _ _ (fun z => (r1.tg p hp).2.1 (own_mem hm (by
        rcases z with z | z
        · rw [z]; simp [slA]
        · rw [z]; simp [slA]))) ho)) (s1.trans gr.gg) dv
      · rcases z with z | z
        · rw [z]
          exact (r1.fd _ _ _ hm).1
        · rw [z]
          exact (r1.fd _ _ _ hm).2
      · by_cases hs : (some (Sl.drw d' l' c')) = some (Sl.drw d l cc)
        · cases hs
          exact D'
        · have ap := flat_apart r1.nd hm' hm hs
          obtain ⟨D1, _⟩ := draw_mem r1 hm'
          obtain ⟨q1, q2, q3, q4, D1⟩ := D1
          have off : ∀ b, b ∈ slA (some (Sl.drw d' l' c')) → ¬ Mdl d l b := fun b hb z => ap b hb (by
            rcases z with z | z
            · rw [z]; simp [slA]
            · rw [z]; simp [slA])
          exact ⟨q1, q2, q3, q4, gr.hh _ _ (off _ (by simp [slA])) D1.hd, gr.hh _ _ (off _ (by simp [slA])) D1.hl, gr.hh _ _ (off _ (by simp [slA])) D1.hc, D1.ne⟩
end
end Fw

namespace Fw
open PySem PySem.Spec PyProof.Rows L2 Fr
structure Ps where
  f : En → (En → Prop) → (Da → En → Prop) → (En → Prop) → (En → Prop) → Prop
  mono : ∀ {ρ : En} {nx nx' bk bk' ct ct' : En → Prop} {rt rt' : Da → En → Prop}, (∀ r, nx r → nx' r) → (∀ d r, rt d r → rt' d r) → (∀ r, bk r → bk' r) → (∀ r, ct r → ct' r) → f ρ nx rt bk ct → f ρ nx' rt' bk' ct'
def tWS (L : Ly) (g : Ps) : TS := fun D σ H => ∃ B G ρ, Rep L B G H σ ρ ∧ g.f ρ
  (fun ρ' => ∀ σ' G' H', Rep L B G' H' σ' ρ' → Same G G' → D.nx σ' H')
  (fun d ρ' => ∀ v σ' G' H', Rep L B G' H' σ' ρ' → Same G G' → Dv L G' v d → D.rt v H')
  (fun ρ' => ∀ σ' G' H', Rep L B G' H' σ' ρ' → Same G G' → D.bk σ' H')
  (fun ρ' => ∀ σ' G' H', Rep L B G' H' σ' ρ' → Same G G' → D.ct σ' H')
section
variable {X : Cx} {L : Ly} {B : Bs} {G H : Hp} {σ : L2.St} {ρ : En} {st : Stmt} {ss : List Stmt}
theorem PS.imp {t t' : TS} (p : PS X st t) (h : ∀ D σ H, t' D σ H → t D σ H) : PS X st t' := ⟨fun pins s σ H D I q => p.run pins s σ H D I (h _ _ _ q)⟩
theorem PSs.imp {t t' : TS} (p : PSs X ss t) (h : ∀ D σ H, t' D σ H → t D σ H) : PSs X ss t' := ⟨fun pins s σ H D I q => p.run pins s σ H D I (h _ _ _ q)⟩
theorem own_set : ∀ {ρ : En} {i : Nat} {t : Option Sl}, slA t = [] → (own (ρ.set i t)).Sublist (own ρ)
  | [], _, _, _ => by simp [own]
  | s :: r, 0, t, h => by
    show (slA t ++ own r).Sublist (slA s ++ own r)
    rw [h]
    exact List.sublist_append_right _ _
  | s :: r, i + 1, t, h => by
    show (slA s ++ own (r.set i t)).Sublist (slA s ++ own r)
    exact (List.Sublist.refl _).append (own_set h)
theorem mem_set {ρ : En} {i : Nat} {t s : Option Sl} (h : s ∈ ρ.set i t) : s ∈ ρ ∨ s = t := List.mem_or_eq_of_mem_set h
theorem Rep.setD (r : Rep L B G H σ ρ) {i : Nat} {v : V} {d : Da} (h : Dv L G v d) : Rep L B G H (σ.set i (some v)) (ρ.set i (some (.dat d))) where
  gr := r.gr
  mh := r.mh
  env := paired_set (a := some v) (b := some (.dat d)) h i r.env
  nd := r.nd.sublist (own_set rfl)
  fm := fun p ds hm => (mem_set hm).elim (r.fm p ds) fun z => by cases z
  f2 := fun p qs hm b hb => (mem_set hm).elim (fun h => r.f2 p qs h b hb) fun z => by cases z
  fd := fun d' l c hm => (mem_set hm).elim (r.fd d' l c) fun z => by cases z
  ks := fun q hq => by
    obtain ⟨h1, h2, h3, h4⟩ := r.ks q hq
    exact ⟨h1, h2, h3, fun z => h4 ((own_set rfl).subset z)⟩
  tb := r.tb
  tg := fun p hp => ⟨(r.tg p hp).1, fun z => (r.tg p hp).2.1 ((own_set rfl).subset z), (r.tg p hp).2.2⟩
  mt := r.mt
  ft := fun T hm => (mem_set hm).elim (r.ft T) fun z => by cases z
def sSet (i : Nat) (g : Px) : Ps := ⟨fun ρ nx _ _ _ => g.f ρ fun d ρ1 => nx (ρ1.set i (some (.dat d))), fun h _ _ _ => g.mono fun _ _ => h _⟩
theorem w_set {i : Nat} {g : Px} (p : PS X st (tAsg (tW L g) (gName i))) : PS X st (tWS L (sSet i g)) := PS.imp p fun D σ H ⟨B, G, ρ, r, h⟩ =>
  ⟨B, G, ρ, r, g.mono (fun d ρ1 h1 v G1 H1 r1 s1 d1 => h1 _ G1 H1 (r1.setD d1) s1) h⟩
def sRet (g : Px) : Ps := ⟨fun ρ _ rt _ _ => g.f ρ rt, fun _ h _ _ => g.mono h⟩
theorem w_ret {g : Px} (p : PS X st (tRet (tW L g))) : PS X st (tWS L (sRet g)) := PS.imp p fun D σ H ⟨B, G, ρ, r, h⟩ =>
  ⟨B, G, ρ, r, g.mono (fun d ρ1 h1 v G1 H1 r1 s1 d1 => h1 v _ G1 H1 r1 s1 d1) h⟩
def sNil : Ps := ⟨fun ρ nx _ _ _ => nx ρ, fun h _ _ _ => h _⟩
theorem w_snil (p : PSs X ss tNext) : PSs X ss (tWS L sNil) := PSs.imp p fun D σ H ⟨B, G, ρ, r, h⟩ => h σ G H r (Same.refl _)
theorem w_one {g : Ps} (p : PS X st (tWS L g)) : PSs X [st] (tWS L g) := pss_one p
def sSeq (g h : Ps) : Ps := ⟨fun ρ nx rt bk ct => g.f ρ (fun ρ1 => h.f ρ1 nx rt bk ct) rt bk ct, fun a b c d => g.mono (fun _ => h.mono a b c d) b c d⟩
theorem tWS_then {g : Ps} {D : Ends} {G1 : Hp} (s1 : Same G G1) {ρ' : En} (h : g.f ρ'
    (fun ρ' => ∀ σ' G' H', Rep L B G' H' σ' ρ' → Same G G' → D.nx σ' H')
    (fun d ρ' => ∀ v σ' G' H', Rep L B G' H' σ' ρ' → Same G G' → Dv L G' v d → D.rt v H')
    (fun ρ' => ∀ σ' G' H', Rep L B G' H' σ' ρ' → Same G G' → D.bk σ' H')
    (fun ρ' => ∀ σ' G' H', Rep L B G' H' σ' ρ' → Same G G' → D.ct σ' H')) {σ1 : L2.St} {H1 : Hp} (r : Rep L B G1 H1 σ1 ρ') : tWS L g D σ1 H1 :=
  ⟨B, G1, ρ', r, g.mono (fun _ k σ' G' H' r' s' => k σ' G' H' r' (s1.trans s')) (fun _ _ k v σ' G' H' r' s' => k v σ' G' H' r' (s1.trans s')) (fun _ k σ' G' H' r' s' => k σ' G' H' r' (s1.trans s')) (fun _ k σ' G' H' r' s' => k σ' G' H' r' (s1.trans s')) h⟩
theorem w_seq {g h : Ps} (p : PS X st (tWS L g)) (q : PSs X ss (tWS L h)) : PSs X (st :: ss) (tWS L (sSeq g h)) := PSs.imp (pss_cons p q) fun D σ H ⟨B, G, ρ, r, k⟩ =>
  ⟨B, G, ρ, r, g.mono (fun ρ1 h1 σ' G' H' r' s' => tWS_then s' h1 r') (fun _ _ z => z) (fun _ z => z) (fun _ z => z) k⟩
def sIf (c : Pt) (g h : Ps) : Ps := ⟨fun ρ nx rt bk ct => c.f ρ fun b ρ1 => if b = true then g.f ρ1 nx rt bk ct else h.f ρ1 nx rt bk ct, fun a1 a2 a3 a4 => c.mono fun b _ z => by
  by_cases hb : b = true
  · rw [if_pos hb] at z ⊢
    exact g.mono a1 a2 a3 a4 z
  · rw [if_neg hb] at z ⊢
    exact h.mono a1 a2 a3 a4 z⟩
theorem w_if {c : Pt} {g h : Ps} (p : PS X st (tIfS (tWT L c) (tWS L g) (tWS L h))) : PS X st (tWS L (sIf c g h)) := PS.imp p fun D σ H ⟨B, G, ρ, r, k⟩ =>
  ⟨B, G, ρ, r, c.mono (fun b ρ1 h1 G1 H1 r1 s1 => by
    show if b = true then _ else _
    by_cases hb : b = true
    · rw [if_pos hb] at h1 ⊢
      exact tWS_then s1 h1 r1
    · rw [if_neg hb] at h1 ⊢
      exact tWS_then s1 h1 r1) k⟩
structure Tg where
  f : Da → En → (En → Prop) → Prop
  mono : ∀ {d : Da} {ρ : En} {k k' : En → Prop}, (∀ r, k r → k' r) → f d ρ k → f d ρ k'
def SndG (L : Ly) (g : TG) (t : Tg) : Prop := ∀ {B : Bs} {G H : Hp} {σ : L2.St} {ρ : En} {v : V} {d : Da} {k : L2.St → Hp → Prop}, Rep L B G H σ ρ → Dv L G v d → t.f d ρ (fun ρ' => ∀ σ', Rep L B G H σ' ρ' → k σ' H) → g v σ H k
def tgN (i : Nat) : Tg := ⟨fun d ρ k => k (ρ.set i (some (.dat d))), fun h => h _⟩
theorem snd_tgN {i : Nat} : SndG L (gName i) (tgN i) := fun r d1 h => h _ (r.setD d1)
structure Tgs where
  f : List Da → En → (En → Prop) → Prop
  mono : ∀ {d : List Da} {ρ : En} {k k' : En → Prop}, (∀ r, k r → k' r) → f d ρ k → f d ρ k'
def SndGs (L : Ly) (g : TGs) (t : Tgs) : Prop := ∀ {B : Bs} {G H : Hp} {σ : L2.St} {ρ : En} {vs : List V} {ds : List Da} {k : L2.St → Hp → Prop}, Rep L B G H σ ρ → DvAll L G vs ds → t.f ds ρ (fun ρ' => ∀ σ', Rep L B G H σ' ρ' → k σ' H) → g vs σ H k
def tgNil : Tgs := ⟨fun ds ρ k => ds = [] ∧ k ρ, fun h z => ⟨z.1, h _ z.2⟩⟩
theorem snd_tgNil : SndGs L gNil tgNil := by
  rintro B G H σ ρ vs ds k r d ⟨rfl, h⟩
  cases d
  exact ⟨rfl, h σ r⟩
def tgCons (t : Tg) (u : Tgs) : Tgs := ⟨fun ds ρ k => ∃ d r, ds = d :: r ∧ t.f d ρ fun ρ1 => u.f r ρ1 k, fun h ⟨d, r, e, q⟩ => ⟨d, r, e, t.mono (fun _ => u.mono h) q⟩⟩
theorem snd_tgCons {g : TG} {gs : TGs} {t : Tg} {u : Tgs} (h1 : SndG L g t) (h2 : SndGs L gs u) : SndGs L (gCons g gs) (tgCons t u) := by
  rintro B G H σ ρ vs ds k r d ⟨x, xs, rfl, h⟩
  cases d with
  | cons d1 d2 => exact ⟨_, _, rfl, h1 r d1 (t.mono (fun ρ1 z σ' r' => h2 r' d2 z) h)⟩
def tgTup (n : Nat) (u : Tgs) : Tg := ⟨fun d ρ k => ∃ ds, d = .tup ds ∧ ds.length = n ∧ u.f ds ρ k, fun h ⟨ds, e, l, q⟩ => ⟨ds, e, l, u.mono h q⟩⟩
theorem snd_tgTup {n : Nat} {gs : TGs} {u : Tgs} (h2 : SndGs L gs u) : SndG L (gTup L.K n gs) (tgTup n u) := by
  rintro B G H σ ρ v d k r dv ⟨ds, rfl, hl, h⟩
  cases dv with
  | @tup a xs _ hs ha => exact ⟨a, xs, rfl, same_sqt r.gh hs, (dvs_len ha).trans hl, h2 r ha h⟩
def loopF (t : Tg) (g : Ps) (nx : En → Prop) (rt : Da → En → Prop) : List Da → En → Prop
  | [], ρ => nx ρ
  | x :: r, ρ => t.f x ρ fun ρ1 => g.f ρ1 (loopF t g nx rt r) rt nx (loopF t g nx rt r)
theorem loopF_mono {t : Tg} {g : Ps} {nx nx' : En → Prop} {rt rt' : Da → En → Prop} (h1 : ∀ r, nx r → nx' r) (h2 : ∀ d r, rt d r → rt' d r) : ∀ {ds : List Da} {ρ : En}, loopF t g nx rt ds ρ → loopF t g nx' rt' ds ρ
  | [], _, h => h1 _ h
  | _ :: r, _, h => t.mono (fun _ => g.mono (fun _ => loopF_mono h1 h2 (ds := r)) h2 h1 fun _ => loopF_mono h1 h2 (ds := r)) h
theorem drop_at {α : Type} {l : List α} {i : Nat} {x : α} (h : l[i]? = some x) : l.drop i = x :: l.drop (i + 1) := by
  obtain ⟨hi, e⟩ := List.getElem?_eq_some_iff.mp h
  rw [List.drop_eq_getElem_cons hi, e]
def sWh (c : Pt) (g : Ps) : Ps := ⟨fun ρ nx rt _ _ => ∃ I : Nat → En → Prop, (∃ m, I m ρ) ∧ ∀ m ρ', I m ρ' → c.f ρ' fun b ρ1 => if b = true then g.f ρ1 (fun ρ2 => ∃ m', m' < m ∧ I m' ρ2) rt nx (fun ρ2 => ∃ m', m' < m ∧ I m' ρ2) else nx ρ1,
  fun a b _ _ ⟨I, h0, h1⟩ => ⟨I, h0, fun m ρ' hI => c.mono (fun t _ z => by
    by_cases ht : t = true
    · rw [if_pos ht] at z ⊢
      exact g.mono (fun _ y => y) b a (fun _ y => y) z
    · rw [if_neg ht] at z ⊢
      exact a _ z) (h1 m ρ' hI)⟩⟩
theorem w_while {c : Pt} {g : Ps} (p : PS X st (tWhile (tWT L c) (tWS L g))) : PS X st (tWS L (sWh c g)) := PS.imp p fun D σ H ⟨B, G, ρ, r, I, ⟨m0, h0⟩, h1⟩ => by
  refine ⟨fun m σ' H' => ∃ G' ρ', Rep L B G' H' σ' ρ' ∧ Same G G' ∧ I m ρ', ⟨m0, G, ρ, r, Same.refl _, h0⟩, ?_⟩
  rintro m σ' H' ⟨G', ρ', r', s', hI⟩
  refine ⟨B, G', ρ', r', c.mono (fun t ρ1 z G1 H1 r1 s1 => ?_) (h1 m ρ' hI)⟩
  by_cases ht : t = true
  · rw [if_pos ht] at z
    subst ht
    refine ⟨fun σ2 H2 => ∃ m', m' < m ∧ ∃ G2 ρ2, Rep L B G2 H2 σ2 ρ2 ∧ Same G G2 ∧ I m' ρ2, fun σ2 H2 ⟨m', l, q⟩ => ⟨m', l, q⟩, B, G1, ρ1, r1, g.mono ?_ ?_ ?_ ?_ z⟩
    · rintro ρ2 ⟨m', l, hI'⟩ σ2 G2 H2 r2 s2
      exact ⟨m', l, G2, ρ2, r2, s'.trans (s1.trans s2), hI'⟩
    · intro d ρ2 h2 v σ2 G2 H2 r2 s2
      exact h2 v σ2 G2 H2 r2 (s'.trans (s1.trans s2))
    · intro ρ2 h2 σ2 G2 H2 r2 s2
      exact h2 σ2 G2 H2 r2 (s'.trans (s1.trans s2))
    · rintro ρ2 ⟨m', l, hI'⟩ σ2 G2 H2 r2 s2
      exact ⟨m', l, G2, ρ2, r2, s'.trans (s1.trans s2), hI'⟩
  · rw [if_neg ht] at z
    have ht' : t = false := by simpa using ht
    subst ht'
    exact z σ' G1 H1 r1 (s'.trans s1)
end
end Fw

namespace Fw
open PySem PySem.Spec PyProof.Rows L2 Fr
section
variable {X : Cx} {L : Ly} {B : Bs} {G H : Hp} {σ : L2.St} {ρ : En} {st : Stmt} {e : Expr}
theorem Rep.h0 (r : Rep L B G H σ ρ) {p : Addr} (n : H p = none) : B.H0 p = none := by
  cases q : B.H0 p with
  | none => rfl
  | some o => exact absurd n (r.gr.tr p (by rw [q]; simp))
theorem Rep.mH (r : Rep L B G H σ ρ) {p : Addr} (h : B.M p) : H p ≠ none := r.gr.tr p (r.mh p h).1
theorem own_in {p : Addr} : ∀ {ρ : En} {i : Nat} {t : Option Sl}, p ∈ own (ρ.set i t) → p ∈ own ρ ∨ p ∈ slA t
  | [], _, _, h => by simp [own] at h
  | s :: r, 0, t, h => by
    have h' : p ∈ slA t ++ own r := h
    rcases List.mem_append.mp h' with h' | h'
    · exact .inr h'
    · exact .inl (List.mem_append.mpr (.inr h') : p ∈ slA s ++ own r)
  | s :: r, i + 1, t, h => by
    have h' : p ∈ slA s ++ own (r.set i t) := h
    rcases List.mem_append.mp h' with h' | h'
    · exact .inl (List.mem_append.mpr (.inl h') : p ∈ slA s ++ own r)
    · exact (own_in h').imp (fun z => (List.mem_append.mpr (.inr z) : p ∈ slA s ++ own r)) id
theorem nd_set {p : Addr} {ds : List Da} : ∀ {ρ : En} {i : Nat}, (own ρ).Nodup → p ∉ own ρ → (own (ρ.set i (some (.gro p ds)))).Nodup
  | [], _, _, _ => by simp [own]
  | s :: r, 0, h, hp => by
    have h' : (slA s ++ own r).Nodup := h
    have hp' : p ∉ slA s ++ own r := hp
    show ([p] ++ own r).Nodup
    rw [List.singleton_append, List.nodup_cons]
    exact ⟨fun z => hp' (List.mem_append.mpr (.inr z)), (List.nodup_append.mp h').2.1⟩
  | s :: r, i + 1, h, hp => by
    have h' : (slA s ++ own r).Nodup := h
    have hp' : p ∉ slA s ++ own r := hp
    obtain ⟨h1, h2, h3⟩ := List.nodup_append.mp h'
    show (slA s ++ own (r.set i (some (.gro p ds)))).Nodup
    refine List.nodup_append.mpr ⟨h1, nd_set h2 fun z => hp' (List.mem_append.mpr (.inr z)), ?_⟩
    intro a ha b hb e
    subst e
    rcases own_in hb with hb | hb
    · exact h3 a ha a hb rfl
    · have e : a = p := by simpa [slA] using hb
      subst e
      exact hp' (List.mem_append.mpr (.inl ha))
theorem gro_at (r : Rep L B G H σ ρ) {i : Nat} {p : Addr} {ds : List Da} (h : ρ[i]? = some (some (.gro p ds))) : σ[i]? = some (some (.ref p)) ∧ G p = none ∧ B.H0 p = none ∧ ¬ B.M p ∧ ∃ vs, H p = some (.lst vs) ∧ DvAll L G vs ds := by
  obtain ⟨s, hs, hv⟩ := paired_get r.env h
  have hn := r.fm p ds (List.mem_of_getElem? h)
  cases s with
  | none => exact (reps_none hv).elim
  | some v =>
    obtain ⟨rfl, h1, h2⟩ := hv
    exact ⟨hs, h1, hn, fun z => (r.mh p z).1 hn, h2⟩
theorem own_same {p : Addr} {ds es : List Da} : ∀ {ρ : En} {i : Nat}, ρ[i]? = some (some (.gro p ds)) → own (ρ.set i (some (.gro p es))) = own ρ
  | [], _, h => by simp at h
  | s :: r, 0, h => by
    simp at h
    subst h
    rfl
  | s :: r, i + 1, h => by
    show slA s ++ own (r.set i (some (.gro p es))) = slA s ++ own r
    rw [own_same (by simpa using h)]
theorem paired_off {F F' : Option V → Option Sl → Prop} {p : Addr} {ds : List Da} {t' : Option Sl} : ∀ {σ : L2.St} {ρ : En} {i : Nat}, Paired F σ ρ → ρ[i]? = some (some (.gro p ds)) → σ[i]? = some (some (.ref p)) → (own ρ).Nodup →
    (∀ a b, p ∉ slA b → b ∈ ρ → F a b → F' a b) → F' (some (.ref p)) t' → Paired F' σ (ρ.set i t')
  | _, _, _, .nil, h, _, _, _, _ => by simp at h
  | _, s :: r, 0, .cons g t, h, hs, nd, f, h1 => by
    simp at h hs
    subst h hs
    have nd' : ([p] ++ own r).Nodup := nd
    rw [List.singleton_append, List.nodup_cons] at nd'
    exact .cons h1 (paired_imp t fun a b hb hh => f a b (fun z => nd'.1 (own_mem hb z)) (List.mem_cons_of_mem _ hb) hh)
  | _, s :: r, i + 1, .cons g t, h, hs, nd, f, h1 => by
    have hi : r[i]? = some (some (.gro p ds)) := by simpa using h
    have nd' : (slA s ++ own r).Nodup := nd
    obtain ⟨_, n2, n3⟩ := List.nodup_append.mp nd'
    have hp : p ∉ slA s := fun z => n3 p z p (own_mem (List.mem_of_getElem? hi) (by simp [slA])) rfl
    exact .cons (f _ _ hp List.mem_cons_self g) (paired_off t hi (by simpa using hs) n2 (fun a b hb hm hh => f a b hb (List.mem_cons_of_mem _ hm) hh) h1)
theorem Rep.chgG (r : Rep L B G H σ ρ) {i : Nat} {p : Addr} {ds es : List Da} {vs : List V} (hi : ρ[i]? = some (some (.gro p ds))) (h : DvAll L G vs es) : Rep L B G (upd H p (.lst vs)) σ (ρ.set i (some (.gro p es))) := by
  obtain ⟨hs, hG, h0, hM, xs, hx, _⟩ := gro_at r hi
  have gw : Grow B.M B.G0 B.H0 G (upd H p (.lst vs)) := by
    refine ⟨r.gr.gg, fun b o e => ?_, fun b o n e => ?_, fun b e => trk_upd b (r.gr.tr b e), r.gr.nw⟩
    · rw [upd_ne (ne_of_none e hG)]
      exact r.gh _ _ e
    · rw [upd_ne (ne_of_none e h0)]
      exact r.gr.hh b o n e
  have hmem := List.mem_of_getElem? hi
  refine ⟨gw, r.mh, ?_, by rw [own_same hi]; exact r.nd, ?_, ?_, (fun p' qs hm b hb => (mem_set hm).elim (fun h => r.f2 p' qs h b hb) (fun z => by cases z)), ?_, fun t ht => (r.tb t ht).go (Same.refl _) fun o ho => ?_, fun t ht => ⟨(r.tg t ht).1, by rw [own_same hi]; exact (r.tg t ht).2.1, (r.tg t ht).2.2⟩, r.mt, fun T hm => (mem_set hm).elim (r.ft T) fun z => by cases z⟩
  · refine paired_off r.env hi hs r.nd (fun a b hp hb hh => ?_) ⟨rfl, hG, vs, upd_same, h⟩
    refine hh.grow (Same.refl _) (fun q fs e => ?_) (fun d l c e => ?_) fun p2 qs e b2 hb2 => by
      subst e
      exact ⟨upd_ne (fun z => hp (by rw [← z]; exact hb2)), hh.g2 b2 hb2⟩
    · subst e
      refine ⟨upd_ne (fun z => hp (by rw [z]; simp [slA])), ?_⟩
      cases a with
      | none => exact (reps_none hh).elim
      | some v => exact hh.2.1
    · subst e
      cases a with
      | none => exact (reps_none hh).elim
      | some v =>
        obtain ⟨_, n1, n2, q1, q2, q3, q4, D⟩ := hh
        have off : ∀ b, b ∈ slA (some (Sl.drw d l c)) → b ≠ p := fun b hb z => hp (by rw [← z]; exact hb)
        exact ⟨n1, n2, q1, q2, q3, q4, by rw [upd_ne (off d (by simp [slA]))]; exact D.hd, by rw [upd_ne (off l (by simp [slA]))]; exact D.hl, by rw [upd_ne (off c (by simp [slA]))]; exact D.hc, D.ne⟩
  · intro q fs hm
    rcases mem_set hm with hm | hm
    · exact r.fm q fs hm
    · cases hm
      exact h0
  · intro d l c hm
    rcases mem_set hm with hm | hm
    · exact r.fd d l c hm
    · cases hm
  · intro q hq
    obtain ⟨h1, h2, h3, h4⟩ := r.ks q hq
    rw [own_same hi]
    refine ⟨?_, h2, h3, h4⟩
    rw [upd_ne (fun z => h4 (by rw [z]; exact own_mem hmem (by simp [slA])))]
    exact h1
  · rw [upd_ne (fun z => (r.tg t ht).2.1 (by rw [z]; exact own_mem hmem (by simp [slA])))]
    exact ho
end
end Fw

namespace Fw
open PySem PySem.Spec PyProof.Rows L2 Fr
section
variable {X : Cx} {L : Ly} {B : Bs} {G H : Hp} {σ : L2.St} {ρ : En} {st : Stmt} {e : Expr}
def sApp (i : Nat) (g : Px) : Ps := ⟨fun ρ nx _ _ _ => ∃ p ds, ρ[i]? = some (some (.gro p ds)) ∧ g.f ρ fun d ρ1 => ∃ ds1, ρ1[i]? = some (some (.gro p ds1)) ∧ ds1.length < sizeLine ∧ nx (ρ1.set i (some (.gro p (ds1 ++ [d])))),
  fun h _ _ _ ⟨p, ds, e, q⟩ => ⟨p, ds, e, g.mono (fun _ _ ⟨ds1, a, b, c⟩ => ⟨ds1, a, b, h _ c⟩) q⟩⟩
theorem w_app {i : Nat} {g : Px} (p : PS X st (tDrop (tBM L.K "list" rAppend (tVar i) (tCons (tW L g) tNil)))) : PS X st (tWS L (sApp i g)) := PS.imp p fun D σ H ⟨B, G, ρ, r, a, ds, hi, h⟩ => by
  obtain ⟨hs, _, _, _, vs, hv, _⟩ := gro_at r hi
  refine ⟨.ref a, hs, .inl ⟨rfl, vs, .inl (.inl hv)⟩, B, G, ρ, r, g.mono (fun d ρ1 h1 v G1 H1 r1 s1 d1 => ?_) h⟩
  obtain ⟨ds1, hi1, hl, k⟩ := h1
  obtain ⟨_, _, _, _, vs1, hv1, dv1⟩ := gro_at r1 hi1
  refine ⟨a, vs1, v, rfl, rfl, hv1, by rw [dvs_len dv1]; exact hl, ?_⟩
  exact k σ G1 _ (r1.chgG hi1 (dvs_app dv1 (.cons d1 .nil))) s1
theorem Rep.frz (r : Rep L B G H σ ρ) {i : Nat} {p : Addr} {ds : List Da} (hi : ρ[i]? = some (some (.gro p ds))) : ∃ G', Rep L B G' H σ (ρ.set i (some (.dat (.lst ds)))) ∧ Same G G' ∧ Dv L G' (.ref p) (.lst ds) := by
  obtain ⟨hs, hG, h0, hM, xs, hx, dx⟩ := gro_at r hi
  have sg : Same G (upd G p (.lst xs)) := same_upd hG
  have hmem := List.mem_of_getElem? hi
  have dv : Dv L (upd G p (.lst xs)) (.ref p) (.lst ds) := .lst upd_same (dvs_same sg dx)
  refine ⟨upd G p (.lst xs), ⟨r.gr.done h0 hx, r.mh, ?_, r.nd.sublist (own_set rfl), ?_, ?_, (fun p' qs hm b hb => (mem_set hm).elim (fun h => r.f2 p' qs h b hb) (fun z => by cases z)), ?_, r.tb.go sg (Same.refl _), fun t ht => ⟨?_, fun z => (r.tg t ht).2.1 ((own_set rfl).subset z), (r.tg t ht).2.2⟩, r.mt, fun T hm => (mem_set hm).elim (r.ft T) fun z => by cases z⟩, sg, dv⟩
  · refine paired_off r.env hi hs r.nd (fun a b hp hb hh => ?_) dv
    refine hh.grow sg (fun q fs e => ?_) (fun d l c e => ?_) fun p2 qs e b2 hb2 => by
      subst e
      exact ⟨rfl, by rw [upd_ne (fun z => hp (by rw [← z]; exact hb2))]; exact hh.g2 b2 hb2⟩
    · subst e
      refine ⟨rfl, ?_⟩
      rw [upd_ne (fun z => hp (by rw [z]; simp [slA]))]
      cases a with
      | none => exact (reps_none hh).elim
      | some v => exact hh.2.1
    · subst e
      cases a with
      | none => exact (reps_none hh).elim
      | some v =>
        obtain ⟨_, n1, n2, D⟩ := hh
        have off : ∀ b, b ∈ slA (some (Sl.drw d l c)) → b ≠ p := fun b hb z => hp (by rw [← z]; exact hb)
        exact ⟨by rw [upd_ne (off d (by simp [slA]))]; exact n1, by rw [upd_ne (off l (by simp [slA]))]; exact n2, D⟩
  · intro q fs hm
    rcases mem_set hm with hm | hm
    · exact r.fm q fs hm
    · cases hm
  · intro d l c hm
    rcases mem_set hm with hm | hm
    · exact r.fd d l c hm
    · cases hm
  · intro q hq
    obtain ⟨h1, h2, h3, h4⟩ := r.ks q hq
    refine ⟨h1, ?_, h3, fun z => h4 ((own_set rfl).subset z)⟩
    rw [upd_ne (fun z => h4 (by rw [z]; exact own_mem hmem (by simp [slA])))]
    exact h2
  · rw [upd_ne (fun z => (r.tg t ht).2.1 (by rw [z]; exact own_mem hmem (by simp [slA])))]
    exact (r.tg t ht).1
def pFz (i : Nat) : Px := ⟨fun ρ k => ∃ p ds, ρ[i]? = some (some (.gro p ds)) ∧ k (.lst ds) (ρ.set i (some (.dat (.lst ds)))), fun h ⟨p, ds, e, q⟩ => ⟨p, ds, e, h _ _ q⟩⟩
theorem w_frz {i : Nat} (p : PE X e (tVar i)) : PE X e (tW L (pFz i)) := PE.imp p fun σ H Q ⟨B, G, ρ, r, a, ds, hi, h⟩ => by
  obtain ⟨hs, _⟩ := gro_at r hi
  obtain ⟨G', r', s, dv⟩ := r.frz hi
  exact ⟨_, hs, h _ G' H r' s dv⟩
def pLenG (i : Nat) : Px := ⟨fun ρ k => ∃ p ds, ρ[i]? = some (some (.gro p ds)) ∧ k (.int ds.length) ρ, fun h ⟨p, ds, e, q⟩ => ⟨p, ds, e, h _ _ q⟩⟩
theorem w_lenG {i : Nat} (p : PE X e (tCB (fun xs H Q => ∃ p ys, xs = [.ref p] ∧ (SqL L.K H p ys ∨ SqT L.K H p ys) ∧ Q (.int ys.length) H) (tCons (tVar i) tNil))) : PE X e (tW L (pLenG i)) := PE.imp p fun σ H Q ⟨B, G, ρ, r, a, ds, hi, h⟩ => by
  obtain ⟨hs, _, _, _, vs, hv, dv⟩ := gro_at r hi
  refine ⟨_, hs, a, vs, rfl, .inl (.inl (.inl hv)), ?_⟩
  rw [dvs_len dv]
  exact h _ G H r (Same.refl _) (.int _)
def pIxG (i : Nat) (g : Px) : Px := ⟨fun ρ k => ∃ p ds, ρ[i]? = some (some (.gro p ds)) ∧ g.f ρ fun y ρ1 => ∃ ds1 n d, ρ1[i]? = some (some (.gro p ds1)) ∧ y = .int n ∧ atI ds1 n = some d ∧ k d ρ1,
  fun h ⟨p, ds, e, q⟩ => ⟨p, ds, e, g.mono (fun _ _ ⟨a, b, c, d1, d2, d3, d4⟩ => ⟨a, b, c, d1, d2, d3, h _ _ d4⟩) q⟩⟩
theorem w_ixG {i : Nat} {g : Px} (p : PE X e (tOp (rIxL L.K) (tVar i) (tW L g))) : PE X e (tW L (pIxG i g)) := PE.imp p fun σ H Q ⟨B, G, ρ, r, a, ds, hi, h⟩ => by
  obtain ⟨hs, _⟩ := gro_at r hi
  refine ⟨_, hs, B, G, ρ, r, g.mono (fun y ρ1 h1 u G1 H1 r1 s1 d1 => ?_) h⟩
  obtain ⟨ds1, n, d, hi1, rfl, ha, k⟩ := h1
  obtain ⟨_, _, _, _, vs, hv, dv⟩ := gro_at r1 hi1
  cases d1
  obtain ⟨j, h1, h2⟩ := atI_get (xs := vs) (dvs_len dv) ha
  obtain ⟨w, h3, h4⟩ := dvs_at dv h1
  exact ⟨a, vs, n, w, rfl, rfl, .inl (.inl hv), h2 w h3, k w G1 H1 r1 s1 h4⟩
def pPopG (i : Nat) (g : Px) : Px := ⟨fun ρ k => ∃ p ds, ρ[i]? = some (some (.gro p ds)) ∧ g.f ρ fun y ρ1 => ∃ ds1 n j d, ρ1[i]? = some (some (.gro p ds1)) ∧ y = .int n ∧ -(2 ^ 63) ≤ n ∧ n < 2 ^ 63 ∧ seqIndex? n ds1.length = some j ∧ ds1[j]? = some d ∧
  k d (ρ1.set i (some (.gro p (ds1.eraseIdx j)))), fun h ⟨p, ds, e, q⟩ => ⟨p, ds, e, g.mono (fun _ _ ⟨a, b, c, f, d1, d2, d3, d4, d5, d6, d7⟩ => ⟨a, b, c, f, d1, d2, d3, d4, d5, d6, h _ _ d7⟩) q⟩⟩
theorem w_popG {i : Nat} {g : Px} (p : PE X e (tBM L.K "list" rPopAt (tVar i) (tCons (tW L g) tNil))) : PE X e (tW L (pPopG i g)) := PE.imp p fun σ H Q ⟨B, G, ρ, r, a, ds, hi, h⟩ => by
  obtain ⟨hs, _, _, _, vs, hv, _⟩ := gro_at r hi
  refine ⟨.ref a, hs, .inl ⟨rfl, vs, .inl (.inl hv)⟩, B, G, ρ, r, g.mono (fun d ρ1 h1 v G1 H1 r1 s1 d1 => ?_) h⟩
  obtain ⟨ds1, n, j, x, hi1, rfl, l1, l2, hj, hx, k⟩ := h1
  obtain ⟨_, _, _, _, vs1, hv1, dv1⟩ := gro_at r1 hi1
  cases d1
  obtain ⟨w, h3, h4⟩ := dvs_at dv1 hx
  exact ⟨a, vs1, n, j, w, rfl, rfl, hv1, l1, l2, by rw [dvs_len dv1]; exact hj, h3, k w G1 _ (r1.chgG hi1 (dvs_erase j dv1)) s1 h4⟩
end
theorem own_dat : ∀ ds : List Da, own (ds.map fun d => some (Sl.dat d)) = []
  | [] => rfl
  | _ :: r => own_dat r
theorem own_none : ∀ n : Nat, own (List.replicate n none) = []
  | 0 => rfl
  | n + 1 => own_none n
def ent (ds : List Da) (n : Nat) : En := (ds.map fun d => some (Sl.dat d)) ++ List.replicate n none
theorem paired_append {α β : Type} {F : α → β → Prop} : ∀ {l m : List α} {l' m' : List β}, Paired F l l' → Paired F m m' → Paired F (l ++ m) (l' ++ m')
  | _, _, _, _, .nil, h => h
  | _, _, _, _, .cons a t, h => .cons a (paired_append t h)
theorem env_dat {L : Ly} {G H : Hp} : ∀ {vs : List V} {ds : List Da}, DvAll L G vs ds → Paired (RepS L G H) (vs.map some) (ds.map fun d => some (Sl.dat d))
  | _, _, .nil => .nil
  | _, _, .cons h t => .cons h (env_dat t)
theorem env_none {L : Ly} {G H : Hp} : ∀ n : Nat, Paired (RepS L G H) (List.replicate n (none : Option V)) (List.replicate n none)
  | 0 => .nil
  | n + 1 => .cons trivial (env_none n)
theorem rep_ent {L : Ly} {G H : Hp} {vs : List V} {ds : List Da} {n : Nat} (s : Same G H) (h : DvAll L G vs ds) : Rep L ⟨M0, G, H, [], []⟩ G H (vs.map some ++ List.replicate n none) (ent ds n) where
  gr := Grow.refl s
  mh := fun _ z => z.elim
  env := paired_append (env_dat h) (env_none n)
  nd := by
    have e : own (ent ds n) = [] := by
      unfold ent own
      rw [List.flatMap_append]
      have h1 := own_dat ds
      have h2 := own_none n
      unfold own at h1 h2
      rw [h1, h2]
      rfl
    rw [e]
    exact List.nodup_nil
  f2 := fun p qs hm => by
    unfold ent at hm
    rcases List.mem_append.mp hm with hm | hm
    · obtain ⟨d, _, e⟩ := List.mem_map.mp hm
      cases e
    · obtain ⟨_, e⟩ := List.mem_replicate.mp hm
      cases e
  fm := fun p es hm => by
    unfold ent at hm
    rcases List.mem_append.mp hm with hm | hm
    · obtain ⟨d, _, e⟩ := List.mem_map.mp hm
      cases e
    · obtain ⟨_, e⟩ := List.mem_replicate.mp hm
      cases e
  fd := fun d l c hm => by
    unfold ent at hm
    rcases List.mem_append.mp hm with hm | hm
    · obtain ⟨d, _, e⟩ := List.mem_map.mp hm
      cases e
    · obtain ⟨_, e⟩ := List.mem_replicate.mp hm
      cases e
  ks := fun q hq => by cases hq
  tb := fun p hp => by cases hp
  tg := fun p hp => by cases hp
  mt := fun p hp => by cases hp
  ft := fun T hm => by
    unfold ent at hm
    rcases List.mem_append.mp hm with hm | hm
    · obtain ⟨d, _, e⟩ := List.mem_map.mp hm
      cases e
    · obtain ⟨_, e⟩ := List.mem_replicate.mp hm
      cases e
theorem calF {L : Ly} {P : Program} {w : World} {mg : Str → Option Value} {base : Heap} {x : Str} {st : Stmt} {f : Addr} {fd : FuncData} {N ps : List Str} {k n : Nat} {F : Pf} (Fd : C8.Def L.K mg x st f fd) (b : Binds L.K fd ps []) (S : FnScope N ps (C8.fnScope st))
    (hlen : ∀ ds k, F.f ds k → ds.length = ps.length) (hN : ∀ vs : List V, vs.length = ps.length → start N vs = vs.map some ++ List.replicate n none)
    (hbody : ∀ (cdv : Value) (A : Around) (outer : List Env) (s : Shared) (H : Hp) (E : XK), Room k (A.deeper (envOfC x (C8.fnScope st) s.heap.objs.size f cdv)) → A.guards = some [] →
      ∃ g : Ps, PSs (cxOf C8.CX0 P w L.K mg base N x (C8.fnScope st) f cdv A outer s H E).nox (C8.fnBody st) (tWS L g) ∧
        ∀ ds kk, F.f ds kk → g.f (ent ds n) (fun _ => kk .non) (fun d _ => kk d) (fun _ => False) (fun _ => False)) : CalG P w L.K mg base C8.CX0 (k + 1) x (spF L F) := by
  refine calG0 Fd b S ?_ ?_
  · rintro vs H Q E ⟨G, ds, s, dv, h⟩
    exact (dvs_len dv).trans (hlen ds _ h)
  · rintro cdv A outer s H vs Q E hr hgu ⟨G, ds, sg, dv, h⟩
    obtain ⟨g, hp, hF⟩ := hbody cdv A outer s H E hr hgu
    refine ⟨_, hp, ?_⟩
    rw [hN vs ((dvs_len dv).trans (hlen ds _ h))]
    refine ⟨⟨M0, G, H, [], []⟩, G, ent ds n, rep_ent sg dv, g.mono ?_ ?_ ?_ ?_ (hF ds _ h)⟩
    · intro ρ' q σ' G' H' r' _
      exact q .non G' H' r'.gr .non
    · intro d ρ' q v σ' G' H' r' _ d'
      exact q v G' H' r'.gr d'
    · intro _ z
      exact z.elim
    · intro _ z
      exact z.elim
end Fw

namespace Fw
open PySem PySem.Spec PyProof.Rows L2 Fr
section
variable {X : Cx} {L : Ly} {B : Bs} {G H : Hp} {σ : L2.St} {ρ : En} {st : Stmt} {e : Expr}
def Wk (L : Ly) (J : It) (G : Hp) (ds : List Da) : Prop := ∀ G' H, Same G G' → Same G' H → ∀ i, i ≤ ds.length → (i = ds.length → J.stop i H) ∧
  (i < ds.length → J.go i H ∧ ∀ x H', J.yld i H x H' → ∃ G'' d, Grow M0 G' H G'' H' ∧ ds[i]? = some d ∧ Dv L G'' x d)
theorem wk_list {a : Addr} {xs : List V} {ds : List Da} (h : G a = some (.lst xs)) (ha : DvAll L G xs ds) : Wk L (Itl L.K a) G ds := fun G' H s s' i hi => by
  have q : SqL L.K H a xs := .inl (.inl (s' _ _ (s _ _ h)))
  rw [← dvs_len ha] at hi ⊢
  refine ⟨fun e => ⟨xs, q, by rw [e]; exact Nat.le_refl _⟩, fun hlt => ⟨⟨xs, xs[i], q, by simp [hlt]⟩, fun x H' y => ?_⟩⟩
  obtain ⟨e, y⟩ := y
  subst e
  obtain ⟨d, hd, dv⟩ := dvs_get ha (y xs q)
  exact ⟨G', d, Grow.refl s', hd, dv_same s dv⟩
theorem wk_tup {a : Addr} {xs : List V} {ds : List Da} (h : SqT L.K G a xs) (ha : DvAll L G xs ds) : Wk L (Itt L.K a) G ds := fun G' H s s' i hi => by
  have q := same_sqt s' (same_sqt s h)
  rw [← dvs_len ha] at hi ⊢
  refine ⟨fun e => ⟨xs, q, by rw [e]; exact Nat.le_refl _⟩, fun hlt => ⟨⟨xs, xs[i], q, by simp [hlt]⟩, fun x H' y => ?_⟩⟩
  obtain ⟨e, y⟩ := y
  subst e
  obtain ⟨d, hd, dv⟩ := dvs_get ha (y xs q)
  exact ⟨G', d, Grow.refl s', hd, dv_same s dv⟩
def rgD (lo : Int) (n : Nat) : List Da := (List.range n).map fun i => Da.int (lo + (i : Nat))
theorem wk_rng {lo : Int} {n : Nat} : Wk L (Itr lo n) G (rgD lo n) := fun G' H s s' i hi => by
  have hl : (rgD lo n).length = n := by simp [rgD]
  rw [hl] at hi ⊢
  refine ⟨fun e => Nat.le_of_eq e.symm, fun hlt => ⟨hlt, fun x H' y => ?_⟩⟩
  obtain ⟨e, y⟩ := y
  subst e y
  exact ⟨G', .int (lo + i), Grow.refl s', by simp [rgD, hlt], .int _⟩
def tWI (L : Ly) (g : Pl) : TI := fun σ H R => ∃ B G ρ, Rep L B G H σ ρ ∧ g.f ρ fun ds ρ' => ∀ J G' H', Rep L B G' H' σ ρ' → Same G G' → Wk L J G' ds → R J H'
theorem PI.imp {tg : Expr} {t t' : TI} (p : PI X tg e t) (h : ∀ σ H Q, t' σ H Q → t σ H Q) : PI X tg e t' := ⟨fun pins s σ H R I q => p.run pins s σ H R I (h _ _ _ q)⟩
def pIL (g : Px) : Pl := ⟨fun ρ k => g.f ρ fun d ρ1 => ∃ ds, d = .lst ds ∧ k ds ρ1, fun h => g.mono fun _ _ ⟨ds, e, q⟩ => ⟨ds, e, h _ _ q⟩⟩
theorem w_il {tg : Expr} {g : Px} (p : PI X tg e (iList L.K (tW L g))) : PI X tg e (tWI L (pIL g)) := PI.imp p fun σ H R ⟨B, G, ρ, r, h⟩ =>
  ⟨B, G, ρ, r, g.mono (fun d ρ1 ⟨ds, e, h1⟩ v G1 H1 r1 s1 d1 => by
    subst e
    cases d1 with
    | @lst a xs _ hs ha => exact ⟨a, rfl, ⟨xs, .inl (.inl (r1.gh _ _ hs))⟩, h1 _ G1 H1 r1 s1 (wk_list hs ha)⟩) h⟩
def pR1 (g : Pl) : Pl := ⟨fun ρ k => g.f ρ fun ds ρ1 => ∃ j : Int, ds = [.int j] ∧ -(2 ^ 62) ≤ j ∧ j < 2 ^ 62 ∧ k (rgD 0 j.toNat) ρ1, fun h => g.mono fun _ _ ⟨j, a, b, c, q⟩ => ⟨j, a, b, c, h _ _ q⟩⟩
theorem dv_int {v : V} {i : Int} (h : Dv L G v (.int i)) : v = .int i := by cases h; rfl
theorem w_ir1 {tg : Expr} {g : Pl} (p : PI X tg e (iRng1 (tWA L g))) : PI X tg e (tWI L (pR1 g)) := PI.imp p fun σ H R ⟨B, G, ρ, r, h⟩ =>
  ⟨B, G, ρ, r, g.mono (fun ds ρ1 ⟨j, e, a, b, h1⟩ vs G1 H1 r1 s1 d1 => by
    subst e
    cases d1 with
    | cons d t =>
      cases t
      rw [dv_int d]
      exact ⟨j, rfl, a, b, h1 _ G1 H1 r1 s1 wk_rng⟩) h⟩
def sForI (src : Pl) (t : Tg) (g : Ps) : Ps := ⟨fun ρ nx rt _ _ => src.f ρ fun ds ρ1 => loopF t g nx rt ds ρ1, fun a b _ _ => src.mono fun _ _ q => loopF_mono a b q⟩
theorem Rep.go {G' H' : Hp} (r : Rep L B G H σ ρ) (g : Grow M0 G H G' H') : Rep L B G' H' σ ρ := r.step (g.weak fun _ z => z.elim) (fun _ _ _ h => draw_same (draw_mem r h).1 g.same) (r.tb.go g.gg g.same)
theorem w_forI {src : Pl} {gt : TG} {t : Tg} {g : Ps} (hg : SndG L gt t) (p : PS X st (tFor (tWI L src) gt (tWS L g))) : PS X st (tWS L (sForI src t g)) := PS.imp p fun D σ H ⟨B, G, ρ, r, k⟩ =>
  ⟨B, G, ρ, r, src.mono (fun ds ρ1 h1 J G1 H1 r1 s1 wk => by
    obtain ⟨Inv, hInv⟩ : ∃ Inv : Nat → L2.St → Hp → Prop, ∀ i σ' H', Inv i σ' H' ↔ ∃ G' ρ', Rep L B G' H' σ' ρ' ∧ Same G1 G' ∧ loopF t g
      (fun ρ' => ∀ σ' G' H', Rep L B G' H' σ' ρ' → Same G G' → D.nx σ' H')
      (fun d ρ' => ∀ v σ' G' H', Rep L B G' H' σ' ρ' → Same G G' → Dv L G' v d → D.rt v H') (ds.drop i) ρ' := ⟨_, fun _ _ _ => Iff.rfl⟩
    refine ⟨fun i m σ' H' => m = ds.length - i ∧ i ≤ ds.length ∧ Inv i σ' H', ⟨ds.length, by simp, Nat.zero_le _, (hInv _ _ _).mpr ⟨G1, ρ1, r1, Same.refl _, by simpa using h1⟩⟩, ?_⟩
    rintro i m σ' H' ⟨rfl, hi, q⟩
    obtain ⟨G', ρ', r', s', hl⟩ := (hInv _ _ _).mp q
    have hw := wk G' H' s' r'.gh i hi
    by_cases hlt : i < ds.length
    · refine .inr ⟨(hw.2 hlt).1, Inv (i + 1), fun σ2 H2 q2 => ⟨ds.length - (i + 1), by omega, rfl, hlt, q2⟩, fun x H2 y => ?_⟩
      obtain ⟨G2, d, gr, hd, dv⟩ := (hw.2 hlt).2 x H2 y
      rw [drop_at hd] at hl
      refine hg (r'.go gr) dv (t.mono (fun ρ2 h2 σ2 r2 => ⟨B, G2, ρ2, r2, g.mono ?_ ?_ ?_ ?_ h2⟩) hl)
      · intro ρ3 h3 σ3 G3 H3 r3 s3
        exact (hInv _ _ _).mpr ⟨G3, ρ3, r3, s'.trans (gr.gg.trans s3), h3⟩
      · intro d3 ρ3 h3 v σ3 G3 H3 r3 s3
        exact h3 v σ3 G3 H3 r3 (s1.trans (s'.trans (gr.gg.trans s3)))
      · intro ρ3 h3 σ3 G3 H3 r3 s3
        exact h3 σ3 G3 H3 r3 (s1.trans (s'.trans (gr.gg.trans s3)))
      · intro ρ3 h3 σ3 G3 H3 r3 s3
        exact (hInv _ _ _).mpr ⟨G3, ρ3, r3, s'.trans (gr.gg.trans s3), h3⟩
    · have e : i = ds.length := by omega
      subst e
      rw [List.drop_length] at hl
      exact .inl ⟨hw.1 rfl, hl σ' G' H' r' (s1.trans s')⟩) k⟩
def zipD (as bs : List Da) : List Da := List.zipWith (fun a b => Da.tup [a, b]) as bs
def pZip (g : Pl) : Pl := ⟨fun ρ k => g.f ρ fun ds ρ1 => ∃ as bs, ds = [.lst as, .lst bs] ∧ k (zipD as bs) ρ1, fun h => g.mono fun _ _ ⟨as, bs, e, q⟩ => ⟨as, bs, e, h _ _ q⟩⟩
theorem zip_at {as bs : List Da} {i : Nat} {a b : Da} (ha : as[i]? = some a) (hb : bs[i]? = some b) : (zipD as bs)[i]? = some (.tup [a, b]) := by
  unfold zipD
  rw [List.getElem?_zipWith, ha, hb]
theorem wk_zip {a b : Addr} {xs ys : List V} {as bs : List Da} (hx : G a = some (.lst xs)) (hy : G b = some (.lst ys)) (ha : DvAll L G xs as) (hb : DvAll L G ys bs) : Wk L (Itz L.K a b) G (zipD as bs) := fun G' H s s' i hi => by
  have q1 : SqL L.K H a xs := .inl (.inl (s' _ _ (s _ _ hx)))
  have q2 : SqL L.K H b ys := .inl (.inl (s' _ _ (s _ _ hy)))
  have hl : (zipD as bs).length = min xs.length ys.length := by
    unfold zipD
    rw [List.length_zipWith, dvs_len ha, dvs_len hb]
  rw [hl] at hi ⊢
  refine ⟨fun e => ⟨xs, ys, q1, q2, by omega⟩, fun hlt => ?_⟩
  have l1 : i < xs.length := by omega
  have l2 : i < ys.length := by omega
  refine ⟨⟨xs, ys, xs[i], ys[i], q1, q2, by simp [l1], by simp [l2]⟩, fun v H' y => ?_⟩
  obtain ⟨T, x, z, rfl, hT, rfl, y1, y2⟩ := y
  obtain ⟨d1, e1, v1⟩ := dvs_get ha (y1 xs q1)
  obtain ⟨d2, e2, v2⟩ := dvs_get hb (y2 ys q2)
  have nT : G' T = none := s'.free hT
  have st := same_upd nT (o := .tup [x, z])
  exact ⟨upd G' T (.tup [x, z]), .tup [d1, d2], Grow.lay s' hT, zip_at e1 e2, .tup (.inl (.inl upd_same)) (.cons (dv_same (s.trans st) v1) (.cons (dv_same (s.trans st) v2) .nil))⟩
theorem w_iz {tg : Expr} {g : Pl} (p : PI X tg e (iZip L.K (tWA L g))) : PI X tg e (tWI L (pZip g)) := PI.imp p fun σ H R ⟨B, G, ρ, r, h⟩ =>
  ⟨B, G, ρ, r, g.mono (fun ds ρ1 ⟨as, bs, e, h1⟩ vs G1 H1 r1 s1 d1 => by
    subst e
    cases d1 with
    | cons d t =>
      cases t with
      | cons d' t =>
        cases t
        cases d with
        | @lst a xs _ hs ha =>
          cases d' with
          | @lst b ys _ hs' ha' => exact ⟨a, b, xs, ys, rfl, .inl (.inl (r1.gh _ _ hs)), .inl (.inl (r1.gh _ _ hs')), h1 _ G1 H1 r1 s1 (wk_zip hs hs' ha ha')⟩) h⟩
def enumD (as : List Da) : List Da := (List.range as.length).map fun i => Da.tup [.int (i : Nat), as.getD i .non]
def pEnum (g : Pl) : Pl := ⟨fun ρ k => g.f ρ fun ds ρ1 => ∃ as, ds = [.lst as] ∧ k (enumD as) ρ1, fun h => g.mono fun _ _ ⟨as, e, q⟩ => ⟨as, e, h _ _ q⟩⟩
theorem wk_enum {a : Addr} {xs : List V} {as : List Da} (hx : G a = some (.lst xs)) (ha : DvAll L G xs as) : Wk L (Ite L.K a) G (enumD as) := fun G' H s s' i hi => by
  have q1 : SqL L.K H a xs := .inl (.inl (s' _ _ (s _ _ hx)))
  have hl : (enumD as).length = xs.length := by
    unfold enumD
    rw [List.length_map, List.length_range, dvs_len ha]
  rw [hl] at hi ⊢
  refine ⟨fun e => ⟨xs, q1, by omega⟩, fun hlt => ⟨⟨xs, xs[i], q1, by simp [hlt]⟩, fun v H' y => ?_⟩⟩
  obtain ⟨T, x, rfl, hT, rfl, y1⟩ := y
  obtain ⟨d1, e1, v1⟩ := dvs_get ha (y1 xs q1)
  have nT : G' T = none := s'.free hT
  have st := same_upd nT (o := .tup [.int (i : Nat), x])
  refine ⟨upd G' T (.tup [.int (i : Nat), x]), .tup [.int (i : Nat), d1], Grow.lay s' hT, ?_, .tup (.inl (.inl upd_same)) (.cons (.int _) (.cons (dv_same (s.trans st) v1) .nil))⟩
  have hi2 : i < as.length := by rw [← dvs_len ha]; exact hlt
  unfold enumD
  rw [List.getElem?_map, List.getElem?_range hi2, Option.map_some, List.getD_eq_getElem?_getD, e1]
  rfl
theorem w_ie {tg : Expr} {g : Pl} (p : PI X tg e (iEnum L.K (tWA L g))) : PI X tg e (tWI L (pEnum g)) := PI.imp p fun σ H R ⟨B, G, ρ, r, h⟩ =>
  ⟨B, G, ρ, r, g.mono (fun ds ρ1 ⟨as, e, h1⟩ vs G1 H1 r1 s1 d1 => by
    subst e
    cases d1 with
    | cons d t =>
      cases t
      cases d with
      | @lst a xs _ hs ha => exact ⟨a, xs, rfl, .inl (.inl (r1.gh _ _ hs)), h1 _ G1 H1 r1 s1 (wk_enum hs ha)⟩) h⟩
end
end Fw

namespace Fw
open PySem PySem.Spec PyProof.Rows L2 Fr
def wipeR (ρ : En) : List Nat → En
  | [] => ρ
  | v :: vs => (wipeR ρ vs).set v none
section
variable {X : Cx} {L : Ly} {B : Bs} {G H : Hp} {σ σ' : L2.St} {ρ : En} {st : Stmt} {e : Expr} {vs : List Nat}
theorem Rep.env' (r : Rep L B G H σ ρ) (h : Paired (RepS L G H) σ' ρ) : Rep L B G H σ' ρ := { r with env := h }
theorem reps_no {v : Option V} : RepS L G H v none := by cases v <;> trivial
theorem Rep.setN (r : Rep L B G H σ ρ) (i : Nat) (v : Option V) : Rep L B G H (σ.set i v) (ρ.set i none) where
  gr := r.gr
  mh := r.mh
  env := paired_set reps_no i r.env
  nd := r.nd.sublist (own_set rfl)
  fm := fun p ds hm => (mem_set hm).elim (r.fm p ds) fun z => by cases z
  f2 := fun p qs hm b hb => (mem_set hm).elim (fun h => r.f2 p qs h b hb) fun z => by cases z
  fd := fun d' l c hm => (mem_set hm).elim (r.fd d' l c) fun z => by cases z
  ks := fun q hq => by
    obtain ⟨h1, h2, h3, h4⟩ := r.ks q hq
    exact ⟨h1, h2, h3, fun z => h4 ((own_set rfl).subset z)⟩
  tb := r.tb
  tg := fun p hp => ⟨(r.tg p hp).1, fun z => (r.tg p hp).2.1 ((own_set rfl).subset z), (r.tg p hp).2.2⟩
  mt := r.mt
  ft := fun T hm => (mem_set hm).elim (r.ft T) fun z => by cases z
theorem Rep.wipe (r : Rep L B G H σ ρ) : ∀ vs : List Nat, Rep L B G H (L2.wipe σ vs) (wipeR ρ vs)
  | [] => r
  | v :: vs => (r.wipe vs).setN v none
theorem paired_unset {F : Option V → Option Sl → Prop} (hF : ∀ a, F a none) : ∀ {σ : L2.St} {μ : En} {v : Nat}, Paired F (σ.set v none) μ → (∀ t, μ[v]? = some t → t = none) → Paired F σ μ
  | [], _, _, h, _ => by simpa using h
  | s :: r, _, 0, .cons a t, hn => by
    have e := hn _ rfl
    subst e
    exact .cons (hF s) t
  | s :: r, _, v + 1, .cons a t, hn => .cons a (paired_unset hF t fun t ht => hn t (by simpa using ht))
def WpR (vs : List Nat) (ρ : En) : Prop := ∀ i ∈ vs, ∀ t, ρ[i]? = some t → t = none
theorem paired_unwipe {F : Option V → Option Sl → Prop} (hF : ∀ a, F a none) {μ : En} : ∀ {vs : List Nat}, Paired F (L2.wipe σ vs) μ → WpR vs μ → Paired F σ μ
  | [], h, _ => h
  | v :: vs, h, hn => paired_unwipe (vs := vs) hF (paired_unset hF h (hn v List.mem_cons_self)) fun i hi => hn i (List.mem_cons_of_mem _ hi)
theorem Rep.unwipe (r : Rep L B G H (L2.wipe σ vs) ρ) (h : WpR vs ρ) : Rep L B G H σ ρ := r.env' (paired_unwipe (fun _ => reps_no) r.env h)
theorem wpR_wipe (ρ : En) : ∀ vs : List Nat, WpR vs (wipeR ρ vs)
  | [], i, hi, _, _ => by cases hi
  | v :: vs, i, hi, t, ht => by
    have ht' : ((wipeR ρ vs).set v none)[i]? = some t := ht
    by_cases hv : v = i
    · subst hv
      rw [List.getElem?_set] at ht'
      simp at ht'
      exact ht'.2.symm
    · rw [List.getElem?_set_ne hv] at ht'
      rcases List.mem_cons.mp hi with e | hi
      · exact absurd e.symm hv
      · exact wpR_wipe ρ vs i hi t ht'
theorem wipe_set {i : Nat} {x : Option V} : ∀ {vs : List Nat}, i ∈ vs → L2.wipe (σ.set i x) vs = L2.wipe σ vs
  | v :: vs, hi => by
    show (L2.wipe (σ.set i x) vs).set v none = (L2.wipe σ vs).set v none
    by_cases h : i ∈ vs
    · rw [wipe_set h]
    · have e : i = v := by
        rcases List.mem_cons.mp hi with e | z
        · exact e
        · exact absurd z h
      subst e
      have : ∀ ws : List Nat, i ∉ ws → L2.wipe (σ.set i x) ws = (L2.wipe σ ws).set i x := by
        intro ws
        induction ws with
        | nil => intro _; rfl
        | cons w ws ih =>
          intro hw
          simp only [List.mem_cons, not_or] at hw
          show (L2.wipe (σ.set i x) ws).set w none = ((L2.wipe σ ws).set w none).set i x
          rw [ih hw.2, List.set_comm _ _ hw.1]
      rw [this vs h, List.set_set]
theorem wipe_wipe : ∀ vs : List Nat, L2.wipe (L2.wipe σ vs) vs = L2.wipe σ vs
  | [] => rfl
  | v :: vs => by
    show L2.wipe ((L2.wipe σ vs).set v none) (v :: vs) = _
    rw [wipe_set List.mem_cons_self]
    show (L2.wipe (L2.wipe σ vs) vs).set v none = _
    rw [wipe_wipe vs]
    rfl
def SndV (L : Ly) (g : TG) (t : Tg) (vs : List Nat) : Prop := ∀ {B : Bs} {G H : Hp} {σ : L2.St} {ρ : En} {v : V} {d : Da} {k : L2.St → Hp → Prop}, Rep L B G H σ ρ → Dv L G v d → t.f d ρ (fun ρ' => ∀ σ', Rep L B G H σ' ρ' → L2.wipe σ' vs = L2.wipe σ vs → k σ' H) → g v σ H k
def SndVs (L : Ly) (g : TGs) (t : Tgs) (vs : List Nat) : Prop := ∀ {B : Bs} {G H : Hp} {σ : L2.St} {ρ : En} {ws : List V} {ds : List Da} {k : L2.St → Hp → Prop}, Rep L B G H σ ρ → DvAll L G ws ds → t.f ds ρ (fun ρ' => ∀ σ', Rep L B G H σ' ρ' → L2.wipe σ' vs = L2.wipe σ vs → k σ' H) → g ws σ H k
theorem sndv_N {i : Nat} (hi : i ∈ vs) : SndV L (gName i) (tgN i) vs := fun r d1 h => h _ (r.setD d1) (wipe_set hi)
theorem sndv_nil : SndVs L gNil tgNil vs := by
  rintro B G H σ ρ ws ds k r d ⟨rfl, h⟩
  cases d
  exact ⟨rfl, h σ r rfl⟩
theorem sndv_cons {g : TG} {gs : TGs} {t : Tg} {u : Tgs} (h1 : SndV L g t vs) (h2 : SndVs L gs u vs) : SndVs L (gCons g gs) (tgCons t u) vs := by
  rintro B G H σ ρ ws ds k r d ⟨x, xs, rfl, h⟩
  cases d with
  | cons d1 d2 => exact ⟨_, _, rfl, h1 r d1 (t.mono (fun ρ1 z σ' r' e => h2 r' d2 (u.mono (fun _ y σ2 r2 e2 => y σ2 r2 (e2.trans e)) z)) h)⟩
theorem sndv_tup {n : Nat} {gs : TGs} {u : Tgs} (h2 : SndVs L gs u vs) : SndV L (gTup L.K n gs) (tgTup n u) vs := by
  rintro B G H σ ρ v d k r dv ⟨ds, rfl, hl, h⟩
  cases dv with
  | @tup a xs _ hs ha => exact ⟨a, xs, rfl, same_sqt r.gh hs, (dvs_len ha).trans hl, h2 r ha h⟩
def Bs.kp (B : Bs) (D : Addr) (o : HO) : Bs := { B with ks := (D, o) :: B.ks }
variable {D : Addr} {o o' : HO}
theorem Rep.kp (r : Rep L B G H σ ρ) (n : H D = none) : Rep L (B.kp D o) G (upd H D o) σ ρ := by
  have q := r.step (Grow.new (o := o) r.gh n) (fun d l c h => draw_same (draw_mem r h).1 (same_upd n)) (r.tb.go (Same.refl _) (same_upd n))
  refine { q with ks := fun x hx => ?_, tg := fun t ht => ⟨(r.tg t ht).1, (r.tg t ht).2.1, fun x hx => ?_⟩ }
  rotate_left
  · rcases List.mem_cons.mp hx with e | hx
    · subst e
      exact fun z => (r.tb t ht).tk (by rw [← z]; exact n)
    · exact (r.tg t ht).2.2 x hx
  rcases List.mem_cons.mp hx with e | hx
  · subst e
    exact ⟨upd_same, r.gh.free n, fun z => r.mH z n, fun z => r.own _ z n⟩
  · exact q.ks x hx
theorem Rep.kpAt (r : Rep L (B.kp D o) G H σ ρ) : H D = some o ∧ G D = none ∧ ¬ B.M D ∧ D ∉ Fw.own ρ := r.ks (D, o) List.mem_cons_self
theorem Rep.kpChg (r : Rep L (B.kp D o) G H σ ρ) (h0 : B.H0 D = none) (ne : ∀ q ∈ B.ks, q.1 ≠ D) : Rep L (B.kp D o') G (upd H D o') σ ρ := by
  obtain ⟨hx, hG, hM, ho⟩ := r.kpAt
  refine ⟨⟨r.gr.gg, fun b o e => ?_, fun b o n e => ?_, fun b e => trk_upd b (r.gr.tr b e), r.gr.nw⟩, r.mh, ?_, r.nd, r.fm, r.fd, r.f2, ?_, fun t ht => (r.tb t ht).go (Same.refl _) fun u hu => ?_, fun t ht => ⟨(r.tg t ht).1, (r.tg t ht).2.1, fun q hq => ?_⟩, r.mt, r.ft⟩
  · rw [upd_ne (ne_of_none e hG)]
    exact r.gh _ _ e
  · rw [upd_ne (ne_of_none e h0)]
    exact r.gr.hh b o n e
  · refine paired_imp r.env fun a b hb hh => hh.grow (Same.refl _) (fun q fs e => ?_) (fun d l c e => ?_) fun p2 qs e b2 hb2 => by
      subst e
      exact ⟨upd_ne (fun z => ho (by rw [← z]; exact own_mem hb hb2)), hh.g2 b2 hb2⟩
    · subst e
      refine ⟨upd_ne (fun z => ho (by rw [← z]; exact own_mem hb (by simp [slA]))), ?_⟩
      cases a with
      | none => exact (reps_none hh).elim
      | some v => exact hh.2.1
    · subst e
      cases a with
      | none => exact (reps_none hh).elim
      | some v =>
        obtain ⟨_, n1, n2, q1, q2, q3, q4, T⟩ := hh
        have off : ∀ b, b ∈ slA (some (Sl.drw d l c)) → b ≠ D := fun b hb' z => ho (by rw [← z]; exact own_mem hb hb')
        exact ⟨n1, n2, q1, q2, q3, q4, by rw [upd_ne (off d (by simp [slA]))]; exact T.hd, by rw [upd_ne (off l (by simp [slA]))]; exact T.hl, by rw [upd_ne (off c (by simp [slA]))]; exact T.hc, T.ne⟩
  · intro q hq
    rcases List.mem_cons.mp hq with e | hq
    · subst e
      exact ⟨upd_same, hG, hM, ho⟩
    · obtain ⟨h1, h2, h3, h4⟩ := r.ks q (List.mem_cons_of_mem _ hq)
      exact ⟨by rw [upd_ne (ne q hq)]; exact h1, h2, h3, h4⟩
  · rw [upd_ne (fun z => (r.tg t ht).2.2 (D, o) List.mem_cons_self z.symm)]
    exact hu
  · rcases List.mem_cons.mp hq with e | hq
    · subst e
      exact (r.tg t ht).2.2 (D, o) List.mem_cons_self
    · exact (r.tg t ht).2.2 q (List.mem_cons_of_mem _ hq)
theorem Rep.kpDone (r : Rep L (B.kp D o) G H σ ρ) (h0 : B.H0 D = none) (ne : ∀ q ∈ B.ks, q.1 ≠ D) : Rep L B (upd G D o) H σ ρ := by
  obtain ⟨hx, hG, hM, ho⟩ := r.kpAt
  have sg : Same G (upd G D o) := same_upd hG
  refine ⟨r.gr.done h0 hx, r.mh, ?_, r.nd, r.fm, r.fd, r.f2, ?_, r.tb.go sg (Same.refl _), fun t ht => ⟨?_, (r.tg t ht).2.1, fun q hq => (r.tg t ht).2.2 q (List.mem_cons_of_mem _ hq)⟩, r.mt, r.ft⟩
  · refine paired_imp r.env fun a b hb hh => hh.grow sg (fun q fs e => ?_) (fun d l c e => ?_) fun p2 qs e b2 hb2 => by
      subst e
      exact ⟨rfl, by rw [upd_ne (fun z => ho (by rw [← z]; exact own_mem hb hb2))]; exact hh.g2 b2 hb2⟩
    · subst e
      refine ⟨rfl, ?_⟩
      rw [upd_ne (fun z => ho (by rw [← z]; exact own_mem hb (by simp [slA])))]
      cases a with
      | none => exact (reps_none hh).elim
      | some v => exact hh.2.1
    · subst e
      cases a with
      | none => exact (reps_none hh).elim
      | some v =>
        obtain ⟨_, n1, n2, T⟩ := hh
        have off : ∀ b, b ∈ slA (some (Sl.drw d l c)) → b ≠ D := fun b hb' z => ho (by rw [← z]; exact own_mem hb hb')
        exact ⟨by rw [upd_ne (off d (by simp [slA]))]; exact n1, by rw [upd_ne (off l (by simp [slA]))]; exact n2, T⟩
  · intro q hq
    obtain ⟨h1, h2, h3, h4⟩ := r.ks q (List.mem_cons_of_mem _ hq)
    exact ⟨h1, by rw [upd_ne (ne q hq)]; exact h2, h3, h4⟩
  · rw [upd_ne (fun z => (r.tg t ht).2.2 (D, o) List.mem_cons_self z.symm)]
    exact (r.tg t ht).1
def lcP (t : Tg) (c : Pt) (el : Px) (vs : List Nat) (k : List Da → En → Prop) : List Da → List Da → En → Prop
  | [], acc, ρ => k acc ρ
  | x :: r, acc, ρ => t.f x ρ fun ρ2 => c.f ρ2 fun b ρ3 => if b = true then el.f ρ3 fun y ρ4 => acc.length < sizeLine ∧ lcP t c el vs k r (acc ++ [y]) (wipeR ρ4 vs) else lcP t c el vs k r acc (wipeR ρ3 vs)
theorem lcP_mono {t : Tg} {c : Pt} {el : Px} {k k' : List Da → En → Prop} (h : ∀ d r, k d r → k' d r) : ∀ {ds acc : List Da} {ρ : En}, lcP t c el vs k ds acc ρ → lcP t c el vs k' ds acc ρ
  | [], _, _, q => h _ _ q
  | _ :: r, _, _, q => t.mono (fun _ => c.mono fun b _ z => by
    by_cases hb : b = true
    · rw [if_pos hb] at z ⊢
      exact el.mono (fun _ _ y => ⟨y.1, lcP_mono h (ds := r) y.2⟩) z
    · rw [if_neg hb] at z ⊢
      exact lcP_mono h (ds := r) z) q
def pYes : Pt := ⟨fun ρ k => k true ρ, fun h => h _ _⟩
theorem PTs.imp {es : List Expr} {t t' : TT} (p : PTs X es t) (h : ∀ σ H Q, t' σ H Q → t σ H Q) : PTs X es t' := ⟨fun pins s σ H Q I q => p.run pins s σ H Q I (h _ _ _ q)⟩
theorem w_tnil : PTs X [] (tWT L pYes) := PTs.imp pts_nil fun σ H Q ⟨B, G, ρ, r, h⟩ => h G H r (Same.refl _)
theorem w_tone {g : Pt} (h : PT X e (tWT L g)) : PTs X [e] (tWT L g) := pts_one h
def tWN (L : Ly) (g : Pl) : TE := fun σ H Q => ∃ B G ρ, Rep L B G H σ ρ ∧ g.f ρ fun ds ρ' => ∀ p us G' H', Rep L (B.kp p (.lst us)) G' H' σ ρ' → B.H0 p = none → (∀ q ∈ B.ks, q.1 ≠ p) → Same G G' → DvAll L G' us ds → Q (.ref p) H'
def pNL (g : Pl) : Px := ⟨fun ρ k => g.f ρ fun ds ρ1 => k (.lst ds) ρ1, fun h => g.mono fun _ _ => h _ _⟩
theorem imp_NL {g : Pl} : ∀ σ H Q, tW L (pNL g) σ H Q → tWN L g σ H Q := fun σ H Q ⟨B, G, ρ, r, h⟩ =>
  ⟨B, G, ρ, r, g.mono (fun ds ρ1 h1 p us G1 H1 r1 h0 ne s1 d1 => by
    obtain ⟨_, hG, _, _⟩ := r1.kpAt
    exact h1 _ _ _ (r1.kpDone h0 ne) (s1.trans (same_upd hG)) (.lst upd_same (dvs_same (same_upd hG) d1))) h⟩
theorem w_NL {g : Pl} (p : PE X e (tWN L g)) : PE X e (tW L (pNL g)) := PE.imp p imp_NL
def pLcN (src : Pl) (t : Tg) (c : Pt) (el : Px) (vs : List Nat) : Pl := ⟨fun ρ k => src.f ρ fun ds ρ1 => lcP t c el vs k ds [] (wipeR ρ1 vs), fun h => src.mono fun _ _ => lcP_mono fun _ _ => h _ _⟩
theorem imp_lcN {src : Pl} {g : TG} {t : Tg} {c : Pt} {el : Px} (hg : SndV L g t vs) : ∀ σ H Q, tWN L (pLcN src t c el vs) σ H Q → tLc (tWI L src) g (tWT L c) (tW L el) vs σ H Q := by
  rintro σ H Q ⟨B, G, ρ, r, h⟩
  refine ⟨B, G, ρ, r, src.mono (fun ds ρ1 h1 J G1 H1 r1 s1 wk D nD => ?_) h⟩
  have h0 : B.H0 D = none := r1.h0 nD
  have ne : ∀ q ∈ B.ks, q.1 ≠ D := fun q hq e => by
    have := (r1.ks q hq).1
    rw [e, nD] at this
    cases this
  obtain ⟨Inv, hInv⟩ : ∃ Inv : Nat → Hp → Prop, ∀ i H', Inv i H' ↔ ∃ G' ρ' acc es, Rep L (B.kp D (.lst acc)) G' H' (L2.wipe σ vs) ρ' ∧ WpR vs ρ' ∧ Same G1 G' ∧ DvAll L G' acc es ∧
      lcP t c el vs (fun out ρ' => ∀ p us G' H', Rep L (B.kp p (.lst us)) G' H' σ ρ' → B.H0 p = none → (∀ q ∈ B.ks, q.1 ≠ p) → Same G G' → DvAll L G' us out → Q (.ref p) H') (ds.drop i) es ρ' := ⟨_, fun _ _ => Iff.rfl⟩
  refine ⟨fun i m H' => m = ds.length - i ∧ i ≤ ds.length ∧ Inv i H', ⟨ds.length, by simp, Nat.zero_le _, (hInv _ _).mpr ⟨G1, _, [], [], (r1.wipe vs).kp nD, wpR_wipe _ _, Same.refl _, .nil, by simpa using h1⟩⟩, ?_⟩
  rintro i m H' ⟨rfl, hi, q⟩
  obtain ⟨G', ρ', acc, es, r', w', s', d', hl⟩ := (hInv _ _).mp q
  have hw := wk G' H' s' r'.gh i hi
  by_cases hlt : i < ds.length
  · refine .inr ⟨(hw.2 hlt).1, Inv (i + 1), fun H2 q2 => ⟨ds.length - (i + 1), by omega, rfl, hlt, q2⟩, fun x H2 y => ?_⟩
    obtain ⟨G2, z, gr, hz, dz⟩ := (hw.2 hlt).2 x H2 y
    rw [drop_at hz] at hl
    refine hg (r'.go gr) dz (t.mono (fun ρ2 h2 σ2 r2 e => ⟨e.trans (wipe_wipe vs), _, G2, ρ2, r2, c.mono (fun b ρ3 h3 G3 H3 r3 s3 => ?_) h2⟩) hl)
    have s2 : Same G' G3 := gr.gg.trans s3
    have ew : L2.wipe σ2 vs = L2.wipe σ vs := e.trans (wipe_wipe vs)
    show if b = true then _ else _
    by_cases hb : b = true
    · rw [if_pos hb] at h3 ⊢
      refine ⟨_, G3, ρ3, r3, el.mono (fun y ρ4 ⟨hlen, h4⟩ v G4 H4 r4 s4 d4 => ?_) h3⟩
      have da : DvAll L G4 acc es := dvs_same (s2.trans s4) d'
      refine ⟨acc, r4.kpAt.1, by rw [dvs_len da]; exact hlen, (hInv _ _).mpr ⟨G4, wipeR ρ4 vs, acc ++ [v], es ++ [y], ?_, wpR_wipe _ _, s'.trans (s2.trans s4), dvs_app da (.cons d4 .nil), h4⟩⟩
      rw [← ew]
      exact (r4.wipe vs).kpChg h0 ne
    · rw [if_neg hb] at h3 ⊢
      refine (hInv _ _).mpr ⟨G3, wipeR ρ3 vs, acc, es, ?_, wpR_wipe _ _, s'.trans s2, dvs_same s2 d', h3⟩
      rw [← ew]
      exact r3.wipe vs
  · have e : i = ds.length := by omega
    subst e
    rw [List.drop_length] at hl
    exact .inl ⟨hw.1 rfl, hl _ _ _ _ (r'.unwipe w') h0 ne (s1.trans s') d'⟩
theorem imp_lc {src : Pl} {g : TG} {t : Tg} {c : Pt} {el : Px} (hg : SndV L g t vs) : ∀ σ H Q, tW L (pNL (pLcN src t c el vs)) σ H Q → tLc (tWI L src) g (tWT L c) (tW L el) vs σ H Q := fun σ H Q h => imp_lcN hg σ H Q (imp_NL σ H Q h)
abbrev pLc (src : Pl) (t : Tg) (c : Pt) (el : Px) (vs : List Nat) : Px := pNL (pLcN src t c el vs)
theorem w_lcN {src : Pl} {g : TG} {t : Tg} {c : Pt} {el : Px} (hg : SndV L g t vs) (p : PE X e (tLc (tWI L src) g (tWT L c) (tW L el) vs)) : PE X e (tWN L (pLcN src t c el vs)) := PE.imp p (imp_lcN hg)
theorem w_lc {src : Pl} {g : TG} {t : Tg} {c : Pt} {el : Px} (hg : SndV L g t vs) (p : PE X e (tLc (tWI L src) g (tWT L c) (tW L el) vs)) : PE X e (tW L (pLc src t c el vs)) := PE.imp p (imp_lc hg)
theorem w_setLc {i : Nat} {src : Pl} {g : TG} {t : Tg} {c : Pt} {el : Px} (hg : SndV L g t vs) (p : PS X st (tAsg (tLc (tWI L src) g (tWT L c) (tW L el) vs) (gName i))) : PS X st (tWS L (sSet i (pLc src t c el vs))) :=
  w_set (PS.imp p fun D σ H q => imp_lc hg _ _ _ q)
end
end Fw

namespace Fw
open PySem PySem.Spec PyProof.Rows L2 Fr
section
variable {X : Cx} {L : Ly} {B : Bs} {G H : Hp} {σ σ' : L2.St} {ρ : En} {st : Stmt} {e : Expr}
theorem dvs_nil {ds : List Da} (h : DvAll L G [] ds) : ds = [] := by cases h; rfl
structure R3p where
  f : Da → Option Int → Option Int → (Da → Prop) → Prop
  mono : ∀ {x : Da} {l u : Option Int} {k k' : Da → Prop}, (∀ d, k d → k' d) → f x l u k → f x l u k'
def Snd3 (L : Ly) (R : V → Option Int → Option Int → Hp → VK → Prop) (r : R3p) : Prop := ∀ {B : Bs} {G H : Hp} {σ : L2.St} {ρ : En} {v : V} {x : Da} {l u : Option Int} {Q : VK}, Rep L B G H σ ρ → Dv L G v x →
  r.f x l u (fun z => ∀ w G' H', Rep L B G' H' σ ρ → Same G G' → Dv L G' w z → Q w H') → R v l u H Q
structure Po where
  f : En → (Option Int → En → Prop) → Prop
  mono : ∀ {ρ : En} {k k' : Option Int → En → Prop}, (∀ d ρ', k d ρ' → k' d ρ') → f ρ k → f ρ k'
def tWO (L : Ly) (g : Po) : TO := fun σ H Q => ∃ B G ρ, Rep L B G H σ ρ ∧ g.f ρ fun b ρ' => ∀ G' H', Rep L B G' H' σ ρ' → Same G G' → Q b H'
theorem PO.imp {e : Option Expr} {t t' : TO} (p : PO X e t) (h : ∀ σ H Q, t' σ H Q → t σ H Q) : PO X e t' := ⟨fun pins s σ H Q I q => p.run pins s σ H Q I (h _ _ _ q)⟩
def poN : Po := ⟨fun ρ k => k none ρ, fun h => h _ _⟩
def poS (g : Px) : Po := ⟨fun ρ k => g.f ρ fun d ρ1 => ∃ i, d = .int i ∧ k (some i) ρ1, fun h => g.mono fun _ _ ⟨i, e, q⟩ => ⟨i, e, h _ _ q⟩⟩
theorem w_poN : PO X none (tWO L poN) := PO.imp po_none fun σ H Q ⟨B, G, ρ, r, h⟩ => h G H r (Same.refl _)
theorem w_poS {g : Px} (p : PE X e (tW L g)) : PO X (some e) (tWO L (poS g)) := PO.imp (po_some p) fun σ H Q ⟨B, G, ρ, r, h⟩ =>
  ⟨B, G, ρ, r, g.mono (fun d ρ1 ⟨i, e, h1⟩ v G1 H1 r1 s1 d1 => by subst e; cases d1; exact ⟨i, rfl, h1 G1 H1 r1 s1⟩) h⟩
def pSl (g : Px) (l u : Po) (r : R3p) : Px := ⟨fun ρ k => g.f ρ fun x ρ1 => l.f ρ1 fun a ρ2 => u.f ρ2 fun b ρ3 => r.f x a b fun z => k z ρ3, fun h => g.mono fun _ _ => l.mono fun _ _ => u.mono fun _ _ => r.mono fun _ => h _ _⟩
theorem w_slice {R : V → Option Int → Option Int → Hp → VK → Prop} {r : R3p} {g : Px} {l u : Po} {lo hi : Option Expr} {p2 pos : Pos} (hr : SlR X R) (hs : Snd3 L R r) (he : PE X e (tW L g)) (hl : PO X lo (tWO L l)) (hu : PO X hi (tWO L u)) :
    PE X (.Subscript e (.Slice lo hi none p2) pos) (tW L (pSl g l u r)) := PE.imp (pe_slice hr he hl hu) fun σ H Q ⟨B, G, ρ, r0, h⟩ =>
  ⟨B, G, ρ, r0, g.mono (fun x ρ1 h1 v G1 H1 r1 s1 d1 => ⟨B, G1, ρ1, r1, l.mono (fun a ρ2 h2 G2 H2 r2 s2 => ⟨B, G2, ρ2, r2, u.mono (fun b ρ3 h3 G3 H3 r3 s3 =>
    hs r3 (dv_same (s2.trans s3) d1) (r.mono (fun z h4 w G4 H4 r4 s4 d4 => h4 w G4 H4 r4 (s1.trans (s2.trans (s3.trans s4))) d4) h3)) h2⟩) h1⟩) h⟩
def cutD (xs : List Da) (lo hi : Option Int) : List Da := (xs.drop (HT.sIx xs.length 0 lo)).take (HT.sIx xs.length xs.length hi - HT.sIx xs.length 0 lo)
theorem dvs_cut {xs : List V} {ds : List Da} (h : DvAll L G xs ds) (lo hi : Option Int) : DvAll L G (cutV xs lo hi) (cutD ds lo hi) := by
  unfold cutV cutD
  rw [dvs_len h]
  exact dvs_take _ (dvs_drop _ h)
def rSlP : R3p := ⟨fun x l u k => ∃ ds, x = .lst ds ∧ k (.lst (cutD ds l u)), fun h ⟨ds, e, q⟩ => ⟨ds, e, h _ q⟩⟩
theorem snd_sl : Snd3 L (rSlL L.K) rSlP := by
  rintro B G H σ ρ v x l u Q r d1 ⟨ds, rfl, k⟩
  cases d1 with
  | @lst a xs _ hs ha =>
    refine ⟨a, xs, rfl, .inl (.inl (r.gh _ _ hs)), fun p hp => ?_⟩
    have s := same_upd (r.gh.free hp) (o := .lst (cutV xs l u))
    exact k _ _ _ (r.lay hp) s (.lst upd_same (dvs_same s (dvs_cut ha l u)))
def rSeqP (c : List Da → Da) : R1p := ⟨fun xs k => ∃ ds, (xs = [.lst ds] ∨ xs = [.tup ds]) ∧ k (c ds), fun h ⟨ds, e, q⟩ => ⟨ds, e, h _ q⟩⟩
theorem dv1 {vs : List V} {d : Da} (h : DvAll L G vs [d]) : ∃ v, vs = [v] ∧ Dv L G v d := by
  cases h with
  | cons h t =>
    cases t
    exact ⟨_, rfl, h⟩
theorem dv_lst {v : V} {ds : List Da} (h : Dv L G v (.lst ds)) : ∃ a xs, v = .ref a ∧ G a = some (.lst xs) ∧ DvAll L G xs ds := by
  cases h with
  | lst hs ha => exact ⟨_, _, rfl, hs, ha⟩
theorem dv_tup {v : V} {ds : List Da} (h : Dv L G v (.tup ds)) : ∃ a xs, v = .ref a ∧ SqT L.K G a xs ∧ DvAll L G xs ds := by
  cases h with
  | tup hs ha => exact ⟨_, _, rfl, hs, ha⟩
theorem snd_listOf : Snd1 L (fun xs H Q => ∃ p ys, xs = [.ref p] ∧ (SqL L.K H p ys ∨ SqT L.K H p ys) ∧ ∀ l, H l = none → Q (.ref l) (upd H l (.lst ys))) (rSeqP .lst) := by
  rintro B G H σ ρ vs xs Q r dv ⟨ds, e, k⟩
  have fin : ∀ ys, DvAll L G ys ds → ∀ l, H l = none → Q (.ref l) (upd H l (.lst ys)) := fun ys ha l hl => by
    have s := same_upd (r.gh.free hl) (o := .lst ys)
    exact k _ _ _ (r.lay hl) s (.lst upd_same (dvs_same s ha))
  rcases e with rfl | rfl
  · obtain ⟨v, rfl, d⟩ := dv1 dv
    obtain ⟨a, ys, rfl, hs, ha⟩ := dv_lst d
    exact ⟨a, ys, rfl, .inl (.inl (.inl (r.gh _ _ hs))), fin ys ha⟩
  · obtain ⟨v, rfl, d⟩ := dv1 dv
    obtain ⟨a, ys, rfl, hs, ha⟩ := dv_tup d
    exact ⟨a, ys, rfl, .inr (same_sqt r.gh hs), fin ys ha⟩
theorem snd_tupOf : Snd1 L (fun xs H Q => ∃ p ys, xs = [.ref p] ∧ ((SqL L.K H p ys ∧ ∀ l, H l = none → Q (.ref l) (upd H l (.tup ys))) ∨ (SqT L.K H p ys ∧ Q (.ref p) H))) (rSeqP .tup) := by
  rintro B G H σ ρ vs xs Q r dv ⟨ds, e, k⟩
  rcases e with rfl | rfl
  · obtain ⟨v, rfl, d⟩ := dv1 dv
    obtain ⟨a, ys, rfl, hs, ha⟩ := dv_lst d
    refine ⟨a, ys, rfl, .inl ⟨.inl (.inl (r.gh _ _ hs)), fun l hl => ?_⟩⟩
    have s := same_upd (r.gh.free hl) (o := .tup ys)
    exact k _ _ _ (r.lay hl) s (.tup (.inl (.inl upd_same)) (dvs_same s ha))
  · obtain ⟨v, rfl, d⟩ := dv1 dv
    obtain ⟨a, ys, rfl, hs, ha⟩ := dv_tup d
    exact ⟨a, ys, rfl, .inr ⟨same_sqt r.gh hs, k _ G H r (Same.refl _) (.tup hs ha)⟩⟩
theorem dvs_intsV : ∀ {xs : List V} {ns : List Int}, DvAll L G xs (ns.map Da.int) → xs = ns.map V.int
  | [], [], _ => rfl
  | x :: xs, n :: ns, .cons h t => by
    rw [dv_int h, dvs_intsV t]
    rfl
end
end Fw

namespace Fw
open PySem PySem.Spec PyProof.Rows L2 Fr
section
variable {L : Ly} {B : Bs} {G H : Hp} {σ σ' : L2.St} {ρ : En}
def entD (d l c : Addr) (ds : List Da) (n : Nat) : En := some (.drw d l c) :: ent ds n
theorem draw_nd {d l c : Addr} (D : Draw d l c H) : [d, l, c].Nodup := by
  obtain ⟨q1, q2, q3, q4, D⟩ := D
  have h1 : d ≠ l := fun e => by
    have := D.hd
    rw [e, D.hl] at this
    cases this
  have h2 : d ≠ c := fun e => by
    have := D.hd
    rw [e, D.hc] at this
    cases this
  simp only [List.nodup_cons, List.mem_cons, List.not_mem_nil, or_false, not_or, not_false_eq_true, List.nodup_nil, and_true]
  exact ⟨⟨h1, h2⟩, fun e => D.ne e.symm⟩
theorem own_ent (ds : List Da) (n : Nat) : own (ent ds n) = [] := by
  unfold ent own
  rw [List.flatMap_append]
  have h1 := own_dat ds
  have h2 := own_none n
  unfold own at h1 h2
  rw [h1, h2]
  rfl
theorem rep_entD {d l c : Addr} {us : List V} {ds : List Da} {n : Nat} (s : Same G H) (gd : G d = none) (gl : G l = none) (D : Draw d l c H) (h : DvAll L G us ds) : Rep L ⟨Mdl d l, G, H, [], []⟩ G H (some (.ref d) :: (us.map some ++ List.replicate n none)) (entD d l c ds n) where
  gr := Grow.refl s
  mh := fun b hb => by
    obtain ⟨t1, t2, _⟩ := draw_trk D
    rcases hb with e | e
    · rw [e]; exact ⟨t1, gd⟩
    · rw [e]; exact ⟨t2, gl⟩
  env := .cons ⟨rfl, gd, gl, D⟩ (paired_append (env_dat h) (env_none n))
  nd := by
    show ([d, l, c] ++ own (ent ds n)).Nodup
    rw [own_ent, List.append_nil]
    exact draw_nd D
  fm := fun p es hm => by
    rcases List.mem_cons.mp hm with hm | hm
    · cases hm
    · exact (rep_ent (n := n) s h).fm p es hm
  f2 := fun p qs hm => by
    rcases List.mem_cons.mp hm with hm | hm
    · cases hm
    · exact (rep_ent (n := n) s h).f2 p qs hm
  fd := fun d' l' c' hm => by
    rcases List.mem_cons.mp hm with hm | hm
    · cases hm
      exact ⟨.inl rfl, .inr rfl⟩
    · exact ((rep_ent (n := n) s h).fd d' l' c' hm).1.elim
  ks := fun q hq => by cases hq
  tb := fun p hp => by cases hp
  tg := fun p hp => by cases hp
  mt := fun p hp => by cases hp
  ft := fun T hm => by
    rcases List.mem_cons.mp hm with hm | hm
    · cases hm
    · exact (rep_ent (n := n) s h).ft T hm
theorem calD {P : Program} {w : World} {mg : Str → Option Value} {base : Heap} {x p0 : Str} {st : Stmt} {f : Addr} {fd : FuncData} {N ps : List Str} {k n : Nat} {F : Pf} (Fd : C8.Def L.K mg x st f fd) (b : Binds L.K fd (p0 :: ps) []) (S : FnScope N (p0 :: ps) (C8.fnScope st))
    (hlen : ∀ ds k, F.f ds k → ds.length = ps.length) (hN : ∀ (v : V) (vs : List V), vs.length = ps.length → start N (v :: vs) = some v :: (vs.map some ++ List.replicate n none))
    (hbody : ∀ (cdv : Value) (A : Around) (outer : List Env) (s : Shared) (H : Hp) (E : XK), Room k (A.deeper (envOfC x (C8.fnScope st) s.heap.objs.size f cdv)) → A.guards = some [] →
      ∃ g : Ps, PSs (cxOf C8.CX0 P w L.K mg base N x (C8.fnScope st) f cdv A outer s H E).nox (C8.fnBody st) (tWS L g) ∧
        ∀ d l c ds kk, F.f ds kk → g.f (entD d l c ds n) (fun ρ => some (.drw d l c) ∈ ρ ∧ kk .non) (fun z ρ => some (.drw d l c) ∈ ρ ∧ kk z) (fun _ => False) (fun _ => False)) : CalG P w L.K mg base C8.CX0 (k + 1) x (spD L F) := by
  refine calG0 Fd b S ?_ ?_
  · rintro vs H Q E ⟨G, d, l, c, us, ds, rfl, s, _, _, _, dv, h⟩
    show us.length + 1 = ps.length + 1
    rw [dvs_len dv, hlen ds _ h]
  · rintro cdv A outer s H vs Q E hr hgu ⟨G, d, l, c, us, ds, rfl, sg, gd, gl, D, dv, h⟩
    obtain ⟨g, hp, hF⟩ := hbody cdv A outer s H E hr hgu
    refine ⟨_, hp, ?_⟩
    rw [hN (.ref d) us ((dvs_len dv).trans (hlen ds _ h))]
    refine ⟨⟨Mdl d l, G, H, [], []⟩, G, entD d l c ds n, rep_entD sg gd gl D dv, g.mono ?_ ?_ ?_ ?_ (hF d l c ds _ h)⟩
    · rintro ρ' ⟨hm, q⟩ σ' G' H' r' _
      exact q .non G' H' r'.gr (draw_mem r' hm).1 .non
    · rintro x' ρ' ⟨hm, q⟩ v σ' G' H' r' _ d'
      exact q v G' H' r'.gr (draw_mem r' hm).1 d'
    · intro _ z
      exact z.elim
    · intro _ z
      exact z.elim
def fTake : Pf := ⟨fun xs k => ∃ n : Int, xs = [.int n] ∧ 0 < n ∧ n.natAbs.log2 < 9000 ∧ ∀ r : Int, 0 ≤ r → r < n → k (.int r), fun h ⟨n, a, b, c, q⟩ => ⟨n, a, b, c, fun r x y => h _ (q r x y)⟩⟩
theorem take_D {vs : List V} {Q : VK} {E : XK} (h : spD L fTake vs H Q E) : spTake vs H Q E := by
  obtain ⟨G, d, l, c, us, ds, rfl, s, gd, gl, D, dv, n, rfl, h0, hl, k⟩ := h
  obtain ⟨v, rfl, dn⟩ := dv1 dv
  rw [dv_int dn]
  refine ⟨d, l, c, n, rfl, h0, hl, D, fun r H' r0 r1 kp tr D' => ?_⟩
  have g : Grow (Mdl d l) G H G H' := ⟨Same.refl _, fun b o e => kp b o (fun z => by
    rcases z with z | z
    · rw [z, gd] at e; cases e
    · rw [z, gl] at e; cases e) (s _ _ e), kp, tr, fun _ _ z => z⟩
  exact k r r0 r1 _ G H' g D' (.int r)
def fPick : Pf := ⟨fun xs k => ∃ ds : List Da, xs = [.lst ds] ∧ ds ≠ [] ∧ ds.length ≤ 1000000 ∧ ∀ d ∈ ds, k d, fun h ⟨ds, a, b, c, q⟩ => ⟨ds, a, b, c, fun d m => h _ (q d m)⟩⟩
theorem pick_D {vs : List V} {Q : VK} {E : XK} (h : spD L fPick vs H Q E) : spPick L.K vs H Q E := by
  obtain ⟨G, d, l, c, us, ds, rfl, s, gd, gl, D, dv, es, rfl, h0, hl, k⟩ := h
  obtain ⟨v, rfl, dn⟩ := dv1 dv
  obtain ⟨a, xs, rfl, hs, ha⟩ := dv_lst dn
  refine ⟨d, l, c, a, xs, G, rfl, .inl (.inl hs), fun e => h0 ?_, by rw [dvs_len ha]; exact hl, s, gd, gl, D, fun i v H' hi g D' => ?_⟩
  · subst e
    exact dvs_nil ha
  · obtain ⟨z, hz, dz⟩ := dvs_get ha hi
    exact k z (List.mem_of_getElem? hz) v G H' g D' dz
end
end Fw

namespace Fw
open PySem PySem.Spec PyProof.Rows L2 Fr
section
variable {L : Ly} {B : Bs} {G H : Hp} {σ : L2.St} {ρ : En}
def updL (G : Hp) : List (Addr × List V) → Hp
  | [] => G
  | (q, vs) :: r => upd (updL G r) q (.lst vs)
theorem updL_ne {G : Hp} {b : Addr} : ∀ {l : List (Addr × List V)}, b ∉ l.map Prod.fst → updL G l b = G b
  | [], _ => rfl
  | (q, vs) :: r, h => by
    have h0 : b ∉ q :: r.map Prod.fst := h
    have h' : b ≠ q ∧ b ∉ r.map Prod.fst := ⟨fun z => h0 (by rw [z]; exact List.mem_cons_self), fun z => h0 (List.mem_cons_of_mem _ z)⟩
    show upd (updL G r) q (.lst vs) b = G b
    rw [upd_ne h'.1, updL_ne h'.2]
theorem updL_at {G : Hp} : ∀ {l : List (Addr × List V)} {q : Addr} {vs : List V}, (l.map Prod.fst).Nodup → (q, vs) ∈ l → updL G l q = some (.lst vs)
  | (x, ws) :: r, q, vs, nd, h => by
    have nd' : (x :: r.map Prod.fst).Nodup := nd
    obtain ⟨n1, n2⟩ := List.nodup_cons.mp nd'
    rcases List.mem_cons.mp h with e | h
    · cases e
      exact upd_same
    · have ne : q ≠ x := fun z => n1 (by rw [← z]; exact List.mem_map.mpr ⟨_, h, rfl⟩)
      show upd (updL G r) x (.lst ws) q = _
      rw [upd_ne ne]
      exact updL_at n2 h
theorem Rep.ksOf (r : Rep L B G H σ ρ) {ks : List (Addr × HO)} (h : ∀ q ∈ ks, q ∈ B.ks) : Rep L { B with ks := ks } G H σ ρ where
  gr := r.gr
  mh := r.mh
  env := r.env
  nd := r.nd
  fm := r.fm
  fd := r.fd
  f2 := r.f2
  ks := fun q hq => r.ks q (h q hq)
  tb := r.tb
  tg := fun p hp => ⟨(r.tg p hp).1, (r.tg p hp).2.1, fun q hq => (r.tg p hp).2.2 q (h q hq)⟩
  mt := r.mt
  ft := r.ft
def innK (l : List (Addr × List V)) : List (Addr × HO) := l.map fun x => (x.1, .lst x.2)
def outK (D : Addr) (l : List (Addr × List V)) : List (Addr × HO) := (D, .lst (l.map fun x => V.ref x.1)) :: innK l
theorem nd_set2 {p : Addr} {qs : List (Addr × List Da)} : ∀ {ρ : En} {i : Nat}, (own ρ).Nodup → (p :: qs.map Prod.fst).Nodup → (∀ x ∈ p :: qs.map Prod.fst, x ∉ own ρ) → (own (ρ.set i (some (.gr2 p qs)))).Nodup
  | [], _, _, _, _ => by simp [own]
  | s :: r, 0, h, h2, hp => by
    have h' : (slA s ++ own r).Nodup := h
    show ((p :: qs.map Prod.fst) ++ own r).Nodup
    exact List.nodup_append.mpr ⟨h2, (List.nodup_append.mp h').2.1, fun a ha b hb e => hp a ha (show a ∈ slA s ++ own r from List.mem_append.mpr (.inr (e ▸ hb)))⟩
  | s :: r, i + 1, h, h2, hp => by
    have h' : (slA s ++ own r).Nodup := h
    obtain ⟨n1, n2, n3⟩ := List.nodup_append.mp h'
    show (slA s ++ own (r.set i (some (.gr2 p qs)))).Nodup
    refine List.nodup_append.mpr ⟨n1, nd_set2 n2 h2 fun x hx z => hp x hx (show x ∈ slA s ++ own r from List.mem_append.mpr (.inr z)), fun a ha b hb e => ?_⟩
    rcases own_in hb with hb | hb
    · exact n3 a ha b hb e
    · exact hp b hb (show b ∈ slA s ++ own r from List.mem_append.mpr (.inl (e ▸ ha)))
theorem Rep.kpG2 {p : Addr} {l : List (Addr × List V)} {yss : List (List Da)} (r : Rep L { B with ks := outK p l ++ B.ks } G H σ ρ) (h0 : ∀ x ∈ p :: l.map Prod.fst, B.H0 x = none ∧ ∀ q ∈ B.ks, q.1 ≠ x) (nd : (p :: l.map Prod.fst).Nodup)
    (d : Paired (fun x ys => DvAll L G x.2 ys) l yss) (i : Nat) : Rep L B G H (σ.set i (some (.ref p))) (ρ.set i (some (.gr2 p ((l.map Prod.fst).zip yss)))) := by
  have len : l.length = yss.length := by
    clear r h0 nd
    induction d with
    | nil => rfl
    | cons _ _ ih => rw [List.length_cons, List.length_cons, ih]
  have efst : ((l.map Prod.fst).zip yss).map Prod.fst = l.map Prod.fst := List.map_fst_zip (by rw [List.length_map]; omega)
  have hp := r.ks (p, .lst (l.map fun x => V.ref x.1)) List.mem_cons_self
  have hq : ∀ x ∈ l, H x.1 = some (.lst x.2) ∧ G x.1 = none ∧ ¬ B.M x.1 ∧ x.1 ∉ Fw.own ρ := fun x hx => r.ks (x.1, .lst x.2) (List.mem_cons_of_mem _ (List.mem_append.mpr (.inl (List.mem_map.mpr ⟨x, hx, rfl⟩))))
  have off : ∀ x ∈ p :: l.map Prod.fst, x ∉ Fw.own ρ := fun x hx => by
    rcases List.mem_cons.mp hx with e | hx
    · rw [e]; exact hp.2.2.2
    · obtain ⟨y, hy, rfl⟩ := List.mem_map.mp hx
      exact (hq y hy).2.2.2
  have sl : slA (some (Sl.gr2 p ((l.map Prod.fst).zip yss))) = p :: l.map Prod.fst := by
    show p :: ((l.map Prod.fst).zip yss).map Prod.fst = _
    rw [efst]
  have inn : ∀ q ∈ (l.map Prod.fst).zip yss, G q.1 = none ∧ ∃ vs, H q.1 = some (.lst vs) ∧ DvAll L G vs q.2 := fun q hz => by
    obtain ⟨j, hj⟩ := List.getElem?_of_mem hz
    rw [List.getElem?_zip_eq_some, List.getElem?_map] at hj
    obtain ⟨h1, h2⟩ := hj
    cases hl : l[j]? with
    | none => rw [hl] at h1; cases h1
    | some x =>
      rw [hl] at h1
      have h1 : x.1 = q.1 := Option.some.inj h1
      obtain ⟨x', e', dd⟩ := paired_get d h2
      rw [hl] at e'
      cases e'
      have := hq x (List.mem_of_getElem? hl)
      rw [← h1]
      exact ⟨this.2.1, x.2, this.1, dd⟩
  have hpl : H p = some (.lst (((l.map Prod.fst).zip yss).map fun q => V.ref q.1)) := by
    have e := congrArg (List.map V.ref) efst
    rw [List.map_map, List.map_map] at e
    have e : ((l.map Prod.fst).zip yss).map (fun q => V.ref q.1) = l.map fun x => V.ref x.1 := e
    rw [e]
    exact hp.1
  refine ⟨r.gr, r.mh, paired_set (a := some (V.ref p)) (b := some (.gr2 p ((l.map Prod.fst).zip yss))) ⟨rfl, hp.2.1, hpl, inn⟩ i r.env, nd_set2 r.nd (by rw [efst]; exact nd) (by rw [efst]; exact off), ?_, ?_, ?_, ?_, r.tb, fun t ht => ⟨(r.tg t ht).1, fun z => ?_, fun q hq' => (r.tg t ht).2.2 q (List.mem_append.mpr (.inr hq'))⟩, r.mt, fun T hm => (mem_set hm).elim (r.ft T) fun z => by cases z⟩
  · intro q es hm
    rcases mem_set hm with hm | hm
    · exact r.fm q es hm
    · cases hm
  · intro d' l' c hm
    rcases mem_set hm with hm | hm
    · exact r.fd d' l' c hm
    · cases hm
  · intro p2 qs2 hm
    rcases mem_set hm with hm | hm
    · exact r.f2 p2 qs2 hm
    · cases hm
      intro b hb
      rw [sl] at hb
      exact (h0 b hb).1
  · intro q hq'
    obtain ⟨h1, h2, h3, h4⟩ := r.ks q (List.mem_append.mpr (.inr hq'))
    refine ⟨h1, h2, h3, fun z => ?_⟩
    rcases own_in z with z | z
    · exact h4 z
    · rw [sl] at z
      exact (h0 q.1 z).2 q hq' rfl
  · rcases own_in z with z | z
    · exact (r.tg t ht).2.1 z
    · rw [sl] at z
      rcases List.mem_cons.mp z with e | z
      · exact (r.tg t ht).2.2 (p, .lst (l.map fun x => V.ref x.1)) List.mem_cons_self e.symm
      · obtain ⟨x, hx, e⟩ := List.mem_map.mp z
        exact (r.tg t ht).2.2 (x.1, .lst x.2) (List.mem_cons_of_mem _ (List.mem_append.mpr (.inl (List.mem_map.mpr ⟨x, hx, rfl⟩)))) e
end
end Fw

namespace Fw
open PySem PySem.Spec PyProof.Rows L2 Fr
section
variable {X : Cx} {L : Ly} {st : Stmt} {vs : List Nat}
def lc2P (t : Tg) (el : Pl) (vs : List Nat) (k : List (List Da) → En → Prop) : List Da → List (List Da) → En → Prop
  | [], acc, ρ => k acc ρ
  | x :: r, acc, ρ => t.f x ρ fun ρ2 => el.f ρ2 fun ys ρ4 => acc.length < sizeLine ∧ lc2P t el vs k r (acc ++ [ys]) (wipeR ρ4 vs)
theorem lc2P_mono {t : Tg} {el : Pl} {k k' : List (List Da) → En → Prop} (h : ∀ d r, k d r → k' d r) : ∀ {ds : List Da} {acc : List (List Da)} {ρ : En}, lc2P t el vs k ds acc ρ → lc2P t el vs k' ds acc ρ
  | [], _, _, q => h _ _ q
  | _ :: r, _, _, q => t.mono (fun _ => el.mono fun _ _ z => ⟨z.1, lc2P_mono h (ds := r) z.2⟩) q
theorem prd_len {α β : Type} {F : α → β → Prop} : ∀ {l : List α} {m : List β}, Paired F l m → l.length = m.length
  | _, _, .nil => rfl
  | _, _, .cons _ t => by rw [List.length_cons, List.length_cons, prd_len t]
structure Pl2 where
  f : En → (List (List Da) → En → Prop) → Prop
  mono : ∀ {ρ : En} {k k' : List (List Da) → En → Prop}, (∀ d r, k d r → k' d r) → f ρ k → f ρ k'
def Kept2 (L : Ly) (B : Bs) (G : Hp) (p : Addr) (l : List (Addr × List V)) (yss : List (List Da)) : Prop :=
  (∀ x ∈ p :: l.map Prod.fst, B.H0 x = none ∧ ∀ q ∈ B.ks, q.1 ≠ x) ∧ (p :: l.map Prod.fst).Nodup ∧ Paired (fun x ys => DvAll L G x.2 ys) l yss
def tWN2 (L : Ly) (g : Pl2) : TE := fun σ H Q => ∃ B G ρ, Rep L B G H σ ρ ∧ g.f ρ fun yss ρ' => ∀ p l G' H', Rep L { B with ks := outK p l ++ B.ks } G' H' σ ρ' → Kept2 L B G' p l yss → Same G G' → Q (.ref p) H'
def pLc2 (src : Pl) (t : Tg) (el : Pl) (vs : List Nat) : Pl2 := ⟨fun ρ k => src.f ρ fun ds ρ1 => lc2P t el vs k ds [] (wipeR ρ1 vs), fun h => src.mono fun _ _ => lc2P_mono h⟩
theorem imp_lc2 {src : Pl} {g : TG} {t : Tg} {el : Pl} (hg : SndV L g t vs) : ∀ σ H Q, tWN2 L (pLc2 src t el vs) σ H Q → tLc (tWI L src) g (tWT L pYes) (tWN L el) vs σ H Q := by
  rintro σ H Q ⟨B, G, ρ, r, h⟩
  refine ⟨B, G, ρ, r, src.mono (fun ds ρ1 h1 J G1 H1 r1 s1 wk D nD => ?_) h⟩
  have h0 : B.H0 D = none := r1.h0 nD
  have ne : ∀ q ∈ B.ks, q.1 ≠ D := fun q hq e => by
    have := (r1.ks q hq).1
    rw [e, nD] at this
    cases this
  obtain ⟨Inv, hInv⟩ : ∃ Inv : Nat → Hp → Prop, ∀ j H', Inv j H' ↔ ∃ (G' : Hp) (ρ' : En) (l : List (Addr × List V)) (yss : List (List Da)), Rep L { B with ks := outK D l ++ B.ks } G' H' (L2.wipe σ vs) ρ' ∧ WpR vs ρ' ∧ Same G1 G' ∧
      Paired (fun x ys => DvAll L G' x.2 ys) l yss ∧ (∀ x ∈ l.map Prod.fst, B.H0 x = none ∧ ∀ q ∈ B.ks, q.1 ≠ x) ∧ (D :: l.map Prod.fst).Nodup ∧
      lc2P t el vs (fun yss ρ' => ∀ p l G' H', Rep L { B with ks := outK p l ++ B.ks } G' H' σ ρ' → Kept2 L B G' p l yss → Same G G' → Q (.ref p) H') (ds.drop j) yss ρ' := ⟨_, fun _ _ => Iff.rfl⟩
  refine ⟨fun j m H' => m = ds.length - j ∧ j ≤ ds.length ∧ Inv j H', ⟨ds.length, by simp, Nat.zero_le _, (hInv _ _).mpr ⟨G1, _, [], [], (r1.wipe vs).kp nD, wpR_wipe _ _, Same.refl _, .nil, (fun x hx => by cases hx), List.nodup_cons.mpr ⟨by simp, List.nodup_nil⟩, by simpa using h1⟩⟩, ?_⟩
  rintro j m H' ⟨rfl, hi, q⟩
  obtain ⟨G', ρ', l, yss, r', w', s', d', f', n', hl⟩ := (hInv _ _).mp q
  have hw := wk G' H' s' r'.gh j hi
  by_cases hlt : j < ds.length
  · refine .inr ⟨(hw.2 hlt).1, Inv (j + 1), fun H2 q2 => ⟨ds.length - (j + 1), by omega, rfl, hlt, q2⟩, fun x H2 y => ?_⟩
    obtain ⟨G2, z, gr, hz, dz⟩ := (hw.2 hlt).2 x H2 y
    rw [drop_at hz] at hl
    refine hg (r'.go gr) dz (t.mono (fun ρ2 h2 σ2 r2 e => ⟨e.trans (wipe_wipe vs), _, G2, ρ2, r2, fun G3 H3 r3 s3 => ?_⟩) hl)
    have ew : L2.wipe σ2 vs = L2.wipe σ vs := e.trans (wipe_wipe vs)
    show if true = true then _ else _
    rw [if_pos rfl]
    refine ⟨_, G3, ρ2, r3, el.mono ?_ h2⟩
    rintro ys ρ4 ⟨hlen, h4⟩ q us G4 H4 r4 q0 qne s4 d4
    have sG : Same G' G4 := gr.gg.trans (s3.trans s4)
    have hD : H4 D = some (.lst (l.map fun x => V.ref x.1)) := (r4.ks (D, .lst (l.map fun x => V.ref x.1)) (List.mem_cons_of_mem _ List.mem_cons_self)).1
    have qD : D ≠ q := qne (D, .lst (l.map fun x => V.ref x.1)) List.mem_cons_self
    have ql : q ∉ l.map Prod.fst := fun z => by
      obtain ⟨x, hx, e⟩ := List.mem_map.mp z
      exact qne (x.1, .lst x.2) (List.mem_cons_of_mem _ (List.mem_append.mpr (.inl (List.mem_map.mpr ⟨x, hx, rfl⟩)))) e
    obtain ⟨nD1, nD2⟩ := List.nodup_cons.mp n'
    have n2 : (D :: (l ++ [(q, us)]).map Prod.fst).Nodup := by
      rw [List.map_append]
      refine List.nodup_cons.mpr ⟨fun z => ?_, List.nodup_append.mpr ⟨nD2, List.nodup_cons.mpr ⟨by simp, List.nodup_nil⟩, fun a ha b hb e => ?_⟩⟩
      · rcases List.mem_append.mp z with z | z
        · exact nD1 z
        · exact qD (List.mem_singleton.mp z)
      · rw [List.mem_singleton.mp hb] at e
        have e : a = q := e
        exact ql (by rw [← e]; exact ha)
    refine ⟨_, hD, by rw [List.length_map, prd_len d']; exact hlen, (hInv _ _).mpr ⟨G4, wipeR ρ4 vs, l ++ [(q, us)], yss ++ [ys], ?_, wpR_wipe _ _, s'.trans sG, ?_, ?_, n2, h4⟩⟩
    · rw [← ew]
      have r5 := (r4.wipe vs).ksOf (ks := (D, .lst (l.map fun x => V.ref x.1)) :: (innK (l ++ [(q, us)]) ++ B.ks)) fun x hx => by
        rcases List.mem_cons.mp hx with e | hx
        · rw [e]
          exact List.mem_cons_of_mem _ List.mem_cons_self
        · rcases List.mem_append.mp hx with hx | hx
          · unfold innK at hx
            rw [List.map_append] at hx
            rcases List.mem_append.mp hx with hx | hx
            · exact List.mem_cons_of_mem _ (List.mem_cons_of_mem _ (List.mem_append.mpr (.inl hx)))
            · rw [List.mem_singleton.mp hx]
              exact List.mem_cons_self
          · exact List.mem_cons_of_mem _ (List.mem_cons_of_mem _ (List.mem_append.mpr (.inr hx)))
      have r6 := Rep.kpChg (B := { B with ks := innK (l ++ [(q, us)]) ++ B.ks }) (o' := .lst ((l ++ [(q, us)]).map fun x => V.ref x.1)) r5 h0 fun x hx => by
        rcases List.mem_append.mp hx with hx | hx
        · obtain ⟨y, hy, rfl⟩ := List.mem_map.mp hx
          exact fun z => (List.nodup_cons.mp n2).1 (by rw [← z]; exact List.mem_map.mpr ⟨y, hy, rfl⟩)
        · exact ne x hx
      have e7 : (l.map fun x => V.ref x.1) ++ [V.ref q] = (l ++ [(q, us)]).map fun x => V.ref x.1 := by
        rw [List.map_append]
        rfl
      rw [e7]
      exact r6
    · exact paired_append (paired_imp d' fun a b _ hh => dvs_same sG hh) (.cons d4 .nil)
    · intro x hx
      rw [List.map_append] at hx
      rcases List.mem_append.mp hx with hx | hx
      · exact f' x hx
      · rw [List.mem_singleton.mp hx]
        exact ⟨q0, fun y hy => qne y (List.mem_cons_of_mem _ (List.mem_append.mpr (.inr hy)))⟩
  · have e : j = ds.length := by omega
    subst e
    rw [List.drop_length] at hl
    refine .inl ⟨hw.1 rfl, ?_⟩
    exact hl D l _ _ (r'.unwipe w') ⟨fun x hx => by
      rcases List.mem_cons.mp hx with e | hx
      · rw [e]; exact ⟨h0, ne⟩
      · exact f' x hx, n', d'⟩ (s1.trans s')
end
section
variable {L : Ly} {G H : Hp} {σ : L2.St} {ρ : En}
theorem Rep.doneAll : ∀ (l : List (Addr × List V)) {B : Bs}, Rep L { B with ks := innK l ++ B.ks } G H σ ρ → (∀ x ∈ l.map Prod.fst, B.H0 x = none ∧ ∀ q ∈ B.ks, q.1 ≠ x) → (l.map Prod.fst).Nodup → Rep L B (updL G l) H σ ρ
  | [], _, r, _, _ => r
  | (q, us) :: t, B, r, h, nd => by
    have nd' : (q :: t.map Prod.fst).Nodup := nd
    obtain ⟨n1, n2⟩ := List.nodup_cons.mp nd'
    obtain ⟨q0, qn⟩ := h q List.mem_cons_self
    have r1 : Rep L { B.kp q (.lst us) with ks := innK t ++ (B.kp q (.lst us)).ks } G H σ ρ := Rep.ksOf r fun x hx => by
      rcases List.mem_append.mp hx with hx | hx
      · exact List.mem_cons_of_mem _ (List.mem_append.mpr (.inl hx))
      · rcases List.mem_cons.mp hx with e | hx
        · rw [e]; exact List.mem_cons_self
        · exact List.mem_cons_of_mem _ (List.mem_append.mpr (.inr hx))
    have r2 := Rep.doneAll t (B := B.kp q (.lst us)) r1 (fun x hx => ⟨(h x (List.mem_cons_of_mem _ hx)).1, fun y hy => by
      rcases List.mem_cons.mp hy with e | hy
      · rw [e]
        exact fun z => n1 (by rw [show q = x from z]; exact hx)
      · exact (h x (List.mem_cons_of_mem _ hx)).2 y hy⟩) n2
    exact r2.kpDone q0 qn
theorem Rep.kpDone2 {B : Bs} {p : Addr} {l : List (Addr × List V)} {yss : List (List Da)} (r : Rep L { B with ks := outK p l ++ B.ks } G H σ ρ) (K : Kept2 L B G p l yss) : ∃ G', Rep L B G' H σ ρ ∧ Same G G' ∧ Dv L G' (.ref p) (.lst (yss.map Da.lst)) := by
  obtain ⟨h0, nd, d⟩ := K
  let l' : List (Addr × List V) := (p, l.map fun x => V.ref x.1) :: l
  have nd' : (l'.map Prod.fst).Nodup := nd
  have r2 := Rep.doneAll l' (B := B) r h0 nd'
  have sg : Same G (updL G l') := fun b o e => by
    have : b ∉ l'.map Prod.fst := fun z => by
      obtain ⟨x, hx, e2⟩ := List.mem_map.mp z
      have := (r.ks (x.1, .lst x.2) (List.mem_append.mpr (.inl (show (x.1, HO.lst x.2) ∈ outK p l from by
        rcases List.mem_cons.mp hx with q | hx
        · rw [q]; exact List.mem_cons_self
        · exact List.mem_cons_of_mem _ (List.mem_map.mpr ⟨x, hx, rfl⟩))))).2.1
      rw [show x.1 = b from e2, e] at this
      cases this
    rw [updL_ne this]
    exact e
  refine ⟨_, r2, sg, .lst (updL_at nd' List.mem_cons_self) ?_⟩
  have key : ∀ {t : List (Addr × List V)} {zss : List (List Da)}, Paired (fun x ys => DvAll L G x.2 ys) t zss → (∀ x ∈ t, x ∈ l) → DvAll L (updL G l') (t.map fun x => V.ref x.1) (zss.map Da.lst) := by
    intro t zss h
    induction h with
    | nil => intro _; exact .nil
    | @cons x ys t zs hh _ ih =>
      intro hm
      exact .cons (.lst (updL_at nd' (List.mem_cons_of_mem _ (hm x List.mem_cons_self))) (dvs_same sg hh)) (ih fun y hy => hm y (List.mem_cons_of_mem _ hy))
  exact key d fun x hx => hx
end
end Fw

namespace Fw
open PySem PySem.Spec PyProof.Rows L2 Fr
section
variable {X : Cx} {L : Ly} {B B1 B2 : Bs} {G H : Hp} {σ σ' : L2.St} {ρ : En} {st : Stmt} {e : Expr} {es : List Expr}
theorem w_nlst {g : Pl} {pos : Pos} (h : PA X es (tWA L g)) : PE X (.List es pos) (tWN L ⟨fun ρ k => g.f ρ fun ds ρ1 => ds.length ≤ sizeLine ∧ k ds ρ1, fun h => g.mono fun _ _ z => ⟨z.1, h _ _ z.2⟩⟩) := PE.imp (pe_lst h) fun σ H Q ⟨B, G, ρ, r, q⟩ =>
  ⟨B, G, ρ, r, g.mono (fun ds ρ1 h1 vs G1 H1 r1 s1 d1 => ⟨by rw [dvs_len d1]; exact h1.1, fun p hp => h1.2 p vs G1 _ (r1.kp hp) (r1.h0 hp) (fun q hq e => by
    have := (r1.ks q hq).1
    rw [e, hp] at this
    cases this) s1 d1⟩) q⟩
def pSq (g : Px) : Pl := ⟨fun ρ k => g.f ρ fun d ρ1 => ∃ ds, (d = .lst ds ∨ d = .tup ds) ∧ k ds ρ1, fun h => g.mono fun _ _ ⟨ds, e, q⟩ => ⟨ds, e, h _ _ q⟩⟩
theorem w_nlistOf {g : Px} (p : PE X e (tCB (fun xs H Q => ∃ p ys, xs = [.ref p] ∧ (SqL L.K H p ys ∨ SqT L.K H p ys) ∧ ∀ l, H l = none → Q (.ref l) (upd H l (.lst ys))) (tCons (tW L g) tNil))) : PE X e (tWN L (pSq g)) := PE.imp p fun σ H Q ⟨B, G, ρ, r, q⟩ =>
  ⟨B, G, ρ, r, g.mono (fun d ρ1 ⟨ds, e, h1⟩ v G1 H1 r1 s1 d1 => by
    have fin : ∀ ys, DvAll L G1 ys ds → ∀ l, H1 l = none → Q (.ref l) (upd H1 l (.lst ys)) := fun ys ha l hl => h1 l ys G1 _ (r1.kp hl) (r1.h0 hl) (fun q hq e => by
      have := (r1.ks q hq).1
      rw [e, hl] at this
      cases this) s1 ha
    rcases e with rfl | rfl
    · obtain ⟨a, ys, rfl, hs, ha⟩ := dv_lst d1
      exact ⟨a, ys, rfl, .inl (.inl (.inl (r1.gh _ _ hs))), fin ys ha⟩
    · obtain ⟨a, ys, rfl, hs, ha⟩ := dv_tup d1
      exact ⟨a, ys, rfl, .inr (same_sqt r1.gh hs), fin ys ha⟩) q⟩
inductive Nv where
  | dat (d : Da)
  | new (ds : List Da)
  /-- a new list of new lists -/
  | new2 (yss : List (List Da))
  /-- a new thing of another kind, that may still change -/
  | any (R : Addr → OwnR)
structure Pz where
  f : En → (Nv → En → Prop) → Prop
  mono : ∀ {ρ : En} {k k' : Nv → En → Prop}, (∀ d ρ', k d ρ' → k' d ρ') → f ρ k → f ρ k'
def Hold (L : Ly) (B B' : Bs) (G : Hp) (v : V) : Nv → Prop
  | .dat d => B' = B ∧ Dv L G v d
  | .new ds => ∃ p us, v = .ref p ∧ B' = B.kp p (.lst us) ∧ B.H0 p = none ∧ (∀ q ∈ B.ks, q.1 ≠ p) ∧ DvAll L G us ds
  | .new2 yss => ∃ p l, v = .ref p ∧ B' = { B with ks := outK p l ++ B.ks } ∧ Kept2 L B G p l yss
  | .any R => ∃ p o, v = .ref p ∧ B' = B.kp p o ∧ B.H0 p = none ∧ (∀ q ∈ B.ks, q.1 ≠ p) ∧ (R p).f L G o
theorem Hold.same {G' : Hp} {v : V} {z : Nv} (s : Same G G') (h : Hold L B B1 G v z) : Hold L B B1 G' v z := by
  cases z with
  | dat d => exact ⟨h.1, dv_same s h.2⟩
  | new ds =>
    obtain ⟨p, us, a, b, c, n, d⟩ := h
    exact ⟨p, us, a, b, c, n, dvs_same s d⟩
  | new2 yss =>
    obtain ⟨p, l, a, b, c, n, d⟩ := h
    exact ⟨p, l, a, b, c, n, paired_imp d fun _ _ _ hh => dvs_same s hh⟩
  | any R =>
    obtain ⟨p, o, a, b, c, n, d⟩ := h
    exact ⟨p, o, a, b, c, n, (R p).mo s d⟩
def tWZ (L : Ly) (g : Pz) : TE := fun σ H Q => ∃ B G ρ, Rep L B G H σ ρ ∧ g.f ρ fun z ρ' => ∀ v B' G' H', Rep L B' G' H' σ ρ' → Same G G' → Hold L B B' G' v z → Q v H'
def zD (g : Px) : Pz := ⟨fun ρ k => g.f ρ fun d ρ1 => k (.dat d) ρ1, fun h => g.mono fun _ _ => h _ _⟩
def zN (g : Pl) : Pz := ⟨fun ρ k => g.f ρ fun d ρ1 => k (.new d) ρ1, fun h => g.mono fun _ _ => h _ _⟩
theorem w_zD {g : Px} (p : PE X e (tW L g)) : PE X e (tWZ L (zD g)) := PE.imp p fun σ H Q ⟨B, G, ρ, r, h⟩ =>
  ⟨B, G, ρ, r, g.mono (fun d ρ1 h1 v G1 H1 r1 s1 d1 => h1 v B G1 H1 r1 s1 ⟨rfl, d1⟩) h⟩
theorem w_zN {g : Pl} (p : PE X e (tWN L g)) : PE X e (tWZ L (zN g)) := PE.imp p fun σ H Q ⟨B, G, ρ, r, h⟩ =>
  ⟨B, G, ρ, r, g.mono (fun ds ρ1 h1 p us G1 H1 r1 h0 ne s1 d1 => h1 (.ref p) _ G1 H1 r1 s1 ⟨p, us, rfl, rfl, h0, ne, d1⟩) h⟩
theorem Rep.kpG {p : Addr} {us : List V} {ds : List Da} (r : Rep L (B.kp p (.lst us)) G H σ ρ) (h0 : B.H0 p = none) (d : DvAll L G us ds) (i : Nat) (ne : ∀ q ∈ B.ks, q.1 ≠ p) : Rep L B G H (σ.set i (some (.ref p))) (ρ.set i (some (.gro p ds))) := by
  obtain ⟨hx, hG, hM, ho⟩ := r.kpAt
  refine ⟨r.gr, r.mh, paired_set (a := some (V.ref p)) (b := some (.gro p ds)) ⟨rfl, hG, us, hx, d⟩ i r.env, nd_set r.nd ho, ?_, ?_, (fun p' qs hm b hb => (mem_set hm).elim (fun h => r.f2 p' qs h b hb) (fun z => by cases z)), ?_, r.tb, fun t ht => ⟨(r.tg t ht).1, fun z => ?_, fun q hq => (r.tg t ht).2.2 q (List.mem_cons_of_mem _ hq)⟩, r.mt, fun T hm => (mem_set hm).elim (r.ft T) fun z => by cases z⟩
  · intro q es hm
    rcases mem_set hm with hm | hm
    · exact r.fm q es hm
    · cases hm
      exact h0
  · intro d l c hm
    rcases mem_set hm with hm | hm
    · exact r.fd d l c hm
    · cases hm
  · intro q hq
    obtain ⟨h1, h2, h3, h4⟩ := r.ks q (List.mem_cons_of_mem _ hq)
    refine ⟨h1, h2, h3, fun z => ?_⟩
    rcases own_in z with z | z
    · exact h4 z
    · have e : q.1 = p := by simpa [slA] using z
      exact ne q hq e
  · rcases own_in z with z | z
    · exact (r.tg t ht).2.1 z
    · have e : t.1 = p := by simpa [slA] using z
      exact (r.tg t ht).2.2 (p, .lst us) List.mem_cons_self e.symm
theorem nd_setAny {p : Addr} {R : OwnR} : ∀ {ρ : En} {i : Nat}, (own ρ).Nodup → p ∉ own ρ → (own (ρ.set i (some (.gr2 p (.any R))))).Nodup := fun {ρ i} h hp => by
  have e : ∀ {ρ : En} {i : Nat}, own (ρ.set i (some (.gr2 p (.any R)))) = own (ρ.set i (some (.gro p []))) := by
    intro ρ
    induction ρ with
    | nil => intro i; rfl
    | cons s r ih =>
      intro i
      cases i with
      | zero => rfl
      | succ i =>
        show slA s ++ own (r.set i _) = slA s ++ own (r.set i _)
        rw [ih]
  rw [e]
  exact nd_set h hp
theorem Rep.kpA {p : Addr} {o : HO} {R : OwnR} (r : Rep L (B.kp p o) G H σ ρ) (h0 : B.H0 p = none) (d : R.f L G o) (i : Nat) (ne : ∀ q ∈ B.ks, q.1 ≠ p) : Rep L B G H (σ.set i (some (.ref p))) (ρ.set i (some (.gr2 p (.any R)))) := by
  obtain ⟨hx, hG, hM, ho⟩ := r.kpAt
  refine ⟨r.gr, r.mh, paired_set (a := some (V.ref p)) (b := some (.gr2 p (.any R))) ⟨rfl, hG, o, hx, d⟩ i r.env, nd_setAny r.nd ho, ?_, ?_, (fun p' qs hm b hb => (mem_set hm).elim (fun h => r.f2 p' qs h b hb) (fun z => by
    cases z
    rcases List.mem_cons.mp hb with e | e
    · rw [e]; exact h0
    · cases e)), ?_, r.tb, fun t ht => ⟨(r.tg t ht).1, fun z => ?_, fun q hq => (r.tg t ht).2.2 q (List.mem_cons_of_mem _ hq)⟩, r.mt, fun T hm => (mem_set hm).elim (r.ft T) fun z => by cases z⟩
  · intro q es hm
    rcases mem_set hm with hm | hm
    · exact r.fm q es hm
    · cases hm
  · intro d l c hm
    rcases mem_set hm with hm | hm
    · exact r.fd d l c hm
    · cases hm
  · intro q hq
    obtain ⟨h1, h2, h3, h4⟩ := r.ks q (List.mem_cons_of_mem _ hq)
    refine ⟨h1, h2, h3, fun z => ?_⟩
    rcases own_in z with z | z
    · exact h4 z
    · have e : q.1 = p := by simpa [slA, Gy.as] using z
      exact ne q hq e
  · rcases own_in z with z | z
    · exact (r.tg t ht).2.1 z
    · have e : t.1 = p := by simpa [slA, Gy.as] using z
      exact (r.tg t ht).2.2 (p, o) List.mem_cons_self e.symm
def sto (i : Nat) : Nv → En → (En → Prop) → Prop
  | .dat d, ρ, k => k (ρ.set i (some (.dat d)))
  | .new ds, ρ, k => ∀ p, p ∉ own ρ → k (ρ.set i (some (.gro p ds)))
  | .new2 yss, ρ, k => ∀ (p : Addr) (qs : List (Addr × List Da)), qs.map Prod.snd = yss → k (ρ.set i (some (.gr2 p qs)))
  | .any R, ρ, k => ∀ p, p ∉ own ρ → k (ρ.set i (some (.gr2 p (.any (R p)))))
theorem sto_mono {i : Nat} {z : Nv} {k k' : En → Prop} (h : ∀ r, k r → k' r) (q : sto i z ρ k) : sto i z ρ k' := by
  cases z with
  | dat d => exact h _ q
  | new ds => exact fun p hp => h _ (q p hp)
  | new2 yss => exact fun p qs e => h _ (q p qs e)
  | any R => exact fun p hp => h _ (q p hp)
theorem Rep.sto {v : V} {z : Nv} {i : Nat} {k : En → Prop} (r : Rep L B1 G H σ ρ) (h : Hold L B B1 G v z) (q : Fw.sto i z ρ k) : ∃ ρ', Rep L B G H (σ.set i (some v)) ρ' ∧ k ρ' := by
  cases z with
  | dat d =>
    obtain ⟨rfl, hd⟩ := h
    exact ⟨_, r.setD hd, q⟩
  | new ds =>
    obtain ⟨p, us, rfl, rfl, h0, ne, d⟩ := h
    exact ⟨_, r.kpG h0 d i ne, q p r.kpAt.2.2.2⟩
  | new2 yss =>
    obtain ⟨p, l, rfl, rfl, c, n, d⟩ := h
    exact ⟨_, Rep.kpG2 r c n d i, q p _ (List.map_snd_zip (by rw [List.length_map, prd_len d]; omega))⟩
  | any R =>
    obtain ⟨p, o, rfl, rfl, h0, ne, d⟩ := h
    exact ⟨_, r.kpA h0 d i ne, q p r.kpAt.2.2.2⟩
def sSetZ (i : Nat) (g : Pz) : Ps := ⟨fun ρ nx _ _ _ => g.f ρ fun z ρ1 => Fw.sto i z ρ1 nx, fun h _ _ _ => g.mono fun _ _ => sto_mono h⟩
theorem w_setZ {i : Nat} {g : Pz} (p : PS X st (tAsg (tWZ L g) (gName i))) : PS X st (tWS L (sSetZ i g)) := PS.imp p fun D σ H ⟨B, G, ρ, r, h⟩ =>
  ⟨B, G, ρ, r, g.mono (fun z ρ1 h1 v B1 G1 H1 r1 s1 d1 => by
    obtain ⟨ρ2, r2, k⟩ := r1.sto d1 h1
    exact k _ G1 H1 r2 s1) h⟩
def sPar (i j : Nat) (ga gb : Pz) : Ps := ⟨fun ρ nx _ _ _ => ga.f ρ fun z1 ρ1 => gb.f ρ1 fun z2 ρ2 => Fw.sto j z2 ρ2 fun ρ3 => Fw.sto i z1 ρ3 nx, fun h _ _ _ => ga.mono fun _ _ => gb.mono fun _ _ => sto_mono fun _ => sto_mono h⟩
theorem w_par {i j : Nat} {ga gb : Pz} (hij : i ≠ j) (p : PS X st (tPar i j (tCons (tWZ L ga) (tCons (tWZ L gb) tNil)))) : PS X st (tWS L (sPar i j ga gb)) := PS.imp p fun D σ H ⟨B, G, ρ, r, h⟩ =>
  ⟨B, G, ρ, r, ga.mono (fun z1 ρ1 h1 v B1 G1 H1 r1 s1 d1 => ⟨B1, G1, ρ1, r1, gb.mono (fun z2 ρ2 h2 u B2 G2 H2 r2 s2 d2 => by
    refine ⟨v, u, rfl, ?_⟩
    obtain ⟨ρ3, r3, h3⟩ := r2.sto d2 h2
    obtain ⟨ρ4, r4, h4⟩ := r3.sto (d1.same s2) h3
    rw [List.set_comm _ _ hij]
    exact h4 _ G2 H2 r4 (s1.trans s2)) h1⟩) h⟩
def sPar3 (i j l : Nat) (ga gb gc : Pz) : Ps := ⟨fun ρ nx _ _ _ => ga.f ρ fun z1 ρ1 => gb.f ρ1 fun z2 ρ2 => gc.f ρ2 fun z3 ρ3 => Fw.sto l z3 ρ3 fun ρ4 => Fw.sto j z2 ρ4 fun ρ5 => Fw.sto i z1 ρ5 nx,
  fun h _ _ _ => ga.mono fun _ _ => gb.mono fun _ _ => gc.mono fun _ _ => sto_mono fun _ => sto_mono fun _ => sto_mono h⟩
theorem w_par3 {i j l : Nat} {ga gb gc : Pz} (hij : i ≠ j) (hil : i ≠ l) (hjl : j ≠ l) (p : PS X st (tPar3 i j l (tCons (tWZ L ga) (tCons (tWZ L gb) (tCons (tWZ L gc) tNil))))) : PS X st (tWS L (sPar3 i j l ga gb gc)) := PS.imp p fun D σ H ⟨B, G, ρ, r, h⟩ =>
  ⟨B, G, ρ, r, ga.mono (fun z1 ρ1 h1 v B1 G1 H1 r1 s1 d1 => ⟨B1, G1, ρ1, r1, gb.mono (fun z2 ρ2 h2 u B2 G2 H2 r2 s2 d2 => ⟨B2, G2, ρ2, r2, gc.mono (fun z3 ρ3 h3 w B3 G3 H3 r3 s3 d3 => by
    refine ⟨v, u, w, rfl, ?_⟩
    obtain ⟨ρ4, r4, h4⟩ := r3.sto d3 h3
    obtain ⟨ρ5, r5, h5⟩ := r4.sto (d2.same s3) h4
    obtain ⟨ρ6, r6, h6⟩ := r5.sto (d1.same (s2.trans s3)) h5
    have e : ((σ.set i (some v)).set j (some u)).set l (some w) = ((σ.set l (some w)).set j (some u)).set i (some v) := by
      rw [List.set_comm _ _ hij, List.set_comm _ _ hil, List.set_comm (i := j) (j := l) _ _ hjl]
    rw [e]
    exact h6 _ G3 H3 r6 (s1.trans (s2.trans s3))) h2⟩) h1⟩) h⟩
theorem w_pt {g : Pt} (p : PW X e (tWT L g)) : PT X e (tWT L g) := p.pt
theorem w_and {g g' : Pt} (p : PW X e (tAnd (tWT L g) (tWT L g'))) : PW X e (tWT L (pAnd g g')) := PW.imp p tWT_and
theorem w_or {g g' : Pt} (p : PW X e (tOr (tWT L g) (tWT L g'))) : PW X e (tWT L (pOr g g')) := PW.imp p tWT_or
theorem w_notT {g : Pt} (p : PT X e (tNot (tWT L g))) : PT X e (tWT L (pNot g)) := PT.imp p fun σ H Q ⟨B, G, ρ, r, q⟩ =>
  ⟨B, G, ρ, r, g.mono (fun b ρ1 h1 G1 H1 r1 s1 => h1 G1 H1 r1 s1) q⟩
theorem calG_imp {P : Program} {w : World} {K : Frag} {mg : Str → Option Value} {base : Heap} {CX : CXT} {k : Nat} {x : Str} {sp sp' : Sp} (c : CalG P w K mg base CX k x sp) (h : ∀ vs H Q E, sp' vs H Q E → sp vs H Q E) : CalG P w K mg base CX k x sp' := by
  obtain ⟨f, fd, ps, F, hm, kp, b⟩ := c.ex
  exact ⟨f, fd, ps, ⟨fun vs H Q E q => F.len vs H Q E (h vs H Q E q), fun A outer s H args us vs Q E a1 a2 a3 a4 a5 q => F.run A outer s H args us vs Q E a1 a2 a3 a4 a5 (h _ _ _ _ q)⟩, hm, kp, b⟩
end
end Fw

namespace Fw
open PySem PySem.Spec PyProof.Rows L2 Fr
section
variable {X : Cx} {L : Ly} {B B1 B2 : Bs} {G H : Hp} {σ σ' : L2.St} {ρ : En} {st : Stmt} {e : Expr} {es : List Expr} {vs : List Nat}
theorem snd_add : Snd2 L (rI0 fun i j => .int (i + j)) rAdd := snd_I0 fun _ _ _ => .int _
theorem snd_sub : Snd2 L (rI0 fun i j => .int (i - j)) rSub := snd_I0 fun _ _ _ => .int _
theorem snd_mulW : Snd2 L (rI CMulW fun i j => .int (i * j)) rMulW := snd_I (fun _ _ h => h) fun _ _ _ => .int _
def rMul := r2I CMul fun i j => .int (i * j)
theorem snd_mul : Snd2 L (rI CMul fun i j => .int (i * j)) rMul := snd_I (fun _ _ h => h) fun _ _ _ => .int _
theorem snd_modN : Snd2 L (rI (fun _ j => j ≠ 0) fun i j => .int (i.fmod j)) rModN := snd_I (fun _ _ h => h) fun _ _ _ => .int _
theorem snd_lt : Snd2 L (rI0 fun i j => .bl (decide (i < j))) rLt := snd_I0 fun _ _ _ => .bl _
theorem snd_gt : Snd2 L (rI0 fun i j => .bl (decide (j < i))) rGt := snd_I0 fun _ _ _ => .bl _
def rAndI := r2I (fun _ _ => True) fun i j => .int (Builtin.bitAnd i j)
theorem snd_andI : Snd2 L (rI0 fun i j => .int (Builtin.bitAnd i j)) rAndI := snd_I0 fun _ _ _ => .int _
def pNeg (g : Px) : Px := ⟨fun ρ k => g.f ρ fun d ρ1 => ∃ i, d = .int i ∧ k (.int (-i)) ρ1, fun h => g.mono fun _ _ ⟨i, e, q⟩ => ⟨i, e, h _ _ q⟩⟩
theorem w_neg {g : Px} (p : PE X e (tUn (rU fun i => .int (-i)) (tW L g))) : PE X e (tW L (pNeg g)) := PE.imp p fun σ H Q ⟨B, G, ρ, r, h⟩ =>
  ⟨B, G, ρ, r, g.mono (fun d ρ1 ⟨i, e, h1⟩ v G1 H1 r1 s1 d1 => by
    subst e
    rw [dv_int d1]
    exact ⟨i, rfl, h1 _ G1 H1 r1 s1 (.int _)⟩) h⟩
theorem dv_non_iff {v : V} {d : Da} (h : Dv L G v d) (hd : ∀ n xs, d ≠ .obj n xs) : decide (v = V.non) = (match d with | .non => true | _ => false) := by
  cases h with
  | non => rfl
  | bl b => simp
  | int i => simp
  | str x => simp
  | lst _ _ => simp
  | tup _ _ => simp
  | obj _ _ => exact absurd rfl (hd _ _)
def pNeG (i : Nat) : Pt := ⟨fun ρ k => ∃ p ds, ρ[i]? = some (some (.gro p ds)) ∧ (∃ es, pys ds = some es ∧ SeqAt.shaped (.list es) = true) ∧ k (!ds.isEmpty) ρ, fun h ⟨p, ds, e, a, q⟩ => ⟨p, ds, e, a, h _ _ q⟩⟩
theorem pys_len : ∀ {ds : List Da} {es : List PyData}, pys ds = some es → es.isEmpty = ds.isEmpty
  | [], _, h => by
    cases h
    rfl
  | x :: r, es, h => by
    have h' : ((py x).bind fun d => (pys r).map fun ds => d :: ds) = some es := by simpa only [pys] using h
    obtain ⟨d, h1, e2⟩ := Option.bind_eq_some_iff.mp h'
    obtain ⟨fs, h2, rfl⟩ := Option.map_eq_some_iff.mp e2
    rfl
theorem eqv_listN (es : List PyData) : PyData.eqv (.list es) (.list []) = es.isEmpty := by
  cases es with
  | nil => rfl
  | cons a r => rfl
theorem w_neG {i : Nat} (p : PT X e (tTest (tOp (rNeD L.K) (tVar i) (tLst tNil)))) : PT X e (tWT L (pNeG i)) := PT.imp p fun σ H Q ⟨B, G, ρ, r, a, ds, hi, ⟨es, he, hs⟩, h⟩ => by
  obtain ⟨hv, hG, _, _, us, hu, dv⟩ := gro_at r hi
  refine ⟨_, hv, Nat.zero_le _, fun p hp => ?_⟩
  have s : Same H (upd H p (.lst [])) := same_upd hp
  refine ⟨.list es, .list [], .lst (.inl (.inl (s _ _ hu))) ?_, .lst (.inl (.inl upd_same)) .nil, hs, rfl, ?_⟩
  · exact pys_dp (dvs_same (r.gh.trans s) dv) he
  · rw [eqv_listN, pys_len he]
    exact ⟨_, rfl, h _ _ (r.lay hp) (same_upd (r.gh.free hp))⟩
def sPut (i : Nat) (gv gi : Px) : Ps := ⟨fun ρ nx _ _ _ => gv.f ρ fun d ρ1 => ∃ p ds, ρ1[i]? = some (some (.gro p ds)) ∧ gi.f ρ1 fun y ρ2 => ∃ ds1 n j, ρ2[i]? = some (some (.gro p ds1)) ∧ y = .int n ∧ ixN ds1.length n = some j ∧ nx (ρ2.set i (some (.gro p (ds1.set j d)))),
  fun h _ _ _ => gv.mono fun _ _ ⟨p, ds, e, q⟩ => ⟨p, ds, e, gi.mono (fun _ _ ⟨a, b, c, d1, d2, d3, d4⟩ => ⟨a, b, c, d1, d2, d3, h _ d4⟩) q⟩⟩
theorem w_put {i : Nat} {gv gi : Px} (p : PS X st (tAsg (tW L gv) (gSub (tVar i) (tW L gi) rSetL))) : PS X st (tWS L (sPut i gv gi)) := PS.imp p fun D σ H ⟨B, G, ρ, r, h⟩ =>
  ⟨B, G, ρ, r, gv.mono (fun d ρ1 ⟨p, ds, hi, h1⟩ v G1 H1 r1 s1 d1 => by
    obtain ⟨hv, _⟩ := gro_at r1 hi
    refine ⟨_, hv, B, G1, ρ1, r1, gi.mono (fun y ρ2 ⟨ds1, n, j, hi2, e, hj, h2⟩ u G2 H2 r2 s2 d2 => ?_) h1⟩
    subst e
    rw [dv_int d2]
    obtain ⟨_, _, _, _, us, hu, du⟩ := gro_at r2 hi2
    refine ⟨p, us, n, j, rfl, rfl, hu, by rw [dvs_len du]; exact hj, ?_⟩
    exact h2 _ G2 _ (r2.chgG hi2 (dvs_set j du (dv_same s2 d1))) (s1.trans s2)) h⟩
theorem w_setLcN {i : Nat} {src : Pl} {g : TG} {t : Tg} {c : Pt} {el : Px} (hg : SndV L g t vs) (p : PS X st (tAsg (tLc (tWI L src) g (tWT L c) (tW L el) vs) (gName i))) : PS X st (tWS L (sSetZ i (zN (pLcN src t c el vs)))) := by
  refine w_setZ (PS.imp p fun D σ H q => imp_lcN hg _ _ _ ?_)
  obtain ⟨B, G, ρ, r, h⟩ := q
  exact ⟨B, G, ρ, r, (pLcN src t c el vs).mono (fun ds ρ1 h1 p us G1 H1 r1 h0 ne s1 d1 => h1 (.ref p) _ G1 H1 r1 s1 ⟨p, us, rfl, rfl, h0, ne, d1⟩) h⟩
end
end Fw

namespace Fw
open PySem PySem.Spec PyProof.Rows L2 Fr
theorem loopF_from {t : Tg} {g : Ps} {nx : En → Prop} {rt : Da → En → Prop} {ds : List Da} (I : Nat → En → Prop)
    (hs : ∀ j x ρ', ds[j]? = some x → I j ρ' → t.f x ρ' fun ρ1 => g.f ρ1 (I (j + 1)) rt nx (I (j + 1))) (hd : ∀ ρ', I ds.length ρ' → nx ρ') :
    ∀ (m j : Nat) (ρ : En), j + m = ds.length → I j ρ → loopF t g nx rt (ds.drop j) ρ
  | 0, j, ρ, e, h => by
    have e : j = ds.length := by omega
    subst e
    rw [List.drop_length]
    exact hd ρ h
  | m + 1, j, ρ, e, h => by
    have hj : j < ds.length := by omega
    rw [List.drop_eq_getElem_cons hj]
    have ih := fun ρ' h' => loopF_from (t := t) (g := g) (rt := rt) I hs hd m (j + 1) ρ' (by omega) h'
    exact t.mono (fun ρ1 z => g.mono ih (fun _ _ z => z) (fun _ z => z) ih z) (hs j _ ρ (List.getElem?_eq_getElem hj) h)
theorem loopF_inv {t : Tg} {g : Ps} {nx : En → Prop} {rt : Da → En → Prop} {ds : List Da} {ρ : En} (I : Nat → En → Prop) (h0 : I 0 ρ)
    (hs : ∀ j x ρ', ds[j]? = some x → I j ρ' → t.f x ρ' fun ρ1 => g.f ρ1 (I (j + 1)) rt nx (I (j + 1))) (hd : ∀ ρ', I ds.length ρ' → nx ρ') : loopF t g nx rt ds ρ := by
  have := loopF_from I hs hd ds.length 0 ρ (by omega) h0
  simpa using this
theorem bite {b : Bool} {A C : Prop} (h1 : b = true → A) (h2 : b = false → C) : if b = true then A else C := by
  cases b with
  | true => exact h1 rfl
  | false => exact h2 rfl
theorem lcP_src {α : Type} {t : Tg} {c : Pt} {el : Px} {vs : List Nat} {k : List Da → En → Prop} {ρ : En} (emb : α → Da) (p : α → Bool) (out : α → Da) : ∀ {src : List α} {acc : List Da},
    (∀ a ∈ src, t.f (emb a) ρ fun ρ2 => c.f ρ2 fun b ρ3 => b = p a ∧ (p a = true → el.f ρ3 fun y ρ4 => y = out a ∧ wipeR ρ4 vs = ρ) ∧ (p a = false → wipeR ρ3 vs = ρ)) →
    acc.length + src.length ≤ sizeLine → k (acc ++ (src.filter p).map out) ρ → lcP t c el vs k (src.map emb) acc ρ
  | [], acc, _, _, h => by
    show k acc ρ
    simpa using h
  | x :: r, acc, hx, hl, h => t.mono (fun ρ2 h2 => c.mono (fun b ρ3 z => by
      have hl' : acc.length + (r.length + 1) ≤ sizeLine := hl
      obtain ⟨e, z1, z2⟩ := z
      subst e
      by_cases hb : p x = true
      · rw [if_pos hb]
        refine el.mono (fun y ρ4 ⟨e1, e2⟩ => ⟨by omega, ?_⟩) (z1 hb)
        show lcP t c el vs k (r.map emb) _ _
        rw [e2, e1]
        refine lcP_src emb p out (fun u hu => hx u (List.mem_cons_of_mem _ hu)) (by rw [List.length_append]; simp only [List.length_singleton]; omega) ?_
        rw [List.filter_cons_of_pos hb, List.map_cons] at h
        rw [List.append_assoc]
        exact h
      · rw [if_neg hb]
        show lcP t c el vs k (r.map emb) _ _
        rw [z2 (by simpa using hb)]
        refine lcP_src emb p out (fun u hu => hx u (List.mem_cons_of_mem _ hu)) (by omega) ?_
        rw [List.filter_cons_of_neg hb] at h
        exact h) h2) (hx x List.mem_cons_self)
theorem lcP_all {α : Type} {t : Tg} {el : Px} {vs : List Nat} {k : List Da → En → Prop} {ρ : En} (emb : α → Da) (out : α → Da) {src : List α}
    (hx : ∀ a ∈ src, t.f (emb a) ρ fun ρ2 => el.f ρ2 fun y ρ4 => y = out a ∧ wipeR ρ4 vs = ρ) (hl : src.length ≤ sizeLine) (h : k (src.map out) ρ) : lcP t pYes el vs k (src.map emb) [] ρ := by
  refine lcP_src emb (fun _ => true) out (fun a ha => ?_) (by simpa using hl) ?_
  · exact t.mono (fun ρ2 h2 => ⟨rfl, fun _ => h2, fun e => by cases e⟩) (hx a ha)
  · have e : src.filter (fun _ => true) = src := List.filter_eq_self.mpr fun _ _ => rfl
    rw [e]
    exact h
abbrev ti (ns : List Int) : Da := .tup (ns.map Da.int)
abbrev li (ns : List Int) : Da := .lst (ns.map Da.int)
abbrev lti (ts : List (List Int)) : Da := .lst (ts.map ti)
abbrev pti (ns : List Int) : PyData := .tuple (ns.map PyData.int)
theorem pys_ints : ∀ ns : List Int, pys (ns.map Da.int) = some (ns.map PyData.int)
  | [] => rfl
  | n :: ns => by
    simp only [List.map_cons, pys, py, pys_ints ns, Option.bind_some, Option.map_some]
theorem py_ti (ns : List Int) : py (ti ns) = some (pti ns) := by
  simp only [ti, py, pys_ints, Option.map_some]
theorem py_li (ns : List Int) : py (li ns) = some (.list (ns.map PyData.int)) := by
  simp only [li, py, pys_ints, Option.map_some]
theorem depth_ints (ns : List Int) : PyData.depthAll (ns.map PyData.int) ≤ 1 := by
  induction ns with
  | nil => simp [PyData.depthAll]
  | cons n r ih => simp only [List.map, PyData.depthAll, PyData.depth]; omega
theorem lay_ints (ns : List Int) : PyData.canLayAll0 (ns.map PyData.int) = true := by
  induction ns with
  | nil => simp [PyData.canLayAll0]
  | cons n r ih => simp only [List.map, PyData.canLayAll0, PyData.canLay0, ih, Bool.and_self]
theorem shaped_ti (ns : List Int) : SeqAt.shaped (pti ns) = true := by
  unfold SeqAt.shaped
  rw [Bool.and_eq_true]
  refine ⟨by simp only [pti, PyData.canLay0, lay_ints], decide_eq_true ?_⟩
  have := depth_ints ns
  simp only [pti, PyData.depth]
  omega
theorem eqvAll_ints : ∀ a b : List Int, PyData.eqvAll (a.map PyData.int) (b.map PyData.int) = decide (a = b)
  | [], [] => by simp [PyData.eqvAll]
  | [], _ :: _ => by simp [PyData.eqvAll]
  | _ :: _, [] => by simp [PyData.eqvAll]
  | x :: a, y :: b => by
    have h : PyData.eqvAll (a.map PyData.int) (b.map PyData.int) = decide (a = b) := eqvAll_ints a b
    simp only [List.map_cons, PyData.eqvAll, PyData.eqv, h]
    by_cases h1 : x = y <;> by_cases h2 : a = b <;> simp [h1, h2]
theorem eqv_ti (a b : List Int) : PyData.eqv (pti a) (pti b) = decide (a = b) := by
  simp only [pti, PyData.eqv, eqvAll_ints]
theorem atI_nat {α : Type} {xs : List α} {j : Nat} {x : α} (h : xs[j]? = some x) : atI xs (j : Int) = some x := by
  have hj : j < xs.length := (List.getElem?_eq_some_iff.mp h).1
  unfold atI ixN
  rw [if_pos (by omega), if_pos (by omega)]
  exact h
end Fw

namespace Fv
open PySem PySem.Spec PyProof.Rows L2 Fr Fw
def topS (i : Nat) : Stmt := PySem.Challenge.pw_flatrooms_k19_signs_of_tables.main.body.getD i (.Pass ⟨0, 0, 0, 0⟩)
structure Bw (mg : Str → Option Value) : Prop where
  abs : mg "abs" = none
  int : mg "int" = none
  len : mg "len" = none
  list : mg "list" = none
  tuple : mg "tuple" = none
  max : mg "max" = none
  range : mg "range" = none
  sorted : mg "sorted" = none
  set : mg "set" = none
  zip : mg "zip" = none
  enumerate : mg "enumerate" = none
theorem start_eq {N : List Str} {vs : List V} {n : Nat} (h : N.length = vs.length + n) : L2.start N vs = vs.map some ++ List.replicate n none := by
  unfold L2.start
  rw [h, Nat.add_sub_cancel_left]
section
variable {P : Program} {w : World} {L : Ly} {mg : Str → Option Value} {base : Heap} {f : Addr} {fd : FuncData}
def lessL (a b : List Int) : List Int := a.filter fun i => decide (i ∉ b)
end
end Fv

namespace Fv
open PySem PySem.Spec PyProof.Rows L2 Fr Fw
section
variable {P : Program} {w : World} {L : Ly} {mg : Str → Option Value} {base : Heap} {f : Addr} {fd : FuncData}
def okN (lot : List Int) (i : Int) : Bool := match lot.getLast? with
  | none => true
  | some j => decide (j < i)
def stepL (ns : List Int) (ts : List (List Int)) : List (List Int) := ts.flatMap fun t => (ns.filter (okN t)).map fun i => t ++ [i]
def lotsL (ns : List Int) : Nat → List (List Int)
  | 0 => [[]]
  | k + 1 => stepL ns (lotsL ns k)
end
end Fv

namespace Fv
open PySem PySem.Spec PyProof.Rows L2 Fr Fw
section
variable {P : Program} {w : World} {L : Ly} {mg : Str → Option Value} {base : Heap} {f : Addr} {fd : FuncData}
abbrev s_law_shuffled : Stmt := topS 22
theorem sc_law_shuffled : FnScope ["draw", "some", "left", "found"] ["draw", "some"] (C8.fnScope s_law_shuffled) := C8.fnScope_by (by decide +kernel)
def Shp (ds : List Da) : Prop := ∀ es : List Da, (∀ e ∈ es, e ∈ ds) → ∃ fs, pys es = some fs ∧ SeqAt.shaped (.list fs) = true
def fShuf : Pf := ⟨fun xs k => ∃ ds, xs = [.lst ds] ∧ ds.length ≤ 1000000 ∧ Shp ds ∧ ∀ es, es.Perm ds → k (.lst es), fun h ⟨ds, e, l, s, q⟩ => ⟨ds, e, l, s, fun es p => h _ (q es p)⟩⟩
theorem perm_erase {α : Type} : ∀ {l : List α} {j : Nat} {x : α}, l[j]? = some x → (x :: l.eraseIdx j).Perm l
  | [], _, _, h => by simp at h
  | a :: r, 0, x, h => by
    simp at h
    subst h
    exact List.Perm.refl _
  | a :: r, j + 1, x, h => by
    have ih := perm_erase (l := r) (j := j) (x := x) (by simpa using h)
    exact (List.Perm.swap a x _).trans (ih.cons a)
theorem ok_law_shuffled (Fd : C8.Def L.K mg "_law_shuffled" s_law_shuffled f fd) (b : Binds L.K fd ["draw", "some"] []) (B : Bw mg) (c_law_take : CalG P w L.K mg base C8.CX0 2 "_law_take" (spD L fTake)) :
    CalG P w L.K mg base C8.CX0 3 "_law_shuffled" (spD L fShuf) := by
  have sc := sc_law_shuffled
  refine calD (n := 2) Fd b sc ?_ (fun v vs h => ?_) fun cdv A outer s H E hr hgu => ?_
  · rintro ds k ⟨a, rfl, _⟩
    rfl
  · rw [start_eq (n := 2) (by show 4 = (vs.length + 1) + 2; rw [h]; rfl)]
    rfl
  refine ⟨_, w_seq (w_par (by decide) (ps_par (i := 2) (j := 3) (by rfl) sc.nd rfl rfl (by decide) rfl rfl (pa_cons (w_zN (w_nlistOf (pe_callTy call_list_of (by rfl) B.list (by decide +kernel) (pa_cons (w_v (pv 1)) pa_nil)))) (pa_cons (w_zN (w_nlst w_nil)) pa_nil)) (by rfl)))
  (w_seq (w_while (ps_while PassesOwn.never (w_neG (pt_cmpR (op_neD hr.units) (pv 2) (pe_lst pa_nil) (nomark _)))
   (w_one (w_app (ps_expr (pe_bm PySem.F.plainAttrs_list PySem.F.slot_list_append PySem.F.type_list_append mt_append (pv 3) (pa_cons (w_popG (pe_bm PySem.F.plainAttrs_list PySem.F.slot_list_pop PySem.F.type_list_pop mt_popAt (pv 2) (pa_cons (w_callD c_law_take hr (by decide) hgu rfl (pv 0) (w_cons (w_lenG (pe_callB call_len_seq (by rfl) B.len (by decide +kernel) (pa_cons (pv 2) pa_nil))) w_nil)) pa_nil))) pa_nil)))))))
  (w_one (w_ret (ps_ret (w_frz (pv 3)))))), ?_⟩
  rintro d l c ds kk ⟨xs, rfl, hl, hs, k⟩
  refine ⟨_, rfl, xs, .inl rfl, by decide, fun p hp q hq => ?_⟩
  refine ⟨fun m ρ => ∃ left found, m = left.length ∧ ρ = [some (.drw d l c), some (.dat (.lst xs)), some (.gro q left), some (.gro p found)] ∧ (found ++ left).Perm xs, ⟨_, xs, [], rfl, rfl, List.Perm.refl _⟩, ?_⟩
  rintro m ρ ⟨left, found, rfl, rfl, hp⟩
  have hlen : found.length + left.length = xs.length := by
    rw [← hp.length_eq, List.length_append]
  refine ⟨q, left, rfl, hs left fun e he => hp.mem_iff.mp (List.mem_append.mpr (.inr he)), bite (fun hb => ?_) fun hb => ?_⟩
  · have hne : left ≠ [] := by
      intro e
      subst e
      cases hb
    have h0 : 0 < left.length := List.length_pos_iff.mpr hne
    refine ⟨p, found, rfl, q, left, rfl, d, l, c, rfl, q, left, rfl, List.mem_cons_self, _, rfl, by omega, ?_, fun r r0 r1 => ?_⟩
    · have h2 : ((left.length : Int)).natAbs = left.length := rfl
      rw [h2]
      exact log2_small (by omega) h0
    · have hr : r.toNat < left.length := by omega
      refine ⟨left, r, r.toNat, left[r.toNat], rfl, rfl, by omega, by omega, ?_, List.getElem?_eq_getElem hr, found, rfl, ?_, _, ?_, _, _, rfl, rfl, ?_⟩
      · unfold seqIndex?
        have e1 : ¬ r < 0 := by omega
        simp only [if_neg e1]
        rw [if_pos (by simp; omega)]
      · exact Nat.lt_of_le_of_lt (by omega : found.length ≤ 1000000) (by decide)
      · rw [List.length_eraseIdx_of_lt hr]
        omega
      · rw [List.append_assoc]
        exact (List.Perm.append_left found (perm_erase (List.getElem?_eq_getElem hr))).trans hp
  · have e : left = [] := by
      cases left with
      | nil => rfl
      | cons a r => cases hb
    subst e
    rw [List.append_nil] at hp
    exact ⟨p, found, rfl, List.mem_cons_self, k found hp⟩
end
end Fv

namespace Fw
open PySem PySem.Spec PyProof.Rows L2 Fr
section
variable {X : Cx} {L : Ly} {e : Expr}
def sAsg (t : Tg) (g : Px) : Ps := ⟨fun ρ nx _ _ _ => g.f ρ fun d ρ1 => t.f d ρ1 nx, fun h _ _ _ => g.mono fun _ _ => t.mono h⟩
theorem w_asg {st : Stmt} {gt : TG} {t : Tg} {g : Px} (hg : SndG L gt t) (p : PS X st (tAsg (tW L g) gt)) : PS X st (tWS L (sAsg t g)) := PS.imp p fun D σ H ⟨B, G, ρ, r, h⟩ =>
  ⟨B, G, ρ, r, g.mono (fun d ρ1 h1 v G1 H1 r1 s1 d1 => hg r1 d1 (t.mono (fun ρ2 h2 σ2 r2 => h2 σ2 G1 H1 r2 s1) h1)) h⟩
end
end Fw

namespace Fv
open PySem PySem.Spec PyProof.Rows L2 Fr Fw
section
variable {P : Program} {w : World} {L : Ly} {mg : Str → Option Value} {base : Heap} {f : Addr} {fd : FuncData}
def ins (i : Int) : List Int → List Int
  | [] => [i]
  | j :: r => if i < j then i :: j :: r else if i = j then j :: r else j :: ins i r
def asc : List Int → List Int
  | [] => []
  | i :: r => ins i (asc r)
def withL (a b : List Int) : List Int := asc (a ++ b)
end
end Fv

namespace Fv
open PySem PySem.Spec PyProof.Rows L2 Fr Fw
section
variable {P : Program} {w : World} {L : Ly} {mg : Str → Option Value} {base : Heap} {f : Addr} {fd : FuncData}
end
end Fv

namespace Fv
open PySem PySem.Spec PyProof.Rows L2 Fr Fw
section
variable {P : Program} {w : World} {L : Ly} {mg : Str → Option Value} {base : Heap} {f : Addr} {fd : FuncData}
def exItem (bs : List (List Int)) (one other : List Int) (item : Int) : Prop := ∃ t ∈ lessL other one, withL (lessL one [item]) [t] ∈ bs
def exOther (bs : List (List Int)) (one other : List Int) : Prop := ∀ item ∈ lessL one other, exItem bs one other item
def exOne (bs : List (List Int)) (one : List Int) : Prop := ∀ other ∈ bs, exOther bs one other
def CanEx (bs : List (List Int)) : Prop := ∀ one ∈ bs, exOne bs one
end
end Fv

namespace Fw
open PySem PySem.Spec PyProof.Rows L2 Fr
end Fw
namespace Fv
open PySem PySem.Spec PyProof.Rows L2 Fr Fw
section
variable {P : Program} {w : World} {L : Ly} {mg : Str → Option Value} {base : Heap} {f : Addr} {fd : FuncData}
end
end Fv

namespace Fv
open PySem PySem.Spec PyProof.Rows L2 Fr Fw
section
variable {P : Program} {w : World} {L : Ly} {mg : Str → Option Value} {base : Heap} {f : Addr} {fd : FuncData}
end
end Fv

namespace Fv
open PySem PySem.Spec PyProof.Rows L2 Fr Fw
section
variable {P : Program} {w : World} {L : Ly} {mg : Str → Option Value} {base : Heap} {f : Addr} {fd : FuncData}
end
end Fv

namespace Fv
open PySem PySem.Spec PyProof.Rows L2 Fr Fw
section
variable {P : Program} {w : World} {L : Ly} {mg : Str → Option Value} {base : Heap} {f : Addr} {fd : FuncData}
def spots (row : List Int) : List Nat := (List.range row.length).filter fun i => decide (row.getD i 0 ≠ 0)
def inv (p x : Int) : Int := x ^ (p - 2).toNat % p
def clr (p : Int) (row : List Int) (k : Nat) (q : List Int) : List Int := List.zipWith (fun a b => (a - q.getD k 0 * inv p (row.getD k 0) * b) % p) q row
def rr (p : Int) : Nat → List (List Int) → Nat
  | 0, _ => 0
  | _ + 1, [] => 0
  | m + 1, row :: rest => match spots row with
    | [] => rr p m rest
    | k :: _ => 1 + rr p m (rest.map (clr p row k))
def Mod (p : Int) (n : Nat) (q : List Int) : Prop := q.length = n ∧ ∀ x ∈ q, 0 ≤ x ∧ x < p
theorem ne0 (x : Int) : (!(x == 0)) = decide (x ≠ 0) := by
  by_cases h : x = 0 <;> simp [h]
theorem enum_ints (row : List Int) : enumD (row.map Da.int) = (List.range row.length).map fun i : Nat => Da.tup [.int (i : Int), .int (row.getD i 0)] := by
  unfold enumD
  rw [List.length_map]
  refine List.map_congr_left fun i hi => ?_
  have hl : i < row.length := List.mem_range.mp hi
  rw [List.getD_eq_getElem?_getD, List.getElem?_map, List.getD_eq_getElem?_getD, List.getElem?_eq_getElem hl]
  rfl
theorem zip_ints (q row : List Int) : zipD (q.map Da.int) (row.map Da.int) = (List.zip q row).map fun p => Da.tup [.int p.1, .int p.2] := by
  unfold zipD
  rw [List.zipWith_map, List.map_zip_eq_zipWith]
  rfl
end
end Fv

namespace Fw
open PySem PySem.Spec PyProof.Rows L2 Fr
section
variable {X : Cx} {L : Ly} {B : Bs} {G H : Hp} {σ : L2.St} {ρ : En} {e : Expr}
theorem dvs_rgV (n : Int) : DvAll L G (L2.rgV 0 n) (rgD 0 n.toNat) := by
  unfold L2.rgV rgD
  rw [Int.sub_zero]
  have : ∀ is : List Nat, DvAll L G (is.map fun i : Nat => V.int (0 + (i : Nat))) (is.map fun i : Nat => Da.int (0 + (i : Nat))) := by
    intro is
    induction is with
    | nil => exact .nil
    | cons i r ih => exact .cons (.int _) ih
  exact this _
def pLRg (g : Px) : Pl := ⟨fun ρ k => g.f ρ fun d ρ1 => ∃ n : Int, d = .int n ∧ 0 ≤ n ∧ n ≤ 16777216 ∧ k (rgD 0 n.toNat) ρ1, fun h => g.mono fun _ _ ⟨n, e, a, b, q⟩ => ⟨n, e, a, b, h _ _ q⟩⟩
theorem w_nlistRg {g : Px} (p : PE X e (tLstRg (tRg1 (tW L g)))) : PE X e (tWN L (pLRg g)) := PE.imp p fun σ H Q ⟨B, G, ρ, r, h⟩ =>
  ⟨B, G, ρ, r, g.mono (fun d ρ1 ⟨n, e, h0, h2, h1⟩ v G1 H1 r1 s1 d1 => by
    subst e
    rw [dv_int d1]
    refine ⟨n, rfl, RgOk.of_le (by omega) h2 (by omega) h0, fun q hq => ?_⟩
    exact h1 q _ G1 _ (r1.kp hq) (r1.h0 hq) (fun z hz e => by
      have := (r1.ks z hz).1
      rw [e, hq] at this
      cases this) s1 (dvs_rgV n)) h⟩
theorem w_listRg {g : Px} (p : PE X e (tLstRg (tRg1 (tW L g)))) : PE X e (tW L (pNL (pLRg g))) := w_NL (w_nlistRg p)
end
end Fw

namespace Fv
open PySem PySem.Spec PyProof.Rows L2 Fr Fw
section
variable {P : Program} {w : World} {L : Ly} {mg : Str → Option Value} {base : Heap} {f : Addr} {fd : FuncData}
def rangeI (n : Nat) : List Int := (List.range n).map fun i : Nat => (i : Int)
end
end Fv

namespace Fv
open PySem PySem.Spec PyProof.Rows L2 Fr Fw
section
variable {P : Program} {w : World} {L : Ly} {mg : Str → Option Value} {base : Heap} {f : Addr} {fd : FuncData}
end
end Fv

namespace Fv
structure RankFn (r : List Int → Nat) : Prop where
  nil : r [] = 0
  mono : ∀ {a b : List Int}, (∀ x ∈ a, x ∈ b) → r a ≤ r b
  unit : ∀ (x : Int) (a : List Int), r (x :: a) ≤ r a + 1
  span : ∀ (a t : List Int), (∀ x ∈ t, r (x :: a) = r a) → r (a ++ t) = r a
section
variable {r : List Int → Nat} (R : RankFn r)
include R
end
end Fv

namespace Fv
theorem okN_iff {t : List Int} {i : Int} (h : t.Pairwise (· < ·)) : okN t i = true ↔ ∀ x ∈ t, x < i := by
  unfold okN
  cases e : t.getLast? with
  | none =>
    have : t = [] := List.getLast?_eq_none_iff.mp e
    subst this
    simp
  | some j =>
    simp only [decide_eq_true_iff]
    have hne : t ≠ [] := fun z => by subst z; cases e
    obtain ⟨u, hu⟩ : ∃ u, t = u ++ [j] := by
      obtain ⟨ys, hy⟩ := List.getLast?_eq_some_iff.mp e
      exact ⟨ys, hy⟩
    subst hu
    constructor
    · intro hj x hx
      rcases List.mem_append.mp hx with z | z
      · have := (List.pairwise_append.mp h).2.2 x z j (List.mem_singleton.mpr rfl)
        omega
      · rw [List.mem_singleton.mp z]
        exact hj
    · intro hx
      exact hx j (List.mem_append.mpr (.inr (List.mem_singleton.mpr rfl)))
theorem mem_lots {ns : List Int} : ∀ {k : Nat} {t : List Int}, t ∈ lotsL ns k ↔ t.Pairwise (· < ·) ∧ t.length = k ∧ ∀ x ∈ t, x ∈ ns
  | 0, t => by
    constructor
    · intro h
      have e : t = [] := by simpa [lotsL] using h
      subst e
      exact ⟨List.Pairwise.nil, rfl, fun _ h => by cases h⟩
    · rintro ⟨_, h, _⟩
      rw [List.length_eq_zero_iff.mp h]
      simp [lotsL]
  | k + 1, t => by
    constructor
    · intro h
      obtain ⟨u, hu, h⟩ := List.mem_flatMap.mp (show t ∈ (lotsL ns k).flatMap _ from h)
      obtain ⟨i, hi, rfl⟩ := List.mem_map.mp h
      obtain ⟨i1, i2⟩ := List.mem_filter.mp hi
      obtain ⟨u1, u2, u3⟩ := mem_lots.mp hu
      refine ⟨List.pairwise_append.mpr ⟨u1, by simp, fun a ha b hb => ?_⟩, by rw [List.length_append, u2]; rfl, fun x hx => ?_⟩
      · rw [List.mem_singleton.mp hb]
        exact (okN_iff u1).mp i2 a ha
      · rcases List.mem_append.mp hx with z | z
        · exact u3 x z
        · rw [List.mem_singleton.mp z]
          exact i1
    · rintro ⟨h1, h2, h3⟩
      have hne : t ≠ [] := fun e => by subst e; cases h2
      obtain ⟨u, j, rfl⟩ : ∃ u j, t = u ++ [j] := ⟨t.dropLast, t.getLast hne, (List.dropLast_concat_getLast hne).symm⟩
      obtain ⟨p1, _, p3⟩ := List.pairwise_append.mp h1
      have hu : u ∈ lotsL ns k := mem_lots.mpr ⟨p1, by rw [List.length_append] at h2; simpa using h2, fun x hx => h3 x (List.mem_append.mpr (.inl hx))⟩
      refine List.mem_flatMap.mpr ⟨u, hu, List.mem_map.mpr ⟨j, List.mem_filter.mpr ⟨h3 j (List.mem_append.mpr (.inr (List.mem_singleton.mpr rfl))), ?_⟩, rfl⟩⟩
      exact (okN_iff p1).mpr fun x hx => p3 x hx j (List.mem_singleton.mpr rfl)
end Fv

namespace Fw
open PySem PySem.Spec PyProof.Rows L2 Fr
structure LamG (P : Program) (w : World) (K : Frag) (mg : Str → Option Value) (base : Heap) (CX : CXT) (k : Nat) (f : Addr) (sp : Sp) : Prop where
  fn : PySem.W.FnAt f base
  run : ∀ (A : Around) (outer : List Env) (s : Shared) (H : Hp) (us : List Value) (vs : List V) (Q : VK) (E : XK), Room k A → A.guards = some [] → Env0 P w K mg base A outer s H → Vals vs us → sp vs H Q E →
    codeAny (model P w) A (.call (.ref f) ⟨us, []⟩) (CR CX outer P w H s Q E) s
theorem fnAt_keep {f : Addr} {h h' : Heap} (x : PySem.W.FnAt f h) (k : ∀ b o, h.get? b = some o → h'.get? b = some o) : PySem.W.FnAt f h' := by
  obtain ⟨oc, od, fd, sl, e⟩ := x
  exact ⟨oc, od, fd, sl, k _ _ e⟩
section
variable {X : Cx} {CX : CXT} {k j : Nat} {x : Str} {f : Addr} {sp : Sp} {p pos : Pos} {e : Expr} {es : List Expr} {t : TA}
theorem run_v {E : XK} {pins : List (Addr × Obj)} {σ : L2.St} {H : Hp} {s : Shared} {Q : VK} {us : List Value} {vs : List V} (F : LamG X.prog X.w X.K X.mg X.base CX k f sp) (hr : Room k X.A) (hgu : X.A.guards = some [])
    (hx : ∀ e s', CX X.stack H s E e s' → X.xe e s') (I : Inv X pins σ H s) (r : Vals vs us) (h : sp vs H Q E) : wpAny (model X.prog X.w) X.A (call (.ref f) us) (EP X pins σ Q) X.xe s := by
  have z := F.run X.A X.stack s H us vs Q E hr hgu I.env0 r h
  refine wpAny_call (codeAny_mono z ?_)
  rintro (er | fl) s' hq
  · exact hx er s' hq
  · cases fl with
    | ret u => exact I.after hq
    | next => cases hq
    | brk => cases hq
    | cont => cases hq
theorem pe_vS {i : Nat} {E : L2.St → XK} (c : LamG X.prog X.w X.K X.mg X.base CX k f sp) (hr : Room j X.A) (hk : k ≤ j) (hgu : X.A.guards = some []) (hN : X.N[i]? = some x) (hv : Vis X.env.scope x) (hx : ∀ σ, PassesAt CX X σ (E σ))
    (hd : (x == ("__debug__" : Str)) = false := by decide) (hcd : (x == ("__classdict__" : Str)) = false := by decide) :
    PE X (.Call (.Name x p) [] [] pos) (fun σ H Q => σ[i]? = some (some (.ref f)) ∧ sp [] H Q (E σ)) := by
  refine ⟨?_⟩
  rintro pins s σ H Q I ⟨hs, ht⟩
  refine wpAny_Call_Name_kw (thn ((pe_var (pos := p) hN hv hd hcd).run pins s σ H (fun v H1 => v = .ref f ∧ H1 = H) I ⟨.ref f, hs, rfl, rfl⟩) ?_)
  rintro u s1 ⟨v, H1, I1, r1, rfl, rfl⟩
  cases r1
  exact PySem.W.callWith_F0 (fnAt_keep c.fn I1.bk) (run_v c (hr.mono hk) hgu (fun e s' z => hx σ pins H1 s1 e s' I1 z) I1 .nil ht)
end
def lamCx (CX : CXT) (P : Program) (w : World) (K : Frag) (mg : Str → Option Value) (base : Heap) (N : List Str) (qual : Str) (scope : Scope) (cl : List (Str × Addr)) (f c : Addr) (A : Around) (outer : List Env) (s : Shared) (H : Hp) (E : XK) : Cx where
  prog := P
  w := w
  K := K
  mg := mg
  base := base
  A := A.deeper (PySem.W.envX qual scope s.heap.objs.size f (.ref c) cl)
  N := N
  s_0 := s
  H_0 := H
  env := PySem.W.envX qual scope s.heap.objs.size f (.ref c) cl
  outer := outer
  stack := PySem.W.envX qual scope s.heap.objs.size f (.ref c) cl :: outer
  ex := []
  fn := fun _ => false
  calm := true
  pn := []
  xe := fun e s' => wpAny (model P w) (A.deeper (PySem.W.envX qual scope s.heap.objs.size f (.ref c) cl)) (leaving (PySem.W.envX qual scope s.heap.objs.size f (.ref c) cl) e) (fun _ s'' => CX outer H s E e s'') (fun e' s'' => CX outer H s E e' s'') s'
structure LamN (N ps cs : List Str) (scope : Scope) : Prop where
  kind : scope.kind = .function
  co : scope.isCoroutine = false
  gen : scope.isGenerator = false
  nd : N.Nodup
  pre : N.take (ps ++ cs).length = ps ++ cs
  par : ∀ y ∈ ps, scope.names.lookup y = some .local
  own : ∀ y ∈ scope.names, y.2 = .local → y.1 ∈ ps
  cell : ∀ y ∈ scope.names, y.2 ≠ .cell
  free : ∀ y ∈ scope.names, y.2 = .free → y.1 ∈ cs
  fr : ∀ y ∈ cs, scope.names.lookup y = some .free
def lamNB (N ps cs : List Str) (scope : Scope) : Bool :=
  decide (scope.kind = .function) && !scope.isCoroutine && !scope.isGenerator && decide N.Nodup && decide (N.take (ps ++ cs).length = ps ++ cs) && ps.all (fun y => decide (scope.names.lookup y = some .local)) &&
  scope.names.all (fun y => (!decide (y.2 = .local) || decide (y.1 ∈ ps)) && !decide (y.2 = .cell) && (!decide (y.2 = .free) || decide (y.1 ∈ cs))) && cs.all (fun y => decide (scope.names.lookup y = some .free))
theorem lamN_by {N ps cs : List Str} {scope : Scope} (h : lamNB N ps cs scope = true) : LamN N ps cs scope := by
  unfold lamNB at h
  simp only [Bool.and_eq_true, Bool.or_eq_true, Bool.not_eq_true', decide_eq_true_eq, decide_eq_false_iff_not, List.all_eq_true] at h
  obtain ⟨⟨⟨⟨⟨⟨⟨h1, h2⟩, h3⟩, h4⟩, h5⟩, h6⟩, h7⟩, h8⟩ := h
  refine ⟨h1, h2, h3, h4, h5, h6, fun y hy e => ?_, fun y hy => (h7 y hy).1.2, fun y hy e => ?_, h8⟩
  · rcases (h7 y hy).1.1 with z | z
    · exact absurd e z
    · exact z
  · rcases (h7 y hy).2 with z | z
    · exact absurd e z
    · exact z
structure Caps (base : Heap) (cs : List Str) (cl : List (Str × Addr)) (ws : List V) : Prop where
  sub : ∀ y c, cl.lookup y = some c → y ∈ cs
  inj : ∀ y z c, cl.lookup y = some c → cl.lookup z = some c → y = z
  len : ws.length = cs.length
  val : ∀ (i : Nat) (y : Str) (v : V), cs[i]? = some y → ws[i]? = some v → ∃ (c : Addr) (u : Value), cl.lookup y = some c ∧ base.IsCell c (some u) ∧ RelV v u
theorem start_at {N ps : List Str} {vs : List V} {i : Nat} {v : V} (h : (L2.start N vs)[i]? = some (some v)) : vs[i]? = some v := by
  unfold L2.start at h
  by_cases hi : i < vs.length
  · rw [List.getElem?_append_left (by simpa using hi), List.getElem?_map] at h
    cases e : vs[i]? with
    | none => rw [e] at h; cases h
    | some a => rw [e] at h; cases h; rfl
  · rw [List.getElem?_append_right (by simpa using hi), List.getElem?_replicate] at h
    split at h <;> cases h
theorem start_len {N : List Str} {vs : List V} (h : vs.length ≤ N.length) : (L2.start N vs).length = N.length := by
  unfold L2.start
  rw [List.length_append, List.length_map, List.length_replicate]
  omega
section
variable {CX : CXT} {P : Program} {w : World} {K : Frag} {mg : Str → Option Value} {base : Heap} {N ps cs : List Str} {qual : Str} {params : Arguments} {body : Expr} {scope : Scope} {cl : List (Str × Addr)} {f c : Addr} {A : Around} {outer : List Env} {s : Shared} {H : Hp} {E : XK} {us : List Value} {vs ws : List V}
theorem zip_look {ps : List Str} {us : List Value} {i : Nat} {x : Str} {u : Value} (nd : ps.Nodup) (h1 : ps[i]? = some x) (h2 : us[i]? = some u) : (ps.zip us).reverse.lookup x = some u := by
  have hm : (x, u) ∈ (ps.zip us).reverse := by
    rw [List.mem_reverse]
    refine List.mem_of_getElem? (i := i) ?_
    rw [List.getElem?_zip_eq_some]
    exact ⟨h1, h2⟩
  have key : ∀ {l : List (Str × Value)}, (l.map (·.1)).Nodup → (x, u) ∈ l → l.lookup x = some u := by
    intro l
    induction l with
    | nil => intro _ h; cases h
    | cons q l ih =>
      intro hn h
      obtain ⟨y, z⟩ := q
      rw [List.map_cons, List.nodup_cons] at hn
      rcases List.mem_cons.mp h with e | hin
      · cases e
        simp [List.lookup]
      · have hne : (x == y) = false := by
          rw [beq_eq_false_iff_ne]
          intro e
          subst e
          exact hn.1 (List.mem_map.mpr ⟨(x, u), hin, rfl⟩)
        simp only [List.lookup, hne]
        exact ih hn.2 hin
  refine key ?_ hm
  rw [List.map_reverse]
  unfold List.Nodup
  rw [List.pairwise_reverse]
  have e : ((ps.zip us).map (·.1)) = ps.take us.length := by
    clear h1 h2 hm key nd
    induction ps generalizing us with
    | nil => simp
    | cons a l ih =>
      cases us with
      | nil => simp
      | cons b r => simp [ih]
  rw [e]
  exact (nd.sublist (List.take_sublist _ _)).imp fun h e => h e.symm
theorem lam_start (L : LamN N ps cs scope) (Cp : Caps base cs cl ws) (hd : A.handled = none) (e0 : Env0 P w K mg base A outer s H) (hl : vs.length = ps.length) (r : Vals vs us) {h₁ : Heap} {tk : Nat}
    (hns : h₁.Ns s.heap.objs.size fun y => (ps.zip us).reverse.lookup y) (kp : ∀ b o, s.heap.get? b = some o → h₁.get? b = some o) :
    Inv (lamCx CX P w K mg base N qual scope cl f c A outer s H E) [] (L2.start N (vs ++ ws)) H { s with heap := h₁, toks := tk } := by
  have noA : ∀ b : Addr, b ∉ (lamCx CX P w K mg base N qual scope cl f c A outer s H E).ex := fun b z => absurd (show b ∈ ([] : List Addr) from z) (by simp)
  have hlen : (vs ++ ws).length = (ps ++ cs).length := by rw [List.length_append, List.length_append, hl, Cp.len]
  have hNl : (vs ++ ws).length ≤ N.length := by
    have := congrArg List.length L.pre
    rw [List.length_take] at this
    omega
  have cellOf : ∀ y c, cl.lookup y = some c → ∃ u, base.IsCell c (some u) := fun y c h => by
    obtain ⟨i, hi⟩ := List.mem_iff_getElem?.mp (Cp.sub y c h)
    have hi' : i < ws.length := by
      rw [Cp.len]
      exact (List.getElem?_eq_some_iff.mp hi).1
    obtain ⟨c2, u, e1, e2, _⟩ := Cp.val i y _ hi (List.getElem?_eq_getElem hi')
    rw [h] at e1
    cases e1
    exact ⟨u, e2⟩
  have cellK : ∀ {c : Addr} {v : Option Value}, base.IsCell c v → h₁.IsCell c v ∧ H c = none := fun {c v} ⟨o, ho, hd⟩ => ⟨⟨o, kp _ _ (e0.bs _ _ ho).1, hd⟩, (e0.bs _ _ ho).2⟩
  refine ⟨⟨e0.mod, L.kind, rfl, rfl, Nat.le_refl _, fun y z c e1 e2 => Cp.inj y z c e1 e2, fun y hy => ?_, fun y c z _ => (by cases z), fun _ => hd, Around.frames_deeper e0.frames, .inr ⟨rfl, rfl⟩, fun b z => absurd z (noA b), e0.bs, e0.bsz, fun b _ _ => noA b,
      fun b z => absurd z (noA b), e0.funs, e0.frf⟩,
    rfl, e0.bare, Un.kept kp, ⟨_, hns, fun i y v e1 e2 e3 => ?_⟩, fun y c e => ?_, e0.hok.fresh (Nat.le_refl _), fun y c e => ?_, fun q hq => absurd (show q ∈ ([] : List (Addr × Obj)) ++ [] from hq) (by simp), e0.hok.kept kp, start_len hNl⟩
  · have hy : scope.names.lookup y = some .cell ∨ scope.names.lookup y = some .free := hy
    rcases hy with hy | hy
    · exact absurd rfl (L.cell _ (PySem.mem_of_lookup hy))
    · obtain ⟨i, hi⟩ := List.mem_iff_getElem?.mp (L.free _ (PySem.mem_of_lookup hy) rfl)
      have hi' : i < ws.length := by
        rw [Cp.len]
        exact (List.getElem?_eq_some_iff.mp hi).1
      obtain ⟨c2, u, q1, _, _⟩ := Cp.val i y _ hi (List.getElem?_eq_getElem hi')
      exact ⟨c2, q1⟩
  · have e1 : N[i]? = some y := e1
    have e2 := start_at (ps := ps) e2
    have hi : i < (vs ++ ws).length := (List.getElem?_eq_some_iff.mp e2).1
    have e4 : (ps ++ cs)[i]? = some y := by
      rw [← L.pre, List.getElem?_take_of_lt (by omega)]
      exact e1
    by_cases hlt : i < ps.length
    · rw [List.getElem?_append_left hlt] at e4
      rw [List.getElem?_append_left (by omega)] at e2
      obtain ⟨u, hu, rv⟩ := r.get e2
      have nps : ps.Nodup := by
        have := L.nd.sublist (List.take_sublist (ps ++ cs).length N)
        rw [L.pre] at this
        exact (List.nodup_append.mp this).1
      exact ⟨u, rv, .inl ⟨L.par y (List.mem_of_getElem? e4), zip_look nps e4 hu⟩⟩
    · rw [List.getElem?_append_right (by omega)] at e4
      rw [List.getElem?_append_right (by omega), hl] at e2
      obtain ⟨c2, u, q1, q2, q3⟩ := Cp.val _ y v e4 e2
      exact ⟨u, q3, .inr ⟨.inr (L.fr y (List.mem_of_getElem? e4)), c2, q1, (cellK q2).1⟩⟩
  · obtain ⟨u, q⟩ := cellOf y c e
    exact ⟨_, (cellK q).1⟩
  · obtain ⟨u, q⟩ := cellOf y c e
    exact (cellK q).2
theorem run_lam {k : Nat} {pm ctv : Value} {Q : VK} (L : LamN N ps cs scope) (Cp : Caps base cs cl ws) (hf : base.get? f = some (PySem.W.kla_obj "<lambda>" qual params body scope cl pm c ctv))
    (hbind : bindArgs (PySem.W.kla_fn "<lambda>" qual params body scope cl pm (.ref c) ctv) ⟨us, []⟩ = pure (ps.zip us)) (hr : Room (k + 1) A) (e0 : Env0 P w K mg base A outer s H) (hl : vs.length = ps.length) (r : Vals vs us) (hc : H c = some (LamX.CodeO c qual))
    (hbody : Room k (A.deeper (PySem.W.envX qual scope s.heap.objs.size f (.ref c) cl)) → ∃ t, PE (lamCx CX P w K mg base N qual scope cl f c A outer s H E) body t ∧ t (L2.start N (vs ++ ws)) H Q) :
    codeAny (model P w) A (.call (.ref f) ⟨us, []⟩) (CR CX outer P w H s Q E) s := by
  have of1 := (e0.bs _ _ hf).1
  obtain ⟨⟨oc, vs', t, hoc, hdc, hvc⟩, _, _⟩ := e0.hok c _ hc
  have lim : s.heap.NoLimit := by
    refine e0.mod.nolimit.keeps ?_
    intro b o e
    exact (e0.bs b o e).1
  refine PySem.W.kla_callFunE hr.depth of1 rfl L.co L.gen rfl ⟨c, oc, vs', t, rfl, hoc, hdc, hvc⟩ ?_
  rw [hbind]
  refine wpAny_pure (wpAny_newFunctionEnv L.cell (fun y hy => L.par y.1 (List.of_mem_zip (a := y.1) (b := y.2) hy).1) (fun h₁ hns hsb => ⟨lim.fresh _ hsb, ?_⟩) L.kind)
  show codeAny _ _ (.expr body (PySem.W.envX qual scope s.heap.objs.size f (.ref c) cl)) _ _
  have kp : ∀ b o, s.heap.get? b = some o → h₁.get? b = some o := fun b o e => hsb.extBut b o (Nat.ne_of_lt (Heap.lt_size e)) (Heap.get?_push_of_some _ e)
  have J := lam_start (CX := CX) (E := E) (f := f) (c := c) (qual := qual) (tk := s.toks + (ps.zip us).length) L Cp hr.hd e0 hl r hns kp
  obtain ⟨t, hp, ht⟩ := hbody (hr.deeper _)
  refine PySem.W.kla_codeExpr (wpAny_mono (hp.run [] _ _ H Q J ht) (fun v s' hq => ?_) fun e s' hq => hq)
  obtain ⟨w', H', J', rv, q⟩ := hq
  exact ⟨w', H', J'.os, J'.bare, J'.base, J'.hok, rv, q⟩
end
end Fw

namespace Fw
open PySem PySem.Spec PyProof.Rows L2 Fr
section
variable {X : Cx} {L : Ly} {B : Bs} {pins : List (Addr × Obj)} {G H : Hp} {σ : L2.St} {ρ : En} {s : Shared}
theorem lam_make {c P : Addr} {params : Arguments} {body : Expr} {scope : Scope} {pos : Pos} {E : Value → Shared → Prop} {Q : Value → Shared → Prop} (I : Inv X pins σ H s) (r : Rep L B G H σ ρ) (TB : LamX.TabB X.base X.mg c P) (hcode : X.env.code = .ref c)
    (hm : (P, X.env.qual ++ "<lambda>") ∈ B.T) (hu : ∀ p ∈ B.T, p.1 = P → p.2 = X.env.qual ++ "<lambda>") (hdef : defaultsOf params X.env = ([], [])) (hfree : ∀ y ∈ scope.names, y.2 = .free → ∃ c, X.env.cells.lookup y.1 = some c)
    (h : ∀ (f c' : Addr) (pm ctv : Value) (G1 H1 : Hp) (s' : Shared), Inv X pins σ H1 s' → Rep L B G1 H1 σ ρ → Same G G1 →
      s'.heap.get? f = some (PySem.W.kla_obj "<lambda>" (X.env.qual ++ "<lambda>") params body scope (cloFrom X.env.cells scope.names []) pm c' ctv) → H1 f = none → f ∉ frs X.stack → s.heap.objs.size ≤ f → G1 c' = some (LamX.CodeO c' (X.env.qual ++ "<lambda>")) → Q (.ref f) s') :
    wpAny (model X.prog X.w) X.A (eval (.Lambda params body scope pos) X.env) Q E s := by
  obtain ⟨ps, hP, ht, ha⟩ := r.tb _ hm
  obtain ⟨hPG, hPo, _⟩ := r.tg _ hm
  have hPM : B.M P := r.mt _ hm
  refine PySem.W.kla_eval hdef ?_
  have bP : s.heap.BuiltinsAt X.mg P := TB.bm.keeps I.bk
  have hP' : s.heap.get? P = some { cls := .none, data := .fields ps } := I.hok P _ hP
  have nofr : ∀ f, s.heap.objs.size ≤ f → f ∉ frs X.stack := fun f hf z => by
    rcases List.mem_cons.mp (I.stkSub _ z) with e | e
    · have h1 := I.lt
      rw [← e] at h1
      exact Nat.lt_irrefl _ (Nat.lt_of_lt_of_le h1 hf)
    · exact I.nofs hf e
  cases hc : codeAmong pos ps.toList with
  | none =>
    refine PySem.W.kla_makeFunction (mg := X.mg) (c := c) (P := P) (ps := ps) (closure_ok hfree) I.ok.glob (I.mod.glob.keeps I.bk) hcode (TB.code.keeps I.bk) hP' ht hc TB.gP bP fun c' ctv h' tk hx hge hlt hrec htb => ?_
    obtain ⟨c2, oc, vs, t, e2, hoc, hd, hv⟩ := hrec
    cases e2
    have hsz : s.heap.objs.size ≤ h'.objs.size := Nat.le_trans hge (Nat.le_of_lt hlt)
    have nC : H c' = none := I.hok.fresh hge
    have nPc : c' ≠ P := fun z => by
      rw [z, hP] at nC
      cases nC
    have I1 := LamX.inv_table (t' := tk) (q := X.env.qual ++ "<lambda>") (more := #[rawInt pos.line, rawInt pos.col, .ref c']) (h' := h'.push (PySem.W.kla_obj "<lambda>" (X.env.qual ++ "<lambda>") params body scope (cloFrom X.env.cells scope.names []) ((X.mg "__name__").getD .none) c' ctv)) I hP
      (fun b o hb e => Heap.get?_push_of_some _ (hx b o hb e)) (Heap.get?_push_of_some _ htb) hge ⟨oc, vs, t, Heap.get?_push_of_some _ hoc, hd, hv⟩
    have eL : (ps ++ #[rawInt pos.line, rawInt pos.col, .ref c']).toList = ps.toList ++ [rawInt pos.line, rawInt pos.col, .ref c'] := by simp
    have nC1 : (upd H P (.tbl (ps ++ #[rawInt pos.line, rawInt pos.col, .ref c']))) c' = none := by
      rw [upd_ne nPc]
      exact nC
    have g1 : Grow B.M G H G (upd H P (.tbl (ps ++ #[rawInt pos.line, rawInt pos.col, .ref c']))) := Grow.chg r.gh hPM hPG
    have g2 := Grow.lay (M := B.M) (o := LamX.CodeO c' (X.env.qual ++ "<lambda>")) g1.gh nC1
    have sG : Same G (upd G c' (LamX.CodeO c' (X.env.qual ++ "<lambda>"))) := same_upd (r.gh.free nC)
    have keepH : ∀ b o, b ≠ P → H b = some o → (upd (upd H P (.tbl (ps ++ #[rawInt pos.line, rawInt pos.col, .ref c']))) c' (LamX.CodeO c' (X.env.qual ++ "<lambda>"))) b = some o := fun b o hb e => by
      rw [upd_ne (ne_of_none e nC), upd_ne hb]
      exact e
    refine h h'.objs.size c' ((X.mg "__name__").getD .none) ctv _ _ _ I1 (r.step (g1.trans g2) (fun d l cc hm => ?_) fun p hp => ?_) sG (Heap.get?_push_size _ rfl) ?_ (nofr _ hsz) hsz upd_same
    · obtain ⟨D, _⟩ := draw_mem r hm
      obtain ⟨q1, q2, q3, q4, D⟩ := D
      have off : ∀ b, b ∈ slA (some (Sl.drw d l cc)) → b ≠ P := fun b hb z => hPo (by rw [← z]; exact own_mem hm hb)
      exact ⟨q1, q2, q3, q4, keepH _ _ (off d (by simp [slA])) D.hd, keepH _ _ (off l (by simp [slA])) D.hl, keepH _ _ (off cc (by simp [slA])) D.hc, D.ne⟩
    · by_cases hb : p.1 = P
      · rw [hu p hp hb, hb]
        refine ⟨_, by rw [upd_ne nPc.symm, upd_same], by rw [eL]; exact PySem.TriplesOk_snoc _ _ _ _ ht, fun p' cv hcv => ?_⟩
        rw [eL] at hcv
        rcases LamX.among_app _ ht hcv with z | z
        · obtain ⟨c0, e1, e2⟩ := ha p' cv z
          exact ⟨c0, e1, sG _ _ e2⟩
        · exact ⟨c', z, upd_same⟩
      · exact (r.tb p hp).go sG fun o ho => keepH _ _ hb ho
    · have n1 : h'.objs.size ≠ c' := Nat.ne_of_gt hlt
      have n2 : h'.objs.size ≠ P := Nat.ne_of_gt (Nat.lt_of_lt_of_le (Heap.lt_size hP') hsz)
      rw [upd_ne n1, upd_ne n2]
      exact I.hok.fresh hsz
  | some cv =>
    obtain ⟨c', e, hco⟩ := ha pos cv hc
    subst e
    refine PySem.W.kla_makeFunctionHit (mg := X.mg) (c := c) (P := P) (ps := ps) (closure_ok hfree) I.ok.glob (I.mod.glob.keeps I.bk) hcode (TB.code.keeps I.bk) hP' ht hc bP fun ctv h' tk hx hsz => ?_
    have I1 : Inv X pins σ H { s with heap := h'.push (PySem.W.kla_obj "<lambda>" (X.env.qual ++ "<lambda>") params body scope (cloFrom X.env.cells scope.names []) ((X.mg "__name__").getD .none) c' ctv), toks := tk } := I.kept fun b o e => Heap.get?_push_of_some _ (hx b o e)
    exact h h'.objs.size c' ((X.mg "__name__").getD .none) ctv G H _ I1 r (Same.refl G) (Heap.get?_push_size _ rfl) (I.hok.fresh hsz) (nofr _ hsz) hsz hco
theorem base_sw (I : Inv X pins σ H s) : ∃ B' : Heap, Env0 X.prog X.w X.K X.mg B' X.A X.stack s H ∧ ∀ b o, s.heap.get? b = some o → H b = none → b ∉ frs X.stack → B'.get? b = some o := by
  refine ⟨PySem.W.hideAll s.heap (trk s.heap H ++ frs X.stack), ?_, ?_⟩
  rotate_left
  · intro b o e n hb
    refine PySem.W.hideAll_get _ e fun hm => ?_
    rcases List.mem_append.mp hm with hm | hm
    · have q : (H b).isSome = true := (List.mem_filter.mp hm).2
      rw [n] at q
      cases q
    · exact hb hm
  have get : ∀ b o, s.heap.get? b = some o → H b = none → b ∉ frs X.stack → (PySem.W.hideAll s.heap (trk s.heap H ++ frs X.stack)).get? b = some o := by
    intro b o e n hb
    refine PySem.W.hideAll_get _ e fun hm => ?_
    rcases List.mem_append.mp hm with hm | hm
    · have q : (H b).isSome = true := (List.mem_filter.mp hm).2
      rw [n] at q
      cases q
    · exact hb hm
  have up : ∀ b o, X.base.get? b = some o → (PySem.W.hideAll s.heap (trk s.heap H ++ frs X.stack)).get? b = some o := fun b o e => by
    refine get b o (I.bk b o e) (I.bs b o e).2 fun hb => ?_
    have := (I.stack.mem hb).1
    rw [e] at this
    cases this
  have dn : ∀ b o, (PySem.W.hideAll s.heap (trk s.heap H ++ frs X.stack)).get? b = some o → s.heap.get? b = some o ∧ H b = none := fun b o e => by
    have e' := PySem.W.of_hideAll _ e
    refine ⟨e', ?_⟩
    cases q : H b with
    | none => rfl
    | some x =>
      have hm : b ∈ trk s.heap H ++ frs X.stack := List.mem_append.mpr (.inl (List.mem_filter.mpr ⟨List.mem_range.mpr (Heap.lt_size e'), by simp [q]⟩))
      rw [PySem.W.hideAll_none _ hm] at e
      cases e
  obtain ⟨mb, b1, b2⟩ := I.mod.blt
  refine ⟨I.ok.frames, ⟨I.mod.kin.keeps up, I.mod.glob.keeps up, ⟨mb, b1.keeps up, b2⟩, I.mod.nolimit.keeps up⟩, dn, Nat.le_of_eq (PySem.W.hideAll_size _ _), funFrames_none I.stack fun b hb => PySem.W.hideAll_none _ (List.mem_append.mpr (.inr hb)), I.stkFree, I.hok, I.bare⟩
theorem caps_of {B' : Heap} {N ps cs : List Str} {scope : Scope} {ws : List V} (I : Inv X pins σ H s) (hfn : ∀ y, X.fn y = true) (LN : LamN N ps cs scope) (hsc : ∀ y ∈ cs, X.env.scope.names.lookup y = some .cell ∨ X.env.scope.names.lookup y = some .free) (hlen : ws.length = cs.length)
    (hσ : ∀ (i : Nat) (y : Str) (v : V), cs[i]? = some y → ws[i]? = some v → ∃ j : Nat, X.N[j]? = some y ∧ σ[j]? = some (some v)) (hB : ∀ b o, s.heap.get? b = some o → H b = none → b ∉ frs X.stack → B'.get? b = some o) : Caps B' cs (cloFrom X.env.cells scope.names []) ws := by
  have hfree : ∀ y ∈ scope.names, y.2 = .free → ∃ c, X.env.cells.lookup y.1 = some c := fun y hy e => I.ok.has _ (hsc _ (LN.free y hy e))
  have cm : ∀ {y c}, (cloFrom X.env.cells scope.names []).lookup y = some c → X.env.cells.lookup y = some c ∧ y ∈ cs := fun {y c} e => by
    rcases cloFrom_mem (PySem.mem_of_lookup e) with hm | ⟨h1, h2⟩
    · cases hm
    · obtain ⟨c1, hc⟩ := hfree _ h1 rfl
      have hc : X.env.cells.lookup y = some c1 := hc
      have e2 : c = c1 := by
        rw [h2, hc] <;> rfl
      rw [e2]
      exact ⟨hc, LN.free _ h1 rfl⟩
  refine ⟨fun y c e => (cm e).2, fun y z c e1 e2 => I.ok.inj y z c (cm e1).1 (cm e2).1, hlen, fun i y v h1 h2 => ?_⟩
  have hy : (y, NameKind.free) ∈ scope.names := PySem.mem_of_lookup (LN.fr y (List.mem_of_getElem? h1))
  obtain ⟨c, hc⟩ := mem_lookup (cloFrom_has (cells := X.env.cells) (acc := []) hy)
  have hc' := (cm hc).1
  obtain ⟨j, j1, j2⟩ := hσ i y v h1 h2
  obtain ⟨m, hn, hl⟩ := I.loc
  have hsy := hsc y (List.mem_of_getElem? h1)
  have hvis : Vis X.env.scope y := hsy.elim (fun k => .inr (.inl k)) (fun k => .inr (.inr k))
  obtain ⟨u, r, q⟩ := hl j y v j1 j2 hvis
  refine ⟨c, u, hc, ?_, r⟩
  rcases q with ⟨k', _⟩ | ⟨_, c3, e', o, ho, hd⟩
  · have k' : X.env.scope.names.lookup y = some .local := k'
    rcases hsy with z | z <;> rw [z] at k' <;> cases k'
  · rw [hc'] at e'
    cases e'
    refine ⟨o, hB _ _ ho (I.freeC y _ hc') fun hm => ?_, hd⟩
    rcases List.mem_cons.mp (I.stkSub _ hm) with e | hm
    · exact I.cne y _ hc' e
    · obtain ⟨_, o2, ho2, _⟩ := I.ok.funs.mem hm
      exact Nat.lt_irrefl _ (Nat.lt_of_lt_of_le (Heap.lt_size ho2) (I.ok.cab y _ (hfn y) hc'))
end
def Ly.lam (L : Ly) (f : Addr) (G0 : Hp) : Ly where
  K := L.K
  Ob := fun n G v vs => (n = 9 ∧ v = .ref f ∧ vs = [] ∧ Same G0 G) ∨ (n ≠ 9 ∧ L.Ob n G v vs)
  mo := fun s h => h.elim (fun h => .inl ⟨h.1, h.2.1, h.2.2.1, h.2.2.2.trans s⟩) fun h => .inr ⟨h.1, L.mo s h.2⟩
abbrev lamD : Da := .obj 9 []
theorem dv_lam {L : Ly} {f : Addr} {G0 G : Hp} {v : V} (h : Dv (L.lam f G0) G v lamD) : v = .ref f ∧ Same G0 G := by
  cases h with
  | obj h t =>
    rcases h with h | h
    · exact ⟨h.2.1, h.2.2.2⟩
    · exact absurd rfl h.1
theorem lam_dv {L : Ly} {f : Addr} {G0 G : Hp} (s : Same G0 G) : Dv (L.lam f G0) G (.ref f) lamD := .obj (.inl ⟨rfl, rfl, rfl, s⟩) .nil
mutual
def no9 : Da → Bool
  | .obj n xs => decide (n ≠ 9) && no9s xs
  | .lst xs => no9s xs
  | .tup xs => no9s xs
  | _ => true
def no9s : List Da → Bool
  | [] => true
  | x :: r => no9 x && no9s r
end
mutual
theorem no9_py : ∀ {d : Da} {x : PyData}, py d = some x → no9 d = true
  | .non, _, _ => rfl
  | .bl _, _, _ => rfl
  | .int _, _, _ => rfl
  | .str _, _, _ => rfl
  | .lst ds, d, e => by
    have e' : (pys ds).map PyData.list = some d := by simpa only [py] using e
    obtain ⟨es, h1, rfl⟩ := Option.map_eq_some_iff.mp e'
    exact no9s_py h1
  | .tup ds, d, e => by
    have e' : (pys ds).map PyData.tuple = some d := by simpa only [py] using e
    obtain ⟨es, h1, rfl⟩ := Option.map_eq_some_iff.mp e'
    exact no9s_py h1
  | .obj _ _, _, e => by simp only [py] at e; cases e
theorem no9s_py : ∀ {xs : List Da} {ds : List PyData}, pys xs = some ds → no9s xs = true
  | [], _, _ => rfl
  | x :: r, ds, e => by
    have e' : ((py x).bind fun d => (pys r).map fun ds => d :: ds) = some ds := by simpa only [pys] using e
    obtain ⟨d, h1, e2⟩ := Option.bind_eq_some_iff.mp e'
    obtain ⟨es, h2, rfl⟩ := Option.map_eq_some_iff.mp e2
    show (no9 x && no9s r) = true
    rw [no9_py h1, no9s_py h2]
    rfl
end
section
variable {L : Ly} {f : Addr} {G0 : Hp}
mutual
theorem dv_to {G : Hp} : ∀ {v : V} {d : Da}, Dv L G v d → no9 d = true → Dv (L.lam f G0) G v d
  | _, _, .non, _ => .non
  | _, _, .bl b, _ => .bl b
  | _, _, .int i, _ => .int i
  | _, _, .str x, _ => .str x
  | _, _, .lst h t, e => .lst h (dvs_to t e)
  | _, _, .tup h t, e => .tup h (dvs_to t e)
  | _, _, .obj h t, e => by
    have e' := Bool.and_eq_true_iff.mp e
    exact .obj (.inr ⟨of_decide_eq_true e'.1, h⟩) (dvs_to t e'.2)
theorem dvs_to {G : Hp} : ∀ {vs : List V} {xs : List Da}, DvAll L G vs xs → no9s xs = true → DvAll (L.lam f G0) G vs xs
  | _, _, .nil, _ => .nil
  | _, _, .cons h t, e => by
    have e' := Bool.and_eq_true_iff.mp e
    exact .cons (dv_to h e'.1) (dvs_to t e'.2)
end
mutual
theorem dv_fr {G : Hp} : ∀ {v : V} {d : Da}, Dv (L.lam f G0) G v d → no9 d = true → Dv L G v d
  | _, _, .non, _ => .non
  | _, _, .bl b, _ => .bl b
  | _, _, .int i, _ => .int i
  | _, _, .str x, _ => .str x
  | _, _, .lst h t, e => .lst h (dvs_fr t e)
  | _, _, .tup h t, e => .tup h (dvs_fr t e)
  | _, _, .obj h t, e => by
    have e' := Bool.and_eq_true_iff.mp e
    rcases h with h | h
    · exact absurd h.1 (of_decide_eq_true e'.1)
    · exact .obj h.2 (dvs_fr t e'.2)
theorem dvs_fr {G : Hp} : ∀ {vs : List V} {xs : List Da}, DvAll (L.lam f G0) G vs xs → no9s xs = true → DvAll L G vs xs
  | _, _, .nil, _ => .nil
  | _, _, .cons h t, e => by
    have e' := Bool.and_eq_true_iff.mp e
    exact .cons (dv_fr h e'.1) (dvs_fr t e'.2)
end
end
structure LamAt (B' : Heap) (G : Hp) (f c : Addr) (qual : Str) (params : Arguments) (body : Expr) (scope : Scope) (cl : List (Str × Addr)) (cs : List Str) (ws : List V) : Prop where
  obj : ∃ pm ctv, B'.get? f = some (PySem.W.kla_obj "<lambda>" qual params body scope cl pm c ctv)
  caps : Caps B' cs cl ws
  code : G c = some (LamX.CodeO c qual)
end Fw

namespace Fw
open PySem PySem.Spec PyProof.Rows L2 Fr
def Caught (ρ : En) (is : List Nat) (cds : List Da) : Prop := is.map (fun i => ρ[i]?) = cds.map fun d => some (some (Sl.dat d))
theorem caught_vals {L : Ly} {B : Bs} {G H : Hp} {σ : L2.St} {ρ : En} (r : Rep L B G H σ ρ) : ∀ {is : List Nat} {cds : List Da}, Caught ρ is cds → ∃ ws : List V, ws.length = is.length ∧ DvAll L G ws cds ∧ ∀ (k i : Nat), is[k]? = some i → ∃ v, ws[k]? = some v ∧ σ[i]? = some (some v)
  | [], [], _ => ⟨[], rfl, .nil, fun k i h => by simp at h⟩
  | [], _ :: _, h => by cases h
  | _ :: _, [], h => by cases h
  | i :: is, d :: cds, h => by
    unfold Caught at h
    rw [List.map_cons, List.map_cons] at h
    injection h with h1 h2
    obtain ⟨ws, w1, w2, w3⟩ := caught_vals r (is := is) (cds := cds) h2
    obtain ⟨sv, hs, hv⟩ := paired_get r.env h1
    cases sv with
    | none => exact (reps_none hv).elim
    | some v =>
      refine ⟨v :: ws, by rw [List.length_cons, List.length_cons, w1], .cons hv w2, fun k j hk => ?_⟩
      cases k with
      | zero =>
        simp at hk
        subst hk
        exact ⟨v, rfl, hs⟩
      | succ k =>
        obtain ⟨v', a, b⟩ := w3 k j (by simpa using hk)
        exact ⟨v', by simpa using a, b⟩
section
variable {X : Cx} {L : Ly} {B : Bs} {pins : List (Addr × Obj)} {G H : Hp} {σ : L2.St} {ρ : En} {s : Shared}
structure LamT (X : Cx) (T : List (Addr × Str)) (params : Arguments) (scope : Scope) (N ps cs : List Str) (is : List Nat) : Prop where
  tab : ∃ c P, LamX.TabB X.base X.mg c P ∧ X.env.code = .ref c ∧ (P, X.env.qual ++ "<lambda>") ∈ T ∧ ∀ p ∈ T, p.1 = P → p.2 = X.env.qual ++ "<lambda>"
  nm : LamN N ps cs scope
  defs : defaultsOf params X.env = ([], [])
  sc : ∀ y ∈ cs, X.env.scope.names.lookup y = some .cell ∨ X.env.scope.names.lookup y = some .free
  ix : is.map (fun i => X.N[i]?) = cs.map some
  fn : ∀ y, X.fn y = true
theorem map_at {α β γ : Type} {f : α → γ} {g : β → γ} : ∀ {l : List α} {m : List β} {k : Nat} {b : β}, l.map f = m.map g → m[k]? = some b → ∃ a, l[k]? = some a ∧ f a = g b
  | [], [], k, b, _, h => by simp at h
  | [], _ :: _, _, _, h, _ => by cases h
  | _ :: _, [], _, _, h, _ => by cases h
  | a :: l, c :: m, 0, b, h, e => by
    rw [List.map_cons, List.map_cons] at h
    injection h with h1 h2
    simp at e
    subst e
    exact ⟨a, rfl, h1⟩
  | a :: l, c :: m, k + 1, b, h, e => by
    rw [List.map_cons, List.map_cons] at h
    injection h with h1 h2
    obtain ⟨a', p1, p2⟩ := map_at (k := k) h2 (by simpa using e)
    exact ⟨a', by simpa using p1, p2⟩
theorem lam_call {T : List (Addr × Str)} {params : Arguments} {body : Expr} {scope : Scope} {lpos : Pos} {N ps cs : List Str} {is : List Nat} {x : Str} {g : Addr} {kk : Nat} {α : Type} {emb : α → List Da} {C : α → Prop} {FF : α → Pf} {us : List Value} {vs : List V} {ds : List Da} {Q : VK}
    (LT : LamT X T params scope N ps cs is) (hKL : X.K = L.K) (hm : X.mg x = some (.ref g)) (hr : Room kk X.A) (hgu : X.A.guards = some [])
    (hc : ∀ (B' : Heap) (f c : Addr) (G0 : Hp) (ws : List V) (z : α) (cl : List (Str × Addr)), LamAt B' G0 f c (X.env.qual ++ "<lambda>") params body scope cl cs ws → DvAll L G0 ws (emb z) → C z → CalG X.prog X.w X.K X.mg B' C8.CX0 kk x (spF (L.lam f G0) (FF z)))
    (I : Inv X pins σ H s) (r : Rep L B G H σ ρ) (rv : Vals vs us) (dv : DvAll L G vs ds) (hp : no9s ds = true) (hT : some (Sl.tab T) ∈ ρ) {a : α} (hcs : Caught ρ is (emb a)) (hC : C a)
    (hq : (FF a).f (ds ++ [lamD]) fun z => no9 z = true ∧ ∀ v G' H', Rep L B G' H' σ ρ → Same G G' → Dv L G' v z → Q v H') :
    wpAny (model X.prog X.w) X.A (eval (.Lambda params body scope lpos) X.env) (fun uf s2 => X.K.In s2.heap ∧ wpAny (model X.prog X.w) X.A (call (.ref g) (us ++ [uf])) (EP X pins σ Q) X.xe s2) X.xe s := by
  obtain ⟨c, P, TB, hcode, hmT, hu⟩ := LT.tab
  have eT := r.ft T hT
  have hfree : ∀ y ∈ scope.names, y.2 = .free → ∃ c, X.env.cells.lookup y.1 = some c := fun y hy e => I.ok.has _ (LT.sc _ (LT.nm.free y hy e))
  refine lam_make I r TB hcode (by rw [← eT]; exact hmT) (by rw [← eT]; exact hu) LT.defs hfree fun f c' pm ctv G2 H2 s2 I2 R2 s12 hf hfn hfr _ hco => ⟨I2.kIn, ?_⟩
  obtain ⟨B', e0, hB⟩ := base_sw I2
  obtain ⟨ws, w1, w2, w3⟩ := caught_vals R2 hcs
  have hlen : ws.length = cs.length := by
    have := congrArg List.length LT.ix
    rw [List.length_map, List.length_map] at this
    omega
  have Cp := caps_of I2 LT.fn LT.nm LT.sc hlen (fun i y v h1 h2 => by
    obtain ⟨j, j1, j2⟩ := map_at LT.ix h1
    obtain ⟨v', q, b⟩ := w3 i j j1
    rw [h2] at q
    cases q
    exact ⟨j, j2, b⟩) hB
  obtain ⟨g', fd, ps', Fg, hmg, kp, b⟩ := (hc B' f c' G2 ws a _ ⟨⟨pm, ctv, hB f _ hf hfn hfr⟩, Cp, hco⟩ w2 hC).ex
  have hgg : g' = g := by
    have := hmg.symm.trans hm
    injection this with this
    injection this
  subst hgg
  have dv2 : DvAll (L.lam f G2) G2 (vs ++ [.ref f]) (ds ++ [lamD]) := dvs_app (dvs_to (dvs_same s12 dv) hp) (.cons (lam_dv (Same.refl G2)) .nil)
  have rv2 : Vals (vs ++ [V.ref f]) (us ++ [Value.ref f]) := rv.append (.cons rfl .nil)
  have q1 : spF (L.lam f G2) (FF a) (vs ++ [.ref f]) H2 Q C8.E0 := by
    refine ⟨G2, ds ++ [lamD], R2.gh, dv2, (FF a).mono ?_ hq⟩
    rintro z ⟨hy, hz⟩ v G' H' gr dvz
    exact hz v G' H' (R2.go gr) (s12.trans gr.gg) (dv_fr dvz hy)
  have hl : (us ++ [Value.ref f]).length = ps'.length := rv2.length.symm.trans (Fg.len _ _ _ _ q1)
  have hbb := b s2 (us ++ [Value.ref f]) I2.kIn (by simpa using hl)
  rw [List.append_nil] at hbb
  have z := Fg.run X.A X.stack s2 H2 ⟨us ++ [Value.ref f], []⟩ _ _ Q C8.E0 hr hgu e0 hbb rv2 q1
  refine wpAny_call (codeAny_mono z ?_)
  rintro (er | fl) s' hq'
  · exact (show False from hq').elim
  · cases fl with
    | ret u => exact I2.after hq'
    | next => cases hq'
    | brk => cases hq'
    | cont => cases hq'
def pLam0 {α : Type} (emb : α → List Da) (C : α → Prop) (T : List (Addr × Str)) (is : List Nat) (FF : α → Pf) : Px := ⟨fun ρ k => some (.tab T) ∈ ρ ∧ ∃ a, Caught ρ is (emb a) ∧ C a ∧ (FF a).f [lamD] fun z => no9 z = true ∧ k z ρ,
  fun h => by
    rintro ⟨a, c, e, hC, q⟩
    exact ⟨a, c, e, hC, (FF c).mono (fun z ⟨y, w⟩ => ⟨y, h _ _ w⟩) q⟩⟩
theorem w_lam0 {T : List (Addr × Str)} {params : Arguments} {body : Expr} {scope : Scope} {p lpos pos : Pos} {N ps cs : List Str} {is : List Nat} {x : Str} {g : Addr} {kk : Nat} {α : Type} {emb : α → List Da} {C : α → Prop} {FF : α → Pf}
    (LT : LamT X T params scope N ps cs is) (hKL : X.K = L.K) (hg : Gl X x) (hm : X.mg x = some (.ref g)) (hk : PySem.W.keepIn X.K (.ref g) = true) (hr : Room kk X.A) (hgu : X.A.guards = some [])
    (hc : ∀ (B' : Heap) (f c : Addr) (G0 : Hp) (ws : List V) (z : α) (cl : List (Str × Addr)), LamAt B' G0 f c (X.env.qual ++ "<lambda>") params body scope cl cs ws → DvAll L G0 ws (emb z) → C z → CalG X.prog X.w X.K X.mg B' C8.CX0 kk x (spF (L.lam f G0) (FF z)))
    (hdb : (x == ("__debug__" : Str)) = false := by decide) :
    PE X (.Call (.Name x p) [.Lambda params body scope lpos] [] pos) (tW L (pLam0 emb C T is FF)) := by
  refine ⟨?_⟩
  rintro pins s σ H Q I ⟨B, G, ρ, r, hT, a, hcs, hC, hq⟩
  refine wpAny_Call_Name_kw (ld_glob I hg hm ?_ hdb)
  refine PySem.W.callWith_K (h₀ := X.base) I.ok.mod.kin hk ?_ (by rfl) (by rfl)
  show wpAny _ _ (spliced ((false, eval (.Lambda params body scope lpos) X.env) :: [])) _ _ s
  refine Calls.spliced_cons (wpAny_mono (lam_call (Q := Q) (us := []) (vs := []) (ds := []) LT hKL hm hr hgu hc I r .nil .nil rfl hT hcs hC hq) ?_ fun _ _ z => z)
  intro uf s2 hq2
  exact Calls.spliced_nil hq2
end
end Fw

namespace Fw
open PySem PySem.Spec PyProof.Rows L2 Fr
section
variable {P : Program} {w : World} {K : Frag} {mg : Str → Option Value} {base : Heap} {CX : CXT} {k : Nat} {f : Addr} {fd : FuncData} {N ps : List Str} {sp : Sp}
theorem mkc {x qual : Str} {st : Stmt} (F : C8.Fun K x qual st f fd) (S : FnScope N ps (C8.fnScope st)) (len : ∀ vs H Q E, sp vs H Q E → vs.length = ps.length)
    (hbody : ∀ (cdv : Value) (A : Around) (outer : List Env) (s : Shared) (H : Hp) (vs : List V) (Q : VK) (E : XK),
      cdv = fd.code → Room k (A.deeper (envOfC qual (C8.fnScope st) s.heap.objs.size f cdv)) → A.guards = some [] → sp vs H Q E →
      ∃ t, PSs (cxOf CX P w K mg base N qual (C8.fnScope st) f cdv A outer s H E) (C8.fnBody st) t ∧
        t { nx := fun _ H' => Q .non H', rt := Q } (start N vs) H) : FnG P w K mg base CX (k + 1) f fd ps sp := by
  obtain ⟨oc, od, dV, kV, doc, pm, an, cdv, ct, osl, rfl, lk, hcd⟩ := F.ex
  refine ⟨len, ?_⟩
  intro A outer s H args us vs Q E hr hgu e0 hb r hsp
  have KX : K.In s.heap := by
    refine e0.mod.kin.keeps ?_
    intro b o e
    exact (e0.bs b o e).1
  have lim : s.heap.NoLimit := by
    refine e0.mod.nolimit.keeps ?_
    intro b o e
    exact (e0.bs b o e).1
  refine codeAny_call_function hr.depth (KX _ _ lk) rfl S.co S.gen rfl
    (PySem.W.codeRec_of KX hcd) (hb _ _ _ _ ?_)
  refine wpAny_newFunctionEnv_cells S.kind ?_ ?_
  · rintro ⟨n, v⟩ hy
    rcases S.par n (List.of_mem_zip hy).1 with q | q
    · exact .inl q
    · refine .inr ⟨q, ?_⟩
      exact PySem.W.cellsFrom_some _ _ _ (.inl q)
  intro env he s1 x
  subst he
  refine ⟨lim.keeps x.toInCall.keep, ?_⟩
  refine codeAny_func ?_
  obtain ⟨t, ht, hq⟩ := hbody cdv A outer s H vs Q E rfl (hr.deeper _) hgu hsp
  have I := inv_start (CX := CX) (E := E) S hr.hd e0 (len _ _ _ _ hsp) r x
  refine wpAny_mono (ht.run [] s1 (start N vs) H _ I hq) ?_ (fun _ _ z => z)
  intro fl s' hs
  cases fl with
  | ret u =>
    obtain ⟨v, σ', H', J, rv, q⟩ := hs
    exact ⟨v, H', J.os, J.bare, J.base, J.hok, rv, q⟩
  | next =>
    obtain ⟨σ', H', J, q⟩ := hs
    exact ⟨.non, H', J.os, J.bare, J.base, J.hok, rfl, q⟩
  | brk =>
    obtain ⟨_, _, _, q⟩ := hs
    cases q
  | cont =>
    obtain ⟨_, _, _, q⟩ := hs
    cases q
end
theorem calGc {P : Program} {w : World} {K : Frag} {mg : Str → Option Value} {base : Heap} {x : Str} {st : Stmt} {f : Addr} {fd : FuncData} {N ps : List Str} {k : Nat} {sp : Sp} (F : C8.Def K mg x st f fd) (b : Binds K fd ps []) (S : FnScope N ps (C8.fnScope st))
    (len : ∀ vs H Q E, sp vs H Q E → vs.length = ps.length)
    (hbody : ∀ (cdv : Value) (A : Around) (outer : List Env) (s : Shared) (H : Hp) (vs : List V) (Q : VK) (E : XK),
      cdv = fd.code → Room k (A.deeper (envOfC x (C8.fnScope st) s.heap.objs.size f cdv)) → A.guards = some [] → sp vs H Q E →
      ∃ t, PSs (cxOf C8.CX0 P w K mg base N x (C8.fnScope st) f cdv A outer s H E).nox (C8.fnBody st) t ∧
        t { nx := fun _ H' => Q .non H', rt := Q } (start N vs) H) : CalG P w K mg base C8.CX0 (k + 1) x sp := by
  refine ⟨f, fd, ps, mkc F.fn S len ?_, F.mgf, F.kp, b⟩
  intro cdv A outer s H vs Q E hcd hr hgu hsp
  obtain ⟨t, h, q⟩ := hbody cdv A outer s H vs Q E hcd hr hgu hsp
  exact ⟨t, h.nox, q⟩
def MT (T : List (Addr × Str)) : Addr → Prop := fun b => ∃ p ∈ T, b = p.1
def spDT (L : Ly) (T : List (Addr × Str)) (F : Pf) : Sp := fun vs H Q _ => ∃ G d l c us ds, vs = .ref d :: us ∧ Same G H ∧ G d = none ∧ G l = none ∧ Draw d l c H ∧ TabsG T G H ∧ (∀ p ∈ T, G p.1 = none) ∧ DvAll L G us ds ∧
  F.f ds fun x => ∀ v G' H', Grow (fun b => Mdl d l b ∨ MT T b) G H G' H' → Draw d l c H' → TabsG T G' H' → Dv L G' v x → Q v H'
def entT (T : List (Addr × Str)) (ds : List Da) (n : Nat) : En := ent ds n ++ [some (.tab T)]
theorem own_app (a b : En) : own (a ++ b) = own a ++ own b := List.flatMap_append
theorem tab_off {T : List (Addr × Str)} {G H : Hp} {d l c : Addr} (t : TabsG T G H) (D : Draw d l c H) : ∀ p ∈ T, p.1 ∉ [d, l, c] := fun p hp hm => by
  obtain ⟨ps, e, _⟩ := t p hp
  obtain ⟨_, _, _, _, D⟩ := D
  simp only [List.mem_cons, List.not_mem_nil, or_false] at hm
  rcases hm with z | z | z
  · rw [z, D.hd] at e; cases e
  · rw [z, D.hl] at e; cases e
  · rw [z, D.hc] at e; cases e
section
variable {L : Ly} {G H : Hp} {T : List (Addr × Str)}
theorem rep_entT {vs : List V} {ds : List Da} {n : Nat} (s : Same G H) (t : TabsG T G H) (g : ∀ p ∈ T, G p.1 = none) (h : DvAll L G vs ds) : Rep L ⟨MT T, G, H, [], T⟩ G H (vs.map some ++ List.replicate (n + 1) none) (entT T ds n) where
  gr := Grow.refl s
  mh := fun b hb => by
    obtain ⟨p, hp, rfl⟩ := hb
    exact ⟨(t p hp).tk, g p hp⟩
  env := by
    have e : vs.map some ++ List.replicate (n + 1) (none : Option V) = (vs.map some ++ List.replicate n none) ++ [none] := by
      rw [List.replicate_succ', List.append_assoc]
    rw [e]
    exact paired_append (paired_append (env_dat h) (env_none n)) (.cons (by rfl) .nil)
  nd := by
    have e : own (entT T ds n) = [] := by
      unfold entT
      rw [own_app, own_ent]
      rfl
    rw [e]
    exact List.nodup_nil
  fm := fun p es hm => by
    rcases List.mem_append.mp hm with hm | hm
    · exact (rep_ent (n := n) s h).fm p es hm
    · cases List.mem_singleton.mp hm
  f2 := fun p qs hm => by
    rcases List.mem_append.mp hm with hm | hm
    · exact (rep_ent (n := n) s h).f2 p qs hm
    · cases List.mem_singleton.mp hm
  fd := fun d l c hm => by
    rcases List.mem_append.mp hm with hm | hm
    · exact ((rep_ent (n := n) s h).fd d l c hm).1.elim
    · cases List.mem_singleton.mp hm
  ks := fun q hq => by cases hq
  tb := t
  tg := fun p hp => ⟨g p hp, by
    have e : own (entT T ds n) = [] := by
      unfold entT
      rw [own_app, own_ent]
      rfl
    rw [e]
    simp, fun q hq => by cases hq⟩
  mt := fun p hp => ⟨p, hp, rfl⟩
  ft := fun T' hm => by
    rcases List.mem_append.mp hm with hm | hm
    · cases (rep_ent (n := n) s h).ft T' hm
      unfold ent at hm
      rcases List.mem_append.mp hm with hm | hm
      · obtain ⟨d, _, e⟩ := List.mem_map.mp hm
        cases e
      · obtain ⟨_, e⟩ := List.mem_replicate.mp hm
        cases e
    · cases List.mem_singleton.mp hm
      rfl
def entDT (T : List (Addr × Str)) (d l c : Addr) (ds : List Da) (n : Nat) : En := some (.drw d l c) :: entT T ds n
theorem rep_entDT {d l c : Addr} {us : List V} {ds : List Da} {n : Nat} (s : Same G H) (gd : G d = none) (gl : G l = none) (D : Draw d l c H) (t : TabsG T G H) (g : ∀ p ∈ T, G p.1 = none) (h : DvAll L G us ds) :
    Rep L ⟨fun b => Mdl d l b ∨ MT T b, G, H, [], T⟩ G H (some (.ref d) :: (us.map some ++ List.replicate (n + 1) none)) (entDT T d l c ds n) where
  gr := Grow.refl s
  mh := fun b hb => by
    obtain ⟨t1, t2, _⟩ := draw_trk D
    rcases hb with (e | e) | ⟨p, hp, rfl⟩
    · rw [e]; exact ⟨t1, gd⟩
    · rw [e]; exact ⟨t2, gl⟩
    · exact ⟨(t p hp).tk, g p hp⟩
  env := .cons ⟨rfl, gd, gl, D⟩ (rep_entT (n := n) s t g h).env
  nd := by
    have e : own (entDT T d l c ds n) = [d, l, c] := by
      show [d, l, c] ++ own (entT T ds n) = _
      unfold entT
      rw [own_app, own_ent]
      rfl
    rw [e]
    exact draw_nd D
  fm := fun p es hm => by
    rcases List.mem_cons.mp hm with hm | hm
    · cases hm
    · exact (rep_entT (n := n) s t g h).fm p es hm
  f2 := fun p qs hm => by
    rcases List.mem_cons.mp hm with hm | hm
    · cases hm
    · exact (rep_entT (n := n) s t g h).f2 p qs hm
  fd := fun d' l' c' hm => by
    rcases List.mem_cons.mp hm with hm | hm
    · cases hm
      exact ⟨.inl (.inl rfl), .inl (.inr rfl)⟩
    · have := (rep_entT (n := n) s t g h).fd d' l' c' hm
      exact ⟨.inr this.1, .inr this.2⟩
  ks := fun q hq => by cases hq
  tb := t
  tg := fun p hp => ⟨g p hp, by
    have e : own (entDT T d l c ds n) = [d, l, c] := by
      show [d, l, c] ++ own (entT T ds n) = _
      unfold entT
      rw [own_app, own_ent]
      rfl
    rw [e]
    exact tab_off t D p hp, fun q hq => by cases hq⟩
  mt := fun p hp => .inr ⟨p, hp, rfl⟩
  ft := fun T' hm => by
    rcases List.mem_cons.mp hm with hm | hm
    · cases hm
    · exact (rep_entT (n := n) s t g h).ft T' hm
theorem calDT {P : Program} {w : World} {mg : Str → Option Value} {base : Heap} {x p0 : Str} {st : Stmt} {f : Addr} {fd : FuncData} {N ps : List Str} {k n : Nat} {F : Pf} (Fd : C8.Def L.K mg x st f fd) (b : Binds L.K fd (p0 :: ps) []) (S : FnScope N (p0 :: ps) (C8.fnScope st))
    (hlen : ∀ ds k, F.f ds k → ds.length = ps.length) (hN : ∀ (v : V) (vs : List V), vs.length = ps.length → start N (v :: vs) = some v :: (vs.map some ++ List.replicate (n + 1) none))
    (hbody : ∀ (cdv : Value) (A : Around) (outer : List Env) (s : Shared) (H : Hp) (E : XK), cdv = fd.code → Room k (A.deeper (envOfC x (C8.fnScope st) s.heap.objs.size f cdv)) → A.guards = some [] →
      ∃ g : Ps, PSs (cxOf C8.CX0 P w L.K mg base N x (C8.fnScope st) f cdv A outer s H E).nox (C8.fnBody st) (tWS L g) ∧
        ∀ d l c ds kk, F.f ds kk → g.f (entDT T d l c ds n) (fun ρ => some (.drw d l c) ∈ ρ ∧ kk .non) (fun z ρ => some (.drw d l c) ∈ ρ ∧ kk z) (fun _ => False) (fun _ => False)) : CalG P w L.K mg base C8.CX0 (k + 1) x (spDT L T F) := by
  refine calGc Fd b S ?_ ?_
  · rintro vs H Q E ⟨G, d, l, c, us, ds, rfl, s, _, _, _, _, _, dv, h⟩
    show us.length + 1 = ps.length + 1
    rw [dvs_len dv, hlen ds _ h]
  · rintro cdv A outer s H vs Q E hcd hr hgu ⟨G, d, l, c, us, ds, rfl, sg, gd, gl, D, t, g0, dv, h⟩
    obtain ⟨g, hp, hF⟩ := hbody cdv A outer s H E hcd hr hgu
    refine ⟨_, hp, ?_⟩
    rw [hN (.ref d) us ((dvs_len dv).trans (hlen ds _ h))]
    refine ⟨_, G, entDT T d l c ds n, rep_entDT sg gd gl D t g0 dv, g.mono ?_ ?_ ?_ ?_ (hF d l c ds _ h)⟩
    · rintro ρ' ⟨hm, q⟩ σ' G' H' r' _
      exact q .non G' H' r'.gr (draw_mem r' hm).1 r'.tb .non
    · rintro x' ρ' ⟨hm, q⟩ v σ' G' H' r' _ d'
      exact q v G' H' r'.gr (draw_mem r' hm).1 r'.tb d'
    · intro _ z
      exact z.elim
    · intro _ z
      exact z.elim
end
section
variable {X : Cx} {L : Ly} {T : List (Addr × Str)} {k j i : Nat} {x : Str} {p pos : Pos} {e : Expr} {es : List Expr}
def pDT (T : List (Addr × Str)) (i : Nat) (g : Pl) (F : Pf) : Px := ⟨fun ρ k => ∃ d l c, ρ[i]? = some (some (.drw d l c)) ∧ g.f ρ fun xs ρ1 => some (.drw d l c) ∈ ρ1 ∧ some (.tab T) ∈ ρ1 ∧ F.f xs fun z => k z ρ1,
  fun h => by
    rintro ⟨d, l, c, e, q⟩
    refine ⟨d, l, c, e, g.mono ?_ q⟩
    rintro xs ρ1 ⟨a, b, q⟩
    exact ⟨a, b, F.mono (fun _ => h _ _) q⟩⟩
theorem w_callDT {g : Pl} {F : Pf} (c : CalG X.prog X.w X.K X.mg X.base C8.CX0 k x (spDT L T F)) (hr : Room j X.A) (hk : k ≤ j) (hgu : X.A.guards = some []) (hg : Gl X x) (hd : PE X e (tVar i)) (ha : PA X es (tWA L g))
    (hdb : (x == ("__debug__" : Str)) = false := by decide) (he : starEach (e :: es) X.env = (false, eval e X.env) :: starEach es X.env := by rfl)
    (hpl : (backTo pos (starEach es X.env)).any (·.1) = false := by rfl) : PE X (.Call (.Name x p) (e :: es) [] pos) (tW L (pDT T i g F)) :=
  PE.imp (pe_cg c hr hk hgu hg (pa_cons hd ha he) hdb he hpl) fun σ H Q ⟨B, G, ρ, r0, d, l, cc, hi, h⟩ => by
    obtain ⟨s, hs, hv⟩ := paired_get r0.env hi
    cases s with
    | none => exact (reps_none hv).elim
    | some v =>
      obtain ⟨rfl, _⟩ := hv
      refine ⟨_, hs, B, G, ρ, r0, g.mono ?_ h⟩
      rintro xs ρ1 ⟨hm, hT, h1⟩ vs G1 H1 r1 s1 d1
      show spDT L T F ((.ref d :: vs) ++ []) H1 Q C8.E0
      rw [List.append_nil]
      have eT := r1.ft T hT
      subst eT
      obtain ⟨D, n1, n2⟩ := draw_mem r1 hm
      refine ⟨G1, d, l, cc, vs, xs, rfl, r1.gh, n1, n2, D, r1.tb, fun q hq => (r1.tg q hq).1, d1, F.mono ?_ h1⟩
      intro z h3 v G' H' gr D' t' dv
      refine h3 v G' H' (r1.step (gr.weak ?_) ?_ t') (s1.trans gr.gg) dv
      · rintro b ((z | z) | ⟨q, hq, rfl⟩)
        · rw [z]
          exact (r1.fd _ _ _ hm).1
        · rw [z]
          exact (r1.fd _ _ _ hm).2
        · exact r1.mt q hq
      · intro d' l' c' hm'
        by_cases hs : (some (Sl.drw d' l' c')) = some (Sl.drw d l cc)
        · cases hs
          exact D'
        · have ap := flat_apart r1.nd hm' hm hs
          obtain ⟨q1, q2, q3, q4, D1⟩ := (draw_mem r1 hm').1
          have off : ∀ b, b ∈ slA (some (Sl.drw d' l' c')) → ¬ (Mdl d l b ∨ MT B.T b) := fun b hb z => by
            rcases z with z | ⟨q, hq, e⟩
            · exact ap b hb (by
                rcases z with z | z
                · rw [z]; simp [slA]
                · rw [z]; simp [slA])
            · exact (r1.tg q hq).2.1 (by rw [← e]; exact own_mem hm' hb)
          exact ⟨q1, q2, q3, q4, gr.hh _ _ (off _ (by simp [slA])) D1.hd, gr.hh _ _ (off _ (by simp [slA])) D1.hl, gr.hh _ _ (off _ (by simp [slA])) D1.hc, D1.ne⟩
end
end Fw

namespace Fw
open PySem PySem.Spec PyProof.Rows L2 Fr
section
variable {X : Cx} {L : Ly} {B : Bs} {G H : Hp} {σ : L2.St} {ρ : En} {e : Expr}
end
end Fw

namespace Fv
open PySem PySem.Spec PyProof.Rows L2 Fr Fw
section
variable {P : Program} {w : World} {L : Ly} {mg : Str → Option Value} {base : Heap} {f fl : Addr} {fd : FuncData} {G0 : Hp}
end
end Fv

namespace Fv
structure Bases (bs : List (List Int)) (m : Nat) : Prop where
  ne : bs ≠ []
  up : ∀ b ∈ bs, b.Pairwise (· < ·)
  len : ∀ b ∈ bs, b.length = m
  ex : CanEx bs
section
variable {bs : List (List Int)} {m : Nat} (K : Bases bs m)
include K
end
end Fv

namespace Fv
end Fv

namespace Fv
end Fv

namespace Fv
open Classical
inductive Cn (tie : Int → Nat × Nat) (S : List Int) : Nat → Nat → Prop
  | refl (u : Nat) : Cn tie S u u
  | tie (i : Int) : i ∈ S → Cn tie S (tie i).1 (tie i).2
  | symm {u v : Nat} : Cn tie S u v → Cn tie S v u
  | trans {u v w : Nat} : Cn tie S u v → Cn tie S v w → Cn tie S u w
section
variable {tie : Int → Nat × Nat}
theorem Cn.mono {S T : List Int} (h : ∀ i ∈ S, Cn tie T (tie i).1 (tie i).2) {u v : Nat} (c : Cn tie S u v) : Cn tie T u v := by
  induction c with
  | refl u => exact .refl u
  | tie i hi => exact h i hi
  | symm _ ih => exact ih.symm
  | trans _ _ ih1 ih2 => exact ih1.trans ih2
theorem Cn.sub {S T : List Int} (h : ∀ i ∈ S, i ∈ T) {u v : Nat} (c : Cn tie S u v) : Cn tie T u v := c.mono fun i hi => .tie i (h i hi)
end
end Fv

namespace Fv
open Classical
end Fv

namespace Fv
open Classical
def axb (p c : Int) (u v : List Int) : List Int := List.zipWith (fun a b => (a + c * b) % p) u v
def zer (n : Nat) : List Int := List.replicate n 0
section
variable {p : Int} {n : Nat}
inductive Sp (p : Int) (n : Nat) (rows : List (List Int)) : List Int → Prop
  | zero : Sp p n rows (zer n)
  | step (c : Int) {row u : List Int} : row ∈ rows → Sp p n rows u → Sp p n rows (axb p c u row)
def Rows (p : Int) (n : Nat) (rows : List (List Int)) : Prop := ∀ r ∈ rows, Mod p n r
section
variable {rows a b : List (List Int)} (hp : 0 < p)
include hp
end
end
end Fv

namespace Fv
open Classical
section
variable {p : Int} {n : Nat}
def Pr (p : Nat) : Prop := p = 2 ∨ p = 3 ∨ p = 5 ∨ p = 7 ∨ p = 11 ∨ p = 13
theorem Pr.pos {p : Nat} (h : Pr p) : 2 ≤ p := by
  unfold Pr at h
  omega
end
end Fv

namespace Fv
def lexI : List Int → List Int → Bool
  | [], [] => false
  | [], _ :: _ => true
  | _ :: _, [] => false
  | a :: x, b :: y => if a = b then lexI x y else decide (a < b)
abbrev LexS (bs : List (List Int)) : Prop := bs.Pairwise fun a b => lexI a b = true
structure Sk (n m : Nat) (bs : List (List Int)) : Prop where
  n8 : n ≤ 8
  le : m ≤ n
  ne : bs ≠ []
  mem : ∀ b ∈ bs, b ∈ lotsL (rangeI n) m
  srt : LexS bs
  ex : CanEx bs
theorem Sk.bases {n m : Nat} {bs : List (List Int)} (h : Sk n m bs) : Bases bs m := ⟨h.ne, fun b hb => (mem_lots.mp (h.mem b hb)).1, fun b hb => (mem_lots.mp (h.mem b hb)).2.1, h.ex⟩
end Fv

namespace Fv
open PySem PySem.Spec PyProof.Rows L2 Fr Fw
section
variable {P : Program} {w : World} {L : Ly} {mg : Str → Option Value} {base : Heap} {f : Addr} {fd : FuncData}
end
end Fv

namespace Fv
open PySem PySem.Spec PyProof.Rows L2 Fr Fw
def TabIn (base : Heap) (mg : Str → Option Value) (cd : Value) (q : Str) (T : List (Addr × Str)) : Prop := ∃ c P, LamX.TabB base mg c P ∧ cd = .ref c ∧ (P, q) ∈ T ∧ ∀ p ∈ T, p.1 = P → p.2 = q
section
variable {P : Program} {w : World} {L : Ly} {mg : Str → Option Value} {base : Heap} {f : Addr} {fd : FuncData} {T : List (Addr × Str)}
end
end Fv

namespace Fv
section
open Classical
end
open PySem PySem.Spec PyProof.Rows L2 Fr Fw
section
variable {P : Program} {w : World} {L : Ly} {mg : Str → Option Value} {base : Heap} {f : Addr} {fd : FuncData} {T : List (Addr × Str)}
end
end Fv

namespace Fw
open PySem PySem.Spec PyProof.Rows L2 Fr Fv
section
variable {prog : Program} {w : World} {A : Around} {E : Value → Shared → Prop} {s : Shared}
end
section
variable {X : Cx}
end
end Fw

namespace Fv
open PySem PySem.Spec PyProof.Rows L2 Fr Fw in
open PySem PySem.Spec PyProof.Rows L2 Fr Fw in
section
open PySem PySem.Spec PyProof.Rows L2 Fr Fw
variable {P : Program} {w : World} {L : Ly} {mg : Str → Option Value} {base : Heap} {T : List (Addr × Str)} {j : Nat} {x : Str}
end
open PySem PySem.Spec PyProof.Rows L2 Fr Fw
section
variable {P : Program} {w : World} {L : Ly} {mg : Str → Option Value} {base : Heap} {f : Addr} {fd : FuncData} {T : List (Addr × Str)}
end
end Fv

namespace Fv
open PySem PySem.Spec PyProof.Rows L2 Fr Fw
section
variable {P : Program} {w : World} {L : Ly} {mg : Str → Option Value} {base : Heap} {f : Addr} {fd : FuncData} {T : List (Addr × Str)}
end
end Fv

namespace Fw
open PySem PySem.Spec PyProof.Rows L2 Fr
def kvI (ks : List Int) : List (Key × V) := ks.map fun i => (.inl i, .bl true)
def ObKeys (H : Hp) (v : V) (vs : List V) : Prop := ∃ (a : Addr) (od : Obj) (ks : List Int), v = .ref a ∧ H a = some (.frz od (.dK (kvI ks))) ∧ vs = ks.map V.int
def ObEmp (H : Hp) (v : V) (vs : List V) : Prop := ∃ (a : Addr) (kvs : List (Key × V)), v = .ref a ∧ H a = some (.dK kvs) ∧ vs = []
structure LyK (L : Ly) : Prop where
  keys : ∀ {H v vs}, L.Ob 3 H v vs ↔ ObKeys H v vs
  emp : ∀ {H v vs}, L.Ob 0 H v vs ↔ ObEmp H v vs
def tyD : Da → Option String
  | .non => some "NoneType"
  | .bl _ => some "bool"
  | .int _ => some "int"
  | .str _ => some "str"
  | .lst _ => some "list"
  | .tup _ => some "tuple"
  | .obj 0 _ => some "dict"
  | .obj .. => none
section
variable {X : Cx} {L : Ly} {e a b c : Expr} {es : List Expr} {pos : Pos}
theorem dv_ty (LK : LyK L) {G : Hp} {v : V} {d : Da} {T : String} (h : Dv L G v d) (q : tyD d = some T) : TyX L.K G v (.type T) := by
  cases h with
  | non => cases q; exact .base .non
  | bl b => cases q; exact .base (.bl b)
  | int i => cases q; exact .base (.int i)
  | str x => cases q; exact .base (.str x)
  | lst h t => cases q; exact .base (.lst h)
  | tup h t =>
    cases q
    rcases h with (h | ⟨o, h⟩) | ⟨o, its, n, k, cl, _⟩
    · exact .base (.tup h)
    · exact .fTuple h
    · exact .kTuple k cl
  | @obj n v xs ds h t =>
    cases n with
    | zero =>
      cases q
      obtain ⟨a, kvs, rfl, e, _⟩ := LK.emp.mp h
      exact .base (.dK e)
    | succ n => cases q
def pIsi (A : Da → Bool → Prop) (g : Px) : Px := ⟨fun ρ k => g.f ρ fun d ρ1 => ∃ b, A d b ∧ k (.bl b) ρ1, fun h => g.mono fun _ _ ⟨b, e, q⟩ => ⟨b, e, h _ _ q⟩⟩
def IsA (L : Ly) (u : Value) (A : Da → Bool → Prop) : Prop := ∀ {G : Hp} {v : V} {d : Da} {b : Bool}, A d b → Dv L G v d → ∃ t, TyX L.K G v t ∧ PySem.W.kitOne L.K t u = some b
theorem w_isi {cv : V} {u : Value} {A : Da → Bool → Prop} {g : Px} (kc : ClsV cv u) (hA : IsA L u A) (p : PE X e (tCB (rIsi L.K) (tCons (tW L g) (tCons (tC cv) tNil)))) : PE X e (tW L (pIsi A g)) :=
  PE.imp p fun σ H Q ⟨B, G, ρ, r, h⟩ => ⟨B, G, ρ, r, g.mono (fun d ρ1 ⟨b, ha, h1⟩ v G1 H1 r1 s1 d1 => by
    obtain ⟨t, ty, q⟩ := hA ha (dv_same r1.gh d1)
    exact ⟨v, cv, t, u, b, rfl, kc, ty, q, h1 _ _ _ r1 s1 (.bl b)⟩) h⟩
def tyIs (T : String) (d : Da) (b : Bool) : Prop := ∃ t, tyD d = some t ∧ kitB t T = some b
theorem isA_ty (LK : LyK L) {T : String} : IsA L (.type T) (tyIs T) := fun ⟨t, h, q⟩ dv => ⟨.type t, dv_ty LK dv h, kit_ty q⟩
theorem w_isiT {cs : List V} {us : List Value} {A : Da → Bool → Prop} {g : Px} (kc : Paired ClsV cs us) (hl : cs.length ≤ sizeLine) (hA : ∀ {G : Hp} {v : V} {d : Da} {b : Bool}, A d b → Dv L G v d → ∃ t, TyX L.K G v t ∧ PySem.W.kitAny L.K t us = some b)
    {ta : TA} (hta : ∀ σ H Q, Q cs H → ta σ H Q) (p : PE X e (tCB (rIsiT L.K) (tCons (tW L g) (tCons (tTup ta) tNil)))) : PE X e (tW L (pIsi A g)) :=
  PE.imp p fun σ H Q ⟨B, G, ρ, r, h⟩ => ⟨B, G, ρ, r, g.mono (fun d ρ1 ⟨b, ha, h1⟩ v G1 H1 r1 s1 d1 => by
    refine hta _ _ _ ⟨hl, fun p hp => ?_⟩
    have s2 := same_upd (o := .tup cs) hp
    obtain ⟨t, ty, q⟩ := hA ha (dv_same s2 (dv_same r1.gh d1))
    exact ⟨v, p, cs, t, us, b, rfl, upd_same, kc, ty, q, h1 _ _ _ (r1.lay hp) (s1.trans (same_upd (r1.gh.free hp))) (.bl b)⟩) h⟩
def pAndE (g g' : Px) : Px := ⟨fun ρ k => g.f ρ fun d ρ1 => ∃ b, d = .bl b ∧ if b = true then g'.f ρ1 k else k (.bl false) ρ1, fun h => g.mono fun _ _ ⟨b, e, z⟩ => ⟨b, e, by
  cases b with
  | true => exact g'.mono h z
  | false => exact h _ _ z⟩⟩
theorem w_andE {g g' : Px} (p : PE X e (tAndV (tW L g) (tW L g'))) : PE X e (tW L (pAndE g g')) := PE.imp p fun σ H Q ⟨B, G, ρ, r, h⟩ =>
  ⟨B, G, ρ, r, g.mono (fun d ρ1 ⟨b, q, h1⟩ v G1 H1 r1 s1 d1 => by
    subst q
    cases d1
    refine ⟨b, rfl, ?_⟩
    cases b with
    | true => exact ⟨B, G1, ρ1, r1, g'.mono (fun d2 ρ2 h2 v2 G2 H2 r2 s2 d2 => h2 v2 G2 H2 r2 (s1.trans s2) d2) h1⟩
    | false => exact h1 _ _ _ r1 s1 (.bl false)) h⟩
def pNotE (g : Px) : Px := ⟨fun ρ k => g.f ρ fun d ρ1 => ∃ b, d = .bl b ∧ k (.bl (!b)) ρ1, fun h => g.mono fun _ _ ⟨b, e, z⟩ => ⟨b, e, h _ _ z⟩⟩
theorem w_notE {g : Px} (p : PE X e (tNotV (tW L g))) : PE X e (tW L (pNotE g)) := PE.imp p fun σ H Q ⟨B, G, ρ, r, h⟩ =>
  ⟨B, G, ρ, r, g.mono (fun d ρ1 ⟨b, q, h1⟩ v G1 H1 r1 s1 d1 => by
    subst q
    cases d1
    exact ⟨b, rfl, h1 _ _ _ r1 s1 (.bl _)⟩) h⟩
end
end Fw
namespace Fv
open PySem PySem.Spec PyProof.Rows L2 Fr Fw
structure Bx (mg : Str → Option Value) : Prop where
  isinstance : mg "isinstance" = none
  bool : mg "bool" = none
  all : mg "all" = none
  repr : mg "repr" = none
  min : mg "min" = none
section
variable {P : Program} {w : World} {L : Ly} {mg : Str → Option Value} {base : Heap} {f : Addr} {fd : FuncData}
abbrev s_is_number : Stmt := topS 4
theorem sc_is_number : FnScope ["thing"] ["thing"] (C8.fnScope s_is_number) := C8.fnScope_by (by decide +kernel)
def numB : Da → Bool
  | .int _ => true
  | _ => false
def blB : Da → Bool
  | .bl _ => true
  | _ => false
def fB (n : Nat) (A : List Da → Option Bool) : Pf := ⟨fun xs k => ∃ b, A xs = some b ∧ k (.bl b), fun h ⟨b, e, q⟩ => ⟨b, e, h _ q⟩⟩
def aNum : List Da → Option Bool
  | [d] => (tyD d).map fun _ => numB d
  | _ => none
theorem ty_int {d : Da} {t : String} (h : tyD d = some t) : tyIs "int" d (numB d || blB d) := by
  cases d with
  | non => exact ⟨_, rfl, (by decide +kernel : kitB "NoneType" "int" = some false)⟩
  | bl b => exact ⟨_, rfl, (by decide +kernel : kitB "bool" "int" = some true)⟩
  | int i => exact ⟨_, rfl, (by decide +kernel : kitB "int" "int" = some true)⟩
  | str x => exact ⟨_, rfl, (by decide +kernel : kitB "str" "int" = some false)⟩
  | lst xs => exact ⟨_, rfl, (by decide +kernel : kitB "list" "int" = some false)⟩
  | tup xs => exact ⟨_, rfl, (by decide +kernel : kitB "tuple" "int" = some false)⟩
  | @obj n xs =>
    cases n with
    | zero => exact ⟨_, rfl, (by decide +kernel : kitB "dict" "int" = some false)⟩
    | succ n => cases h
theorem ty_bool {d : Da} {t : String} (h : tyD d = some t) : tyIs "bool" d (blB d) := by
  cases d with
  | non => exact ⟨_, rfl, (by decide +kernel : kitB "NoneType" "bool" = some false)⟩
  | bl b => exact ⟨_, rfl, (by decide +kernel : kitB "bool" "bool" = some true)⟩
  | int i => exact ⟨_, rfl, (by decide +kernel : kitB "int" "bool" = some false)⟩
  | str x => exact ⟨_, rfl, (by decide +kernel : kitB "str" "bool" = some false)⟩
  | lst xs => exact ⟨_, rfl, (by decide +kernel : kitB "list" "bool" = some false)⟩
  | tup xs => exact ⟨_, rfl, (by decide +kernel : kitB "tuple" "bool" = some false)⟩
  | @obj n xs =>
    cases n with
    | zero => exact ⟨_, rfl, (by decide +kernel : kitB "dict" "bool" = some false)⟩
    | succ n => cases h
theorem ok_is_number (Fd : C8.Def L.K mg "is_number" s_is_number f fd) (b : Binds L.K fd ["thing"] []) (B : Bw mg) (Bx : Bx mg) (LK : LyK L) : CalG P w L.K mg base C8.CX0 1 "is_number" (spF L (fB 1 aNum)) := by
  have sc := sc_is_number
  refine calF (n := 0) Fd b sc ?_ (fun vs h => start_eq (by rw [h]; rfl)) fun cdv A outer s H E hr hgu => ?_
  · rintro ds k ⟨t, e, _⟩
    unfold aNum at e
    split at e
    · rfl
    · cases e
  refine ⟨_, w_one (w_ret (ps_ret (w_andE (pe_and (w_isi (.ty "int") (isA_ty LK) (pe_callB call_isi (by rfl) Bx.isinstance (by decide +kernel) (pa_cons (w_v (pv 0)) (pa_cons (pe_bltn (v := .ty "int") (by rfl) B.int (by decide +kernel) rfl) pa_nil))))
    (pe_one (w_notE (pe_not (w_isi (.ty "bool") (isA_ty LK) (pe_callB call_isi (by rfl) Bx.isinstance (by decide +kernel) (pa_cons (w_v (pv 0)) (pa_cons (pe_bltn (v := .ty "bool") (by rfl) Bx.bool (by decide +kernel) rfl) pa_nil))))))))))), ?_⟩
  rintro ds kk ⟨b, e, k⟩
  unfold aNum at e
  split at e
  · rename_i d
    obtain ⟨t, h1, h2⟩ := Option.map_eq_some_iff.mp e
    subst h2
    refine ⟨d, rfl, _, ty_int h1, _, rfl, ?_⟩
    cases d with
    | obj n xs =>
      cases n with
      | zero => exact k
      | succ n => cases h1
    | bl b => exact ⟨_, rfl, _, ty_bool h1, _, rfl, k⟩
    | int i => exact ⟨_, rfl, _, ty_bool h1, _, rfl, k⟩
    | _ => exact k
  · cases e
end
end Fv

namespace Fw
open PySem PySem.Spec PyProof.Rows L2 Fr
section
variable {X : Cx} {L : Ly} {e : Expr} {st : Stmt}
def sAug (i : Nat) (g : Px) (r : R2p) : Ps := ⟨fun ρ nx _ _ _ => ∃ d0, ρ[i]? = some (some (.dat d0)) ∧ g.f ρ fun d ρ1 => r.f d0 d fun z => nx (ρ1.set i (some (.dat z))), fun h _ _ _ ⟨d0, a, q⟩ => ⟨d0, a, g.mono (fun _ _ => r.mono fun _ => h _) q⟩⟩
theorem w_aug {i : Nat} {g : Px} {R : R2} {r : R2p} (hs : Snd2 L R r) (p : PS X st (tAug i (tW L g) R)) : PS X st (tWS L (sAug i g r)) := PS.imp p fun D σ H ⟨B, G, ρ, r0, d0, hi, h⟩ => by
  obtain ⟨s, hs0, hv⟩ := paired_get r0.env hi
  cases s with
  | none => exact (reps_none hv).elim
  | some v0 =>
    refine ⟨v0, hs0, B, G, ρ, r0, g.mono (fun d ρ1 h1 v G1 H1 r1 s1 d1 => ?_) h⟩
    exact hs r1 (dv_same s1 hv) d1 (r.mono (fun z h3 w G3 H3 r3 s3 d3 => h3 _ G3 H3 (r3.setD d3) (s1.trans s3)) h1)
def pTruI (g : Px) : Pt := ⟨fun ρ k => g.f ρ fun d ρ1 => ∃ i, d = .int i ∧ k (i != 0) ρ1, fun h => g.mono fun _ _ ⟨i, a, q⟩ => ⟨i, a, h _ _ q⟩⟩
theorem w_truI {g : Px} (p : PT X e fun σ H Q => tW L g σ H fun x H' => ∃ k, TruV X.K x H' k ∧ Q k H') : PT X e (tWT L (pTruI g)) := PT.imp p fun σ H Q ⟨B, G, ρ, r, h⟩ =>
  ⟨B, G, ρ, r, g.mono (fun d ρ1 ⟨i, a, h1⟩ v G1 H1 r1 s1 d1 => by
    subst a
    cases d1
    exact ⟨_, rfl, h1 _ _ r1 s1⟩) h⟩
theorem dv_ints {G : Hp} : ∀ {ks : List Int}, DvAll L G (ks.map V.int) (ks.map Da.int)
  | [] => .nil
  | _ :: _ => .cons (.int _) dv_ints
theorem dv_intsI {G : Hp} : ∀ {ks : List Int} {vs : List V}, DvAll L G vs (ks.map Da.int) → vs = ks.map V.int
  | [], _, .nil => rfl
  | _ :: _, _, .cons d t => by
    cases d
    rw [dv_intsI t]
    rfl
end
end Fw

namespace Fv
open PySem PySem.Spec PyProof.Rows L2 Fr Fw
section
variable {P : Program} {w : World} {L : Ly} {mg : Str → Option Value} {base : Heap} {f : Addr} {fd : FuncData}
def Kn (d : Da) : Prop := ∃ t, tyD d = some t
def inB (d : Da) (a b : Int) : Bool := match d with
  | .int i => decide (a ≤ i) && decide (i ≤ b)
  | _ => false
theorem num_ans {d : Da} (h : Kn d) : aNum [d] = some (numB d) := by
  obtain ⟨t, e⟩ := h
  show (tyD d).map (fun _ => numB d) = some (numB d)
  rw [e]
  rfl
abbrev s_is_list : Stmt := topS 5
theorem sc_is_list : FnScope ["thing"] ["thing"] (C8.fnScope s_is_list) := C8.fnScope_by (by decide +kernel)
def ltB : Da → Bool
  | .lst _ => true
  | .tup _ => true
  | _ => false
def fIsL : Pf := ⟨fun xs k => ∃ d, xs = [d] ∧ Kn d ∧ k (.bl (ltB d)), fun h ⟨d, e, n, q⟩ => ⟨d, e, n, h _ q⟩⟩
theorem isl_ans (LK : LyK L) {G : Hp} {v : V} {d : Da} {b : Bool} (h : Kn d ∧ b = ltB d) (dv : Dv L G v d) : ∃ t, TyX L.K G v t ∧ PySem.W.kitAny L.K t [.type "list", .type "tuple"] = some b := by
  obtain ⟨⟨t, e⟩, rfl⟩ := h
  refine ⟨.type t, dv_ty LK dv e, ?_⟩
  have key : ∀ {t : String} {a c r : Bool}, kitB t "list" = some a → kitB t "tuple" = some c → (a || c) = r → PySem.W.kitAny L.K (.type t) [.type "list", .type "tuple"] = some r := by
    intro t a c r h1 h2 h3
    subst h3
    refine kitAny_cons (kit_ty h1) (fun ea => ?_) fun ea => by rw [ea]; rfl
    subst ea
    refine kitAny_cons (kit_ty h2) (fun ec => ?_) fun ec => by rw [ec]; rfl
    subst ec
    exact kitAny_nil
  cases d with
  | non => cases e; exact key (a := false) (c := false) (by decide +kernel) (by decide +kernel) rfl
  | bl b => cases e; exact key (a := false) (c := false) (by decide +kernel) (by decide +kernel) rfl
  | int b => cases e; exact key (a := false) (c := false) (by decide +kernel) (by decide +kernel) rfl
  | str b => cases e; exact key (a := false) (c := false) (by decide +kernel) (by decide +kernel) rfl
  | lst b => cases e; exact key (a := true) (c := false) (by decide +kernel) (by decide +kernel) rfl
  | tup b => cases e; exact key (a := false) (c := true) (by decide +kernel) (by decide +kernel) rfl
  | obj n xs =>
    cases n with
    | zero => cases e; exact key (a := false) (c := false) (by decide +kernel) (by decide +kernel) rfl
    | succ n => cases e
theorem ok_is_list (Fd : C8.Def L.K mg "is_list" s_is_list f fd) (b : Binds L.K fd ["thing"] []) (B : Bw mg) (Bx : Bx mg) (LK : LyK L) : CalG P w L.K mg base C8.CX0 1 "is_list" (spF L fIsL) := by
  have sc := sc_is_list
  refine calF (n := 0) Fd b sc ?_ (fun vs h => start_eq (by rw [h]; rfl)) fun cdv A outer s H E hr hgu => ?_
  · rintro ds k ⟨d, rfl, _⟩
    rfl
  refine ⟨_, w_one (w_ret (ps_ret (w_isiT (cs := [.ty "list", .ty "tuple"]) (us := [.type "list", .type "tuple"]) (A := fun d b => Kn d ∧ b = ltB d) (.cons (.ty "list") (.cons (.ty "tuple") .nil)) (by decide) (isl_ans LK) (fun σ H Q q => q)
    (pe_callB call_isiT (by rfl) Bx.isinstance (by decide +kernel) (pa_cons (w_v (pv 0)) (pa_cons (pe_tup (pa_cons (pe_bltn (v := .ty "list") (by rfl) B.list (by decide +kernel) rfl) (pa_cons (pe_bltn (v := .ty "tuple") (by rfl) B.tuple (by decide +kernel) rfl) pa_nil))) pa_nil)))))), ?_⟩
  rintro ds kk ⟨d, rfl, n, k⟩
  exact ⟨d, rfl, _, ⟨n, rfl⟩, k⟩
def Kn2 (d : Da) : Prop := Kn d ∧ ∀ xs, d = .tup xs → ∀ x ∈ xs, Kn x
end
end Fv

namespace Fv
open PySem PySem.Spec PyProof.Rows L2 Fr Fw
def kd (ks : List Nat) : List Da := ks.map fun k : Nat => Da.int (k : Int)
section
variable {P : Program} {w : World} {L : Ly} {mg : Str → Option Value} {base : Heap} {f : Addr} {fd : FuncData}
end
end Fv

namespace Fw
open PySem PySem.Spec PyProof.Rows L2 Fr
section
variable {X : Cx} {L : Ly} {e a b : Expr} {pos : Pos}
def pILT (i : Nat) : Pl := ⟨fun ρ k => ∃ ds, (ρ[i]? = some (some (.dat (.lst ds))) ∨ ρ[i]? = some (some (.dat (.tup ds)))) ∧ k ds ρ, fun h ⟨ds, a, q⟩ => ⟨ds, a, h _ _ q⟩⟩
theorem w_ilt {tg : Expr} {i : Nat} (p1 : PI X tg e (iList L.K (tVar i))) (p2 : PI X tg e (iTup L.K (tVar i))) : PI X tg e (tWI L (pILT i)) := by
  refine ⟨fun pins s σ H R I ⟨B, G, ρ, r, ds, h, k⟩ => ?_⟩
  rcases h with h | h
  · obtain ⟨v0, hs0, hv⟩ := paired_get r.env h
    cases v0 with
    | none => exact (reps_none hv).elim
    | some v =>
      have hv' : Dv L G v (.lst ds) := hv
      cases hv' with
      | @lst q xs _ hq ha => exact p1.run pins s σ H R I ⟨_, hs0, q, rfl, ⟨xs, .inl (.inl (r.gh _ _ hq))⟩, k _ G H r (Same.refl _) (wk_list hq ha)⟩
  · obtain ⟨v0, hs0, hv⟩ := paired_get r.env h
    cases v0 with
    | none => exact (reps_none hv).elim
    | some v =>
      have hv' : Dv L G v (.tup ds) := hv
      cases hv' with
      | @tup q xs _ hq ha => exact p2.run pins s σ H R I ⟨_, hs0, q, rfl, ⟨xs, same_sqt r.gh hq⟩, k _ G H r (Same.refl _) (wk_tup hq ha)⟩
def rAllB : R1p := ⟨fun xs k => ∃ bs : List Bool, xs = [.lst (bs.map Da.bl)] ∧ k (.bl (bs.all id)), fun h ⟨bs, e, q⟩ => ⟨bs, e, h _ q⟩⟩
theorem dv_bls {G : Hp} : ∀ {bs : List Bool} {vs : List V}, DvAll L G vs (bs.map Da.bl) → vs = bs.map V.bl
  | [], _, .nil => rfl
  | _ :: _, _, .cons d t => by
    cases d
    rw [dv_bls t]
    rfl
theorem snd_all : Snd1 L (rAll L.K) rAllB := by
  rintro B G H σ ρ vs xs Q r dv ⟨bs, rfl, k⟩
  cases dv with
  | cons d t =>
    cases t
    cases d with
    | @lst a ys _ hs ha =>
      have e := dv_bls ha
      subst e
      exact ⟨a, bs, rfl, .inl (.inl (r.gh _ _ hs)), k _ G H r (Same.refl _) (.bl _)⟩
end
end Fw
namespace Fv
open PySem PySem.Spec PyProof.Rows L2 Fr Fw
section
variable {P : Program} {w : World} {L : Ly} {mg : Str → Option Value} {base : Heap} {f : Addr} {fd : FuncData}
end
end Fv

namespace Fv
open PySem PySem.Spec PyProof.Rows L2 Fr Fw
def LotOk (n : Int) (t : List Int) : Prop := t.Pairwise (· < ·) ∧ ∀ x ∈ t, 0 ≤ x ∧ x < n
def LotsP (n : Int) (d : Da) : Prop := ∃ bs : List (List Int), (d = lti bs ∨ d = .tup (bs.map ti)) ∧ bs ≠ [] ∧ ∃ m, ∀ b ∈ bs, LotOk n b ∧ b.length = m
def Kn3 (d : Da) : Prop := Kn d ∧ ∀ xs, (d = .lst xs ∨ d = .tup xs) → xs.length ≤ 1000 ∧ ∀ x ∈ xs, Kn2 x
section
variable {P : Program} {w : World} {L : Ly} {mg : Str → Option Value} {base : Heap} {f : Addr} {fd : FuncData}
end
end Fv

namespace PySem.W
open PySem PySem.Spec PySem.Calls PyProof.Rows
section
variable {prog : Program} {w : World} {A : Around} {E : Value → Shared → Prop} {s : Shared} {K : Frag} {x D : Addr} {ox : Obj} {od : Option Obj}
theorem fr_findData {C : Addr} {name : Str} {a g : Value} (hc : (clsIn K C).isSome = true) (ha : findIn K (.ref C) name = some (some a))
    (hg : specialIn K a "__get__" = some (some g)) (ht : takesIn K a = some true) : findObj K C od name = some (.bind g a) := by
  obtain ⟨cd, hc⟩ := Option.isSome_iff_exists.mp hc
  simp [findObj, hc, ha, hg, ht]
theorem fr_class {Q : Option Value → Shared → Prop}
    (hga : findIn K (.ref D) "__getattribute__" = some (some (.builtin "BaseException.__getattribute__")))
    (hgt : findIn K (.ref D) "__getattr__" = some none) (hsub : subIn K (.ref D) (.type "BaseException") = some true)
    (hdct : hasDictIn K D = true) (ha : findIn K (.ref D) "__class__" = some (some (.builtin "object.__class__")))
    (hn : specialIn K (.builtin "object.__class__") "__get__" = some (some (.builtin "getset_descriptor.__get__")))
    (htk : takesIn K (.builtin "object.__class__") = some true) (hm : mroIn K D (.type "object") = some true)
    (X : K.In s.heap) (I : InstAt s.heap x ox D od) (h : Q (some (.ref D)) { s with toks := s.toks + 1 }) :
    wpAny (model prog w) A (getAttr? (.ref x) "__class__") Q E s := by
  have hcs : (clsIn K D).isSome = true := by
    obtain ⟨cd, hc, _⟩ := any_some hdct
    rw [hc]
    rfl
  have hf := fr_findData (od := od) hcs ha hn htk
  obtain ⟨hp, g, d, t, os⟩ := s
  have L0 := I.type (M := model prog w)
  have L1 := looks_findIn (M := model prog w) X hga
  have L2 := looks_findIn (M := model prog w) X hgt
  have L3 := looks_find (M := model prog w) X I hf
  have sub : Looks (model prog w) hp (isInstance (.ref x) (.type "BaseException"))
      true := L0.andThen (looks_subIn X hsub)
  have e2 : (Value.builtin "BaseException.__getattribute__" == Value.builtin "object.__getattribute__") = false := by decide +kernel
  have e1 : (onTheHeap (Value.ref D) && Value.builtin "BaseException.__getattribute__" == Value.builtin "object.__getattribute__") = false := by
    rw [e2]
    rfl
  unfold getAttr? getAttrBy? getAttrBy
  refine wpAny_bind (wpAny_mkText (wpAny_bind (wpAny_attempt (wpAny_holding ?_))))
  refine wpAny_bind (L0.at (wpAny_bind (L1.at ?_)))
  show wpAny _ _ (if (onTheHeap (Value.ref D) && Value.builtin "BaseException.__getattribute__" == Value.builtin "object.__getattribute__") = true
    then _ else _) _ _ _
  rw [e1]
  rw [if_neg Bool.false_ne_true]
  unfold getAttrByItsOwn hookBefore
  refine wpAny_bind ?_
  rw [if_pos (by rfl : onTheHeap (Value.ref D) = true)]
  refine L2.at (wpAny_bind (wpAny_attempt (wpAny_holding ?_)))
  unfold callGetattribute
  have e0 : (false && onTheHeap (Value.builtin "BaseException.__getattribute__")) = false := by rfl
  rw [e0]
  rw [if_neg Bool.false_ne_true]
  unfold boundAndCalled
  rw [PySem.F.excAttr_ValueError.ga.bind (.ref x)]
  refine wpAny_bind (wpAny_pure ?_)
  show wpAny _ _ (call (.builtin "BaseException.__getattribute__") [.ref x, .str "__class__" t])
    _ _ _
  refine wpAny_call (codeAny_call_builtin PySem.F.excAttr_ValueError.ga.plain
    PySem.F.entry_bexc_ga ?_)
  refine @check_slot (model prog w) _ _ ⟨hp, g, d, t + 1, os⟩ "BaseException.__getattribute__" "BaseException" "__getattribute__"
    (.ref x) [.str "__class__" t] [] _ (by decide +kernel) (by decide +kernel) sub (PySem.F.args_bexc_ga _ _) ?_
  unfold Builtin.«object.__getattribute__»
  refine wpAny_bind (wpAny_of_eq (a := ((Value.ref x : Value), [Value.str "__class__" t]))
    (by first | rfl | (simp only [slotArgs]; rfl)) ?_)
  refine wpAny_bind (wpAny_pure ?_)
  refine wpAny_bind (L0.at (wpAny_bind (L3.at ?_)))
  show wpAny _ _ (holding [Value.builtin "object.__class__"]
    (call (.builtin "getset_descriptor.__get__") [.builtin "object.__class__", .ref x, .ref D]) >>= ret) _ _ _
  refine wpAny_bind (wpAny_holding (wpAny_call ?_))
  refine class_get (s := ⟨hp, g, d, t + 1, os⟩) (ox := ox) (od := od) X I hm ?_
  refine wpAny_pure ?_
  show wpAny _ _ (handedOut (.ref D))
    _ _ _
  rw [handedOut_of (v := .ref D) rfl]
  first
    | exact wpAny_pure (wpAny_pure h) | exact wpAny_pure h
    | exact wpAny_pure (wpAny_bind (wpAny_pure (wpAny_pure h)))
theorem fr_kitx
    (hga : findIn K (.ref D) "__getattribute__" = some (some (.builtin "BaseException.__getattribute__")))
    (hgt : findIn K (.ref D) "__getattr__" = some none) (hsub : subIn K (.ref D) (.type "BaseException") = some true)
    (hdct : hasDictIn K D = true) (ha : findIn K (.ref D) "__class__" = some (some (.builtin "object.__class__")))
    (hn : specialIn K (.builtin "object.__class__") "__get__" = some (some (.builtin "getset_descriptor.__get__")))
    (htk : takesIn K (.builtin "object.__class__") = some true) (hm : mroIn K D (.type "object") = some true) :
    KitX K (.ref x) (.ref D) (fun h => InstAt h x ox D od) := by
  obtain ⟨cdD, hcD, _⟩ := any_some hdct
  unfold clsIn at hcD
  split at hcD
  · rename_i c' d' cd' sl' ho
    refine ⟨fun _ _ _ I => I.type, fun _ _ X _ => ?_, fun h tp dd its n sl X htp => ?_, fun X I k => fr_class hga hgt hsub hdct ha hn htk hm X I k⟩
    · intro A' Q' E' s' k q
      unfold isType loadHead
      refine wpAny_bind (wpAny_loadPart (k _ _ (X _ _ ho)) ?_)
      exact wpAny_pure q
    · refine Bool.eq_false_iff.mpr ?_
      intro q
      obtain rfl : D = tp := Value.ref.inj (beq_iff_eq.mp q)
      cases (X _ _ ho).symm.trans htp
  · cases hcD
end
end PySem.W
namespace Fr
open PySem PySem.Spec PyProof.Rows L2
def exv (a C : Addr) (d : Option Addr) : HO := .ext fun h => ∃ (oe : Obj) (vs : Array Value), h.get? a = some oe ∧ oe.cls = .ref C ∧ oe.dict = d ∧ oe.data = .fields vs
theorem exv_ok {P : Program} {w : World} {H : Hp} {h : Heap} {a C : Addr} {d : Option Addr} {oe : Obj} {vs : Array Value} (e : h.get? a = some oe) (c : oe.cls = .ref C) (z : oe.dict = d) (q : oe.data = .fields vs) : ObjOk P w H h a (exv a C d) :=
  ⟨⟨oe, vs, e, c, z, q⟩, ⟨oe, e⟩, fun _ _ ⟨o, v, q, r⟩ k => ⟨o, v, k o q, r⟩⟩
def XD (H : Hp) (d : Addr) (fs : List (Str × V)) : Prop := H d = some (.xd fs) ∨ H d = some (exd d fs)
theorem XD.at {P : Program} {w : World} {H : Hp} {h : Heap} {d : Addr} {fs : List (Str × V)} (x : XD H d fs) (ok : HOk P w H h) : ∃ mA, h.Ns1 d mA ∧ ∀ f, RelO (fs.lookup f) (mA f) := by
  rcases x with x | x
  · exact ok d _ x
  · exact exd_at ok x
def XV (H : Hp) (a C : Addr) (d : Option Addr) : Prop := H a = some (exv a C d) ∨ H a = some (exo a C d) ∨ (d = none ∧ H a = some (ExO (.ref C) a))
theorem XV.at {P : Program} {w : World} {H : Hp} {h : Heap} {a C : Addr} {d : Option Addr} (x : XV H a C d) (ok : HOk P w H h) : ∃ (oe : Obj) (vs : Array Value), h.get? a = some oe ∧ oe.cls = .ref C ∧ oe.dict = d ∧ oe.data = .fields vs := by
  rcases x with x | x | ⟨rfl, x⟩
  · exact (ok a _ x).1
  · obtain ⟨t1, e⟩ := exo_at ok x
    exact ⟨_, _, e, rfl, rfl, rfl⟩
  · obtain ⟨⟨oe, vs, e, z, q, _⟩, _, _⟩ := ok a _ x
    exact ⟨oe, vs, e, z.1, z.2, q⟩
theorem XV.same {H H' : Hp} {a C : Addr} {d : Option Addr} (x : XV H a C d) (s : Same H H') : XV H' a C d := by
  rcases x with x | x | ⟨e, x⟩
  · exact .inl (s _ _ x)
  · exact .inr (.inl (s _ _ x))
  · exact .inr (.inr ⟨e, s _ _ x⟩)
theorem XD.same {H H' : Hp} {d : Addr} {fs : List (Str × V)} (x : XD H d fs) (s : Same H H') : XD H' d fs := x.elim (fun x => .inl (s _ _ x)) fun x => .inr (s _ _ x)
theorem inst_of {P : Program} {w : World} {H : Hp} {h : Heap} {a C : Addr} {d : Option Addr} (x : XV H a C d) (ok : HOk P w H h) (hd : ∀ dd, d = some dd → ∃ fs, XD H dd fs) : ∃ ox od, PySem.W.InstAt h a ox C od := by
  obtain ⟨oe, vs, e, c, z, q⟩ := x.at ok
  have no : PySem.W.notCls oe = true := by
    unfold PySem.W.notCls
    rw [q]
  cases d with
  | none => exact ⟨oe, none, e, c, no, by rw [z]; trivial⟩
  | some dd =>
    obtain ⟨fs, y⟩ := hd dd rfl
    obtain ⟨mA, ⟨o, es, ep, ho, _⟩, _⟩ := y.at ok
    exact ⟨oe, some o, e, c, no, by rw [z]; exact ho⟩
def rIsX (K : Frag) : List V → Hp → VK → Prop := fun xs H Q => ∃ (a D : Addr) (d : Option Addr) (c : V) (cv : Value) (b : Bool), xs = [.ref a, c] ∧ XV H a D d ∧ (∀ dd, d = some dd → ∃ fs, XD H dd fs) ∧ ExcC K D ∧
  (∀ u, RelV c u → u = cv) ∧ PySem.W.kitOne K (.ref D) cv = some b ∧ Q (.bl b) H
theorem call_isX {X : Cx} : CallR X (.builtin "isinstance") (rIsX X.K) := by
  intro pins s σ H xs us Q I r h
  obtain ⟨a, D, d, c, cv, b, rfl, hx, hd, T, hcv, e, q⟩ := h
  cases r with
  | cons rx rr =>
    cases rr with
    | cons rt rr =>
      cases rr
      cases rx
      have ec := hcv _ rt
      subst ec
      obtain ⟨ox, od, J⟩ := inst_of hx I.hok hd
      refine PySem.W.kia_one (PySem.W.fr_kitx T.hg T.hk T.hs T.hd T.ha T.hn T.ht T.hm) I.kIn J e (fun z => nomatch z) ?_
      exact fun tk => ⟨.bl b, H, I.kept (t' := tk) fun _ _ z => z, rfl, q⟩
end Fr

namespace Fr
open PySem PySem.Spec PyProof.Rows L2
section
variable {X : Cx} {pins : List (Addr × Obj)} {σ : L2.St} {H : Hp} {s : Shared}
theorem track {a : Addr} {oe : Obj} {o : HO} (I : Inv X ((a, oe) :: pins) σ H s) (h0 : X.s_0.heap.get? a = none) (hp : ∀ p ∈ X.pn ++ pins, p.1 ≠ a) (new : ObjOk X.prog X.w (upd H a o) s.heap a o) : Inv X pins σ (upd H a o) s := by
  obtain ⟨ea, na, nl, nf, nc⟩ := I.pin (a, oe) (List.mem_append_right _ List.mem_cons_self)
  have off : ∀ {b : Addr} {u : HO}, H b = some u → upd H a o b = some u := fun {b u} e => by
    rw [upd_ne (ne_of_none e na)]
    exact e
  refine ⟨I.ok, I.os, I.bare, ⟨I.base.keep, I.base.slot, fun b ob e n hx => ?_, I.base.there, fun b xs e => off (I.base.tups b xs e), fun b ob u e => off (I.base.frzs b ob u e), fun b ps e => ?_⟩, I.loc, I.cell, ?_, fun x c e => ?_, fun p hm => ?_, fun b u e => ?_, I.len⟩
  · rw [upd_ne (fun z => by rw [z, h0] at e; cases e)]
    exact I.base.free b ob e n hx
  · obtain ⟨more, q⟩ := I.base.tbls b ps e
    exact ⟨more, off q⟩
  · rw [upd_ne (Ne.symm nl)]
    exact I.free
  · obtain ⟨v, oc, ec, hc⟩ := I.cell x c e
    rw [upd_ne (fun z => by rw [z, ea] at ec; cases ec; exact nc _ hc)]
    exact I.freeC x c e
  · have hm' : p ∈ X.pn ++ ((a, oe) :: pins) := by
      rcases List.mem_append.mp hm with z | z
      · exact List.mem_append_left _ z
      · exact List.mem_append_right _ (List.mem_cons_of_mem _ z)
    obtain ⟨e1, e2, e3, e4, e5⟩ := I.pin p hm'
    refine ⟨e1, ?_, e3, e4, e5⟩
    rw [upd_ne (hp p hm)]
    exact e2
  · by_cases hb : b = a
    · subst hb
      rw [upd_same] at e
      cases e
      exact new
    · rw [upd_ne hb] at e
      exact (I.hok b u e).stay (fun _ _ _ q => q) (fun _ q => off q) fun _ _ q => off q
theorem keepPin {a : Addr} {q : Addr × Obj} {pn' : List (Addr × Obj)} (I : Inv (X.suite a (q :: (X.pn ++ pins))) pn' σ H s) (ok : X.Ok) : Inv X (q :: pins) σ H s :=
  { I.unsuite ok with pin := fun p hp => I.pin p (List.mem_append_left _ (by
      rcases List.mem_append.mp hp with z | z
      · exact List.mem_cons_of_mem _ (List.mem_append_left _ z)
      · rcases List.mem_cons.mp z with z | z
        · rw [z]
          exact List.mem_cons_self
        · exact List.mem_cons_of_mem _ (List.mem_append_right _ z))) }
end
def wKp (K : PySem.W.Frag) (c : Value) (i : Nat) (ts : Addr → Value → Option Addr → TS) (Wout : WX) (D : Ends) : WX := fun cls d σ H =>
  ∃ b, PySem.W.exmOne K cls c = some b ∧ (b = true → ∃ C, cls = .ref C ∧ ∀ a, H a = none → ts a cls d { nx := fun σ' H' => D.nx (σ'.set i none) (upd H' a (exv a C d)), rt := fun _ _ => False, bk := fun _ _ => False, ct := fun _ _ => False } (σ.set i (some (.ref a))) H) ∧
    (b = false → Wout cls d σ H)
theorem ps_try_keep {X : Cx} {x n : Str} {c : Value} {i : Nat} {body suite : List Stmt} {b0 : Stmt} {np po ph : Pos} {tb : WX → TS} {ts : Addr → Value → Option Addr → TS} {Wout : WX} (stk : X.stack = X.env :: X.outer) (frm : X.env.frame = some X.env.locals) (hex : X.ex = []) (nd : X.N.Nodup)
    (hi : X.N[i]? = some n) (kn : X.env.kindOf n = some .local) (nam : Names X x c) (tk : Takes X Wout)
    (hbody : ∀ (W : WX) (pn : List (Addr × Obj)) (xe : Value → Shared → Prop), Takes (X.tr pn xe) W → PassesOwn (model X.prog X.w) X.A X.env xe → PSs (X.tr pn xe) body (tb W))
    (hsuite : ∀ (a : Addr) (oe : Obj) (cls : Value) (d : Option Addr) (pn : List (Addr × Obj)), Zc cls d oe → (∃ vs, oe.data = .fields vs) → PSs (X.suite a ((a, oe) :: pn)) (b0 :: suite) (ts a cls d)) :
    PS X (.Try body [.ExceptHandler (some (.Name x np)) (some n) (b0 :: suite) ph] [] [] po) (fun D σ H => tb (wKp X.K c i ts Wout D) D σ H) := by
  constructor
  intro pins s σ H D I h
  have ok := I.ok
  have frs0 : X.A.frames = some (X.env :: X.outer) := ok.frames.trans (congrArg some stk)
  refine wpAny_Try_except (wpAny_mono ((hbody (wKp X.K c i ts Wout D) (X.pn ++ pins) (fun u sa => wpAny (model X.prog X.w) X.A (noteFrame u X.env) (fun _ sb => wpAny (model X.prog X.w) X.A (setFlight u none) (fun _ sc =>
    wpAny (model X.prog X.w) X.A (handleBy u X.env [.ExceptHandler (some (.Name x np)) (some n) (b0 :: suite) ph]) (SP X pins D) X.xe sc) X.xe sb) X.xe sa) (fun u s1 xx => ?_) PassesOwn.looking).run [] s σ H D (I.toTry _) h) (fun fl s1 hq => ?_) (fun _ _ z => z))
  · obtain ⟨a, B, sJ, pins1, σ1, H1, cls, d, eu, J0, nb, up, sky, na, os, ag, b, hm, hy, hn⟩ := xx
    subst eu
    have J : Inv X pins σ1 H1 sJ := J0.ofTry ok
    have sky1 : Sky B (X.env :: X.outer) a (Zc cls d) X.env.locals s1.heap := stk ▸ sky
    refine (show wpAny (model X.prog X.w) X.A (noteFrame (.ref a) X.env) _ _ _ from Sky.land Zc.steady frs0 frm sky1 fun h3 fl3 up3 => ?_)
    have J3 : Inv X pins σ1 H1 { s1 with heap := h3 } := J.landed nb fl3.1 (up.trans up3) os ag
    obtain ⟨o3, v3, g3, z3, q3⟩ := fl3.there
    have nfr : a ∉ frs (X.env :: X.outer) := fun hx => by
      obtain ⟨_, o', e', nn⟩ := fl3.2.2.1.mem hx
      rw [g3] at e'
      cases e'
      exact nn _ q3
    have nl : a ≠ X.env.locals := fun z => nfr (List.mem_filterMap.mpr ⟨X.env, List.mem_cons_self, by rw [frm, z]⟩)
    have nf : a ∉ X.fs := fun hx => by
      obtain ⟨u, hu, q⟩ := List.mem_filterMap.mp hx
      exact nfr (List.mem_filterMap.mpr ⟨u, List.mem_cons_of_mem _ hu, q⟩)
    have nB : B.get? a = none := fl3.2.1
    have nS : ∀ o, sJ.heap.get? a ≠ some o := fun o e => by
      have := nb a o e (by rw [stk]; exact nfr)
      rw [nB] at this
      cases this
    have n0 : X.s_0.heap.get? a = none := by
      cases e : X.s_0.heap.get? a with
      | none => rfl
      | some o =>
        obtain ⟨o', e'⟩ := J.base.there a o e (by rw [hex]; simp)
        exact absurd e' (nS o')
    have np1 : ∀ p ∈ X.pn ++ pins, p.1 ≠ a := fun p hp z => nS p.2 (by rw [← z]; exact (J.pin p hp).1)
    have S3 := J3.suite g3 q3 na nl nf
    refine wpAny_handleBy_cons (codeAny_handlers_test ?_) (by intro q; cases q)
    have lt : PySem.W.Looks (model X.prog X.w) h3 (typeOf (.ref a)) cls := fun A Q E s k q => wpAny_typeOf_ref (k _ _ g3) (by rw [z3.1]; exact q)
    have lm := PySem.W.exm_one (M := model X.prog X.w) (J3.kIn) lt hm
    have tst : ∀ {Q : Value → Shared → Prop} {E : Value → Shared → Prop}, Q c { s1 with heap := h3 } → wpAny (model X.prog X.w) (X.A.mark (some (.ref a))) (eval (.Name x np) X.env) Q E { s1 with heap := h3 } := by
      intro Q E q
      obtain ⟨hg, hdb, hh | ⟨hh, hv, hw⟩⟩ := nam
      · exact ld_glob (X := X.suite a ((a, o3) :: (X.pn ++ pins))) S3 hg hh q hdb
      · exact ld_blt (X := X.suite a ((a, o3) :: (X.pn ++ pins))) S3 hg hh hv q hw hdb
    refine tst (lm.here ?_)
    cases b with
    | true =>
      refine codeAny_handlers_suite_as (HandSPX.lands_againZ fl3 fun h4 fl4 up4 => ?_)
      have J4 : Inv X pins σ1 H1 { s1 with heap := h4 } := J.landed nb fl4.1 ((up.trans up3).trans up4) os ag
      obtain ⟨o4, v4, g4, z4, q4⟩ := fl4.there
      obtain ⟨C, ec, hy⟩ := hy rfl
      subst ec
      refine store_ok (X := X.suite a ((a, o4) :: (X.pn ++ pins))) (v := .ref a) (J4.suite g4 q4 na nl nf) nd hi (.inl kn) rfl (fun s5 S5 => ?_) (.inr kn)
      refine wpAny_mono ((hsuite a o4 (.ref C) d (X.pn ++ pins) z4 ⟨_, q4⟩).run [] s5 _ H1 _ S5 (hy a na)) (fun fl s6 hq => ?_) (fun _ _ z => False.elim z)
      cases fl with
      | next =>
        obtain ⟨σ6, H6, S6, q6⟩ := hq
        refine gone_ok (keepPin S6 ok) nd hi kn fun s7 J7 => ?_
        have pa := (J7.pin (a, o4) (List.mem_append_right _ List.mem_cons_self)).1
        exact ⟨_, _, track J7 n0 np1 (exv_ok pa z4.1 z4.2 q4), q6⟩
      | brk =>
        obtain ⟨_, _, _, q6⟩ := hq
        exact q6.elim
      | cont =>
        obtain ⟨_, _, _, q6⟩ := hq
        exact q6.elim
      | ret u =>
        obtain ⟨_, _, _, _, _, q6⟩ := hq
        exact q6.elim
    | false =>
      refine (show wpAny _ X.A (handleBy (.ref a) X.env []) _ _ _ from wpAny_handleBy_nil ?_)
      obtain ⟨w1, w2, w3, oe, vs, T, oT, tt, he, hz, hd, h1, hr⟩ := id fl3
      unfold PySem.passOn
      refine wpAny_bind (wpAny_field he hd h1 ?_)
      rw [if_neg (by simp : ¬ ((Value.ref T == Value.none) = true))]
      have out : wpAny (model X.prog X.w) X.A (setFlight (.ref a) X.env.frame) (fun _ sz => wpAny (model X.prog X.w) X.A (throw (.ref a) : Sem Flow) (SP X pins D) X.xe sz) X.xe { s1 with heap := h3 } := by
        rw [frm]
        refine HandSPX.setFlight_upZ fl3 fun h4 hh up4 => wpAny_throw (tk _ _ ⟨a, B, sJ, pins, σ1, H1, cls, d, rfl, J, nb, (up.trans up3).trans up4, .inr (.inr (stk.symm ▸ hh)), na, os, ag, hn rfl⟩)
      first
        | exact wpAny_bind (wpAny_pure (wpAny_bind out))
        | exact wpAny_bind out
  · cases fl with
    | next =>
      obtain ⟨σ1, H1, J, q⟩ := hq
      exact wpAny_execs_nil ⟨σ1, H1, J.ofTry ok, q⟩
    | brk =>
      obtain ⟨σ1, H1, J, q⟩ := hq
      exact ⟨σ1, H1, J.ofTry ok, q⟩
    | cont =>
      obtain ⟨σ1, H1, J, q⟩ := hq
      exact ⟨σ1, H1, J.ofTry ok, q⟩
    | ret u =>
      obtain ⟨v, σ1, H1, J, r, q⟩ := hq
      exact ⟨v, σ1, H1, J.ofTry ok, r, q⟩
end Fr

namespace Fr
open PySem PySem.Spec PyProof.Rows L2
end Fr
namespace Fv
open PySem PySem.Spec PyProof.Rows L2 Fr Fw
section
variable {P : Program} {w : World} {L : Ly} {mg : Str → Option Value} {base : Heap} {f : Addr} {fd : FuncData} {cE : Addr}
end
end Fv

namespace Fs
open PySem PySem.Spec PyProof.Rows L2
structure SetW (P : Program) (w : World) (h : Heap) (a : Addr) (M : List (Addr × List Int)) (en : Array (Int × Value)) (ep : Nat) (t : SetTable) : Prop where
  at_ : ∃ o, o.ExactSet ∧ o.data = .set en ep t ∧ h.get? a = some o
  row : en.toList = rowsOf P w M
  tab : TabOk t (M.map fun q => thash P w q.2)
  nd : (M.map (·.2)).Nodup
  tups : ∀ q ∈ M, IsT P w h q.2 q.1
  plain : t.plain = true
  ledg : w.params.followText "set-order" = true ∨ t.led = true
  room : M.length * 5 < t.mask * 3
section
variable {P : Program} {w : World} {A : Around} {E : Value → Shared → Prop} {s : Shared} {a : Addr} {M : List (Addr × List Int)} {en : Array (Int × Value)} {ep : Nat} {t : SetTable}
theorem SetW.of {h : Heap} (R : SetTR P w h a M en ep t) : SetW P w h a M en ep t := by
  obtain ⟨o, e1, e2, e3⟩ := R.ob
  exact ⟨⟨o, e2, e3, e1⟩, R.rows, R.tab, R.nd, R.tup, R.plain, R.led, R.room⟩
theorem SetW.to {h : Heap} (S : SetW P w h a M en ep t) (few : M.length < 64) : SetTR P w h a M en ep t := by
  obtain ⟨o, e2, e3, e1⟩ := S.at_
  exact ⟨⟨o, e1, e2, e3⟩, S.row, S.tab, S.nd, S.tups, S.plain, S.ledg, S.room, few⟩
theorem SetW.size {h : Heap} (S : SetW P w h a M en ep t) : en.size = M.length := by
  have e := congrArg List.length S.row
  rw [Array.length_toList] at e
  rw [e]
  unfold rowsOf
  rw [List.length_map]
end
end Fs

namespace Fs
open PySem PySem.Spec PyProof.Rows L2
section
variable {P : Program} {w : World} {A : Around} {E : Value → Shared → Prop} {s : Shared}
theorem SetW.keep {h h' : Heap} {a : Addr} {M : List (Addr × List Int)} {en : Array (Int × Value)} {ep : Nat} {t : SetTable} (S : SetW P w h a M en ep t) (ka : ∀ o, h.get? a = some o → h'.get? a = some o) (kt : ∀ q ∈ M, IsT P w h' q.2 q.1) : SetW P w h' a M en ep t := by
  obtain ⟨o, e1, e2, e3⟩ := S.at_
  exact { S with at_ := ⟨o, e1, e2, ka o e3⟩, tups := kt }
structure Has (ks : List (Addr × List Int)) (i : Nat) (M : List (Addr × List Int)) : Prop where
  got : Got ks i M
  few : ∀ N : List (List Int), N.Nodup → (∀ k ∈ N, k ∈ ks.map (·.2)) → N.length ≤ 76
theorem Has.room {ks M : List (Addr × List Int)} {i : Nat} {x : Addr × List Int} (g : Has ks i M) (nd : (M.map (·.2)).Nodup) (hx : ks[i]? = some x) (new : x.2 ∉ M.map (·.2)) : M.length < 76 := by
  have h := g.few (x.2 :: M.map (·.2)) (List.nodup_cons.mpr ⟨new, nd⟩) fun k hk => by
    rcases List.mem_cons.mp hk with e | z
    · rw [e]
      exact List.mem_map.mpr ⟨x, List.mem_of_getElem? hx, rfl⟩
    · obtain ⟨q, hq, e⟩ := List.mem_map.mp z
      exact List.mem_map.mpr ⟨q, List.mem_of_mem_take (g.got.sub q hq), e⟩
  rw [List.length_cons, List.length_map] at h
  omega
end
end Fs

namespace Fs
open PySem PySem.Spec PyProof.Rows L2 Fr Fw Fv
section
variable {P : Program} {w : World} {A : Around} {E : Value → Shared → Prop} {s : Shared}
end
section
variable {X : Cx}
end
end Fs

namespace Fv
end Fv

namespace Fv
open PySem PySem.Spec PyProof.Rows L2 Fr Fw Fs
section
variable {P : Program} {w : World} {L : Ly} {mg : Str → Option Value} {base : Heap} {f : Addr} {fd : FuncData} {cE cB : Addr}
end
end Fv

namespace Fv
open PySem PySem.Spec PyProof.Rows L2 Fr Fw Fs
section
variable {X : Cx} {CX : CXT} {k j : Nat} {f C : Addr} {fd : FuncData} {ps : List Str} {sp : L2.Sp} {E : XK} {pins : List (Addr × Obj)} {σ : L2.St} {H : Hp} {s : Shared} {Q : VK}
end
section
variable {X : Cx} {L : Ly} {k j : Nat} {f cB cE : Addr} {fd : FuncData} {p pos : Pos} {e : Expr}
theorem no_pass {P : Program} {w : World} {l : List Env} {H : Hp} {s : Shared} {e : Value} {s' : Shared} (h : L2.CX P w l H s (fun _ _ _ => False) e s') : False := by
  obtain ⟨_, _, _, _, _, _, _, _, _, _, _, _, z⟩ := h
  exact z
end
end Fv

namespace Fv
open PySem PySem.Spec PyProof.Rows L2 Fr Fw Fs
theorem piled_le {c : Nat} : ∀ {ts : List Str}, (∀ t ∈ ts, t.length ≤ c) → piled ts ≤ ts.length * (c + 2)
  | [], _ => by rw [piled_nil]; exact Nat.zero_le _
  | t :: ts, h => by
    have h1 := h t List.mem_cons_self
    have h2 := piled_le (ts := ts) fun u hu => h u (List.mem_cons_of_mem _ hu)
    have e : piled (t :: ts) = t.length + 2 + piled ts := piled_cons t ts
    rw [e, List.length_cons, Nat.succ_mul]
    omega
theorem tupT_le {c : Nat} {ts : List Str} (h : ∀ t ∈ ts, t.length ≤ c) : (tupleText ts).length ≤ ts.length * (c + 2) + 5 := by
  have hp := piled_le h
  have hj : (Str.join ", " ts).length ≤ ts.length * (c + 2) := by
    cases ts with
    | nil =>
      have e : Str.join ", " [] = Str.empty := rfl
      rw [e]
      exact Nat.zero_le _
    | cons t r =>
      have := join_length_add (t :: r) (by simp)
      omega
  have a : ((if ts.length == 1 then ",)" else ")" : String) : Str).length ≤ 2 := by
    split
    · decide +kernel
    · decide +kernel
  have b : (("(" : Str)).length ≤ 1 := by decide +kernel
  unfold tupleText
  rw [Str.length_append, Str.length_append]
  omega
theorem shAll (xs : List PyData) : PyData.shownAll xs = xs.map PyData.shown := by
  induction xs with
  | nil => rfl
  | cons x r ih =>
    show PyData.shown x :: PyData.shownAll r = _
    rw [ih]
    rfl
theorem sh_int {i : Int} (h0 : 0 ≤ i) (h : i < 9) : (PyData.shown (.int i)).length ≤ 1 := by
  have key : ∀ n ∈ List.range 9, (PyData.shown (.int (n : Int))).length ≤ 1 := by decide +kernel
  obtain ⟨n, rfl⟩ := Int.eq_ofNat_of_zero_le h0
  exact key n (List.mem_range.mpr (by omega))
theorem sh_lot {t : List Int} {c : Nat} (hl : t.length ≤ c) (h : ∀ x ∈ t, 0 ≤ x ∧ x < 9) : (PyData.shown (pti t)).length ≤ c * 3 + 5 := by
  have e : PyData.shown (pti t) = tupleText ((t.map PyData.int).map PyData.shown) := by
    show tupleText (PyData.shownAll (t.map PyData.int)) = _
    rw [shAll]
  rw [e]
  refine Nat.le_trans (tupT_le (c := 1) fun u hu => ?_) ?_
  · obtain ⟨d, hd, rfl⟩ := List.mem_map.mp hu
    obtain ⟨i, hi, rfl⟩ := List.mem_map.mp hd
    exact sh_int (h i hi).1 (h i hi).2
  · rw [List.length_map, List.length_map]
    omega
def ptl (ts : List (List Int)) : PyData := .tuple (ts.map pti)
theorem shw_int {i : Int} (h0 : 0 ≤ i) (h : i < 9) : PyData.showable (.int i) = true := by
  have key : ∀ n ∈ List.range 9, PyData.showable (.int (n : Int)) = true := by decide +kernel
  obtain ⟨n, rfl⟩ := Int.eq_ofNat_of_zero_le h0
  exact key n (List.mem_range.mpr (by omega))
theorem shwAll {xs : List PyData} (h : ∀ x ∈ xs, PyData.showable x = true) : PyData.showableAll xs = true := by
  induction xs with
  | nil => rfl
  | cons x r ih =>
    show (PyData.showable x && PyData.showableAll r) = true
    rw [h x List.mem_cons_self, ih fun y hy => h y (List.mem_cons_of_mem _ hy)]
    rfl
theorem noDictAll {xs : List PyData} (h : ∀ x ∈ xs, PyData.hasDict x = false) : PyData.hasDictAll xs = false := by
  induction xs with
  | nil => rfl
  | cons x r ih =>
    show (PyData.hasDict x || PyData.hasDictAll r) = false
    rw [h x List.mem_cons_self, ih fun y hy => h y (List.mem_cons_of_mem _ hy)]
    rfl
theorem ptl_ok {ts : List (List Int)} (h : ∀ t ∈ ts, ∀ x ∈ t, 0 ≤ x ∧ x < 9) : PyData.showable (ptl ts) = true ∧ PyData.hasDict (ptl ts) = false := by
  constructor
  · show PyData.showableAll (ts.map pti) = true
    refine shwAll fun d hd => ?_
    obtain ⟨t, ht, rfl⟩ := List.mem_map.mp hd
    show PyData.showableAll (t.map PyData.int) = true
    refine shwAll fun e he => ?_
    obtain ⟨i, hi, rfl⟩ := List.mem_map.mp he
    exact shw_int (h t ht i hi).1 (h t ht i hi).2
  · show PyData.hasDictAll (ts.map pti) = false
    refine noDictAll fun d hd => ?_
    obtain ⟨t, ht, rfl⟩ := List.mem_map.mp hd
    show PyData.hasDictAll (t.map PyData.int) = false
    refine noDictAll fun e he => ?_
    obtain ⟨i, hi, rfl⟩ := List.mem_map.mp he
    rfl
section
variable {P : Program} {w : World} {L : Ly} {mg : Str → Option Value} {base : Heap} {f : Addr} {fd : FuncData} {cB cE fI : Addr} {fdI : FuncData}
end
end Fv

namespace Fv
open PySem PySem.Spec PyProof.Rows L2 Fr Fw Fs
section
variable {X : Cx} {L : Ly} {cB cE : Addr} {e : Expr}
def rNeS : R2p := ⟨fun x y k => ∃ i j, x = .str i ∧ y = .str j ∧ k (.bl (!decide (i = j))), fun h ⟨i, j, a, b, q⟩ => ⟨i, j, a, b, h _ q⟩⟩
theorem dec_strV (i j : Str) : decide (V.str i = V.str j) = decide (i = j) := by
  by_cases h : i = j
  · subst h; simp
  · rw [decide_eq_false h, decide_eq_false fun z => h (V.str.inj z)]
theorem snd_neS : Snd2 L rNe rNeS := by
  rintro B G H σ ρ v u x y Q r d1 d2 ⟨i, j, rfl, rfl, k⟩
  cases d1
  cases d2
  refine ⟨rfl, ?_⟩
  rw [dec_strV]
  exact k _ G H r (Same.refl _) (.bl _)
def rReprI : R1p := ⟨fun xs k => ∃ i : Int, xs = [.int i] ∧ i.natAbs.log2 < 1920 ∧ k (.str (toString i)), fun h ⟨i, a, b, q⟩ => ⟨i, a, b, h _ q⟩⟩
theorem snd_reprI : Snd1 L (fun xs H Q => ∃ i, xs = [.int i] ∧ i.natAbs.log2 < 1920 ∧ Q (.str (toString i)) H) rReprI := by
  rintro B G H σ ρ vs xs Q r dv ⟨i, rfl, hi, k⟩
  cases dv with
  | cons d t =>
    cases t
    cases d
    exact ⟨i, rfl, hi, k _ G H r (Same.refl _) (.str _)⟩
theorem dep_all {c : Nat} : ∀ {xs : List PyData}, (∀ x ∈ xs, x.depth ≤ c) → PyData.depthAll xs ≤ c
  | [], _ => by
    simp only [PyData.depthAll]
    exact Nat.zero_le _
  | x :: xs, h => by
    have h1 := h x List.mem_cons_self
    have h2 := dep_all (xs := xs) fun y hy => h y (List.mem_cons_of_mem _ hy)
    simp only [PyData.depthAll]
    omega
end
section
variable {P : Program} {w : World} {L : Ly} {mg : Str → Option Value} {base : Heap} {f : Addr} {fd : FuncData} {cB cE fI : Addr}
end
end Fv

namespace Fv
open PySem PySem.Spec PyProof.Rows L2 Fr Fw Fs
def badD (x : Str) : Da := .obj 2 [.str x]
def CaW (d1 d2 : Da) (k : Da → Prop) : Prop := Kn d1 ∧ (inB d1 0 8 = false → k (badD "size")) ∧ ∀ n : Nat, n ≤ 8 → d1 = .int n → Kn3 d2 ∧ (¬ LotsP n d2 → k (badD "bases")) ∧
  ∀ (bs : List (List Int)) (m : Nat), (d2 = lti bs ∨ d2 = .tup (bs.map ti)) → bs ≠ [] → (∀ b ∈ bs, LotOk n b ∧ b.length = m) → (¬ CanEx bs → k (badD "exchange")) ∧ (CanEx bs → k .non)
theorem CaW.mono {d1 d2 : Da} {k k' : Da → Prop} (h : ∀ d, k d → k' d) : CaW d1 d2 k → CaW d1 d2 k' := fun ⟨a, b, c⟩ => ⟨a, fun z => h _ (b z), fun n hn e => by
  obtain ⟨c1, c2, c3⟩ := c n hn e
  exact ⟨c1, fun z => h _ (c2 z), fun bs m x1 x2 x3 => ⟨fun z => h _ ((c3 bs m x1 x2 x3).1 z), fun z => h _ ((c3 bs m x1 x2 x3).2 z)⟩⟩⟩
section
variable {P : Program} {w : World} {L : Ly} {mg : Str → Option Value} {base : Heap} {f g : Addr} {fd : FuncData} {cB cE cF : Addr} {G0 : Hp} {d1 d2 : Da}
abbrev s_law_caught : Stmt := topS 23
theorem sc_law_caught : FnScope ["work", "caught", "error"] ["work"] (C8.fnScope s_law_caught) := C8.fnScope_by (by decide +kernel)
end
end Fv

namespace Fw
open PySem PySem.Spec PyProof.Rows L2 Fr
structure Ed where
  n : Nat
  ds : List Da
abbrev Xt := Nat → Addr × Option Str
structure Pe where
  f : List Da → (Nv → Prop) → (Ed → Prop) → Prop
  mono : ∀ {xs : List Da} {k k' : Nv → Prop} {x x' : Ed → Prop}, (∀ d, k d → k' d) → (∀ e, x e → x' e) → f xs k x → f xs k' x'
def OutC (L : Ly) (G H : Hp) (E : XK) (C : Addr) (ds : List Da) : Option Str → Prop
  | none => ds = [] → ∀ G' H', Grow M0 G H G' H' → E (.ref C) none H'
  | some nm => ∀ dx v d G' H', ds = [d] → Grow M0 G H G' H' → G' dx = some (.xd [(nm, v)]) → Dv L G' v d → E (.ref C) (some dx) H'
def OutE (L : Ly) (T : Xt) (G H : Hp) (E : XK) (e : Ed) : Prop := OutC L G H E (T e.n).1 e.ds (T e.n).2
def AnsE (L : Ly) (G H : Hp) (Q : VK) : Nv → Prop
  | .dat d => ∀ v G' H', Grow M0 G H G' H' → Dv L G' v d → Q v H'
  | .new ds => ∀ p us G' H', Grow M0 G H G' H' → H p = none → G' p = none → H' p = some (.lst us) → DvAll L G' us ds → Q (.ref p) H'
  | .new2 yss => ∀ p l G' H', Grow M0 G H G' H' → (∀ x ∈ p :: l.map Prod.fst, H x = none ∧ G' x = none) → (p :: l.map Prod.fst).Nodup → H' p = some (.lst (l.map fun x => V.ref x.1)) → (∀ x ∈ l, H' x.1 = some (.lst x.2)) → Paired (fun x ys => DvAll L G' x.2 ys) l yss → Q (.ref p) H'
  | .any R => ∀ p o G' H', Grow M0 G H G' H' → H p = none → G' p = none → H' p = some o → (R p).f L G' o → Q (.ref p) H'
def spE (L : Ly) (T : Xt) (F : Pe) : L2.Sp := fun vs H Q E => ∃ G ds, Same G H ∧ DvAll L G vs ds ∧ F.f ds (AnsE L G H Q) (OutE L T G H E)
def spE0 (L : Ly) (F : Pe) : L2.Sp := fun vs H Q _ => ∃ G ds, Same G H ∧ DvAll L G vs ds ∧ F.f ds (AnsE L G H Q) fun _ => False
theorem OutC.go {L : Ly} {G H G1 H1 : Hp} {E : XK} {C : Addr} {ds : List Da} {o : Option Str} (g : Grow M0 G H G1 H1) (h : OutC L G H E C ds o) : OutC L G1 H1 E C ds o := by
  cases o with
  | none => exact fun e G' H' g' => h e G' H' (g.trans g')
  | some nm => exact fun dx v d G' H' e g' => h dx v d G' H' e (g.trans g')
theorem OutE.go {L : Ly} {T : Xt} {G H G1 H1 : Hp} {E : XK} {e : Ed} (g : Grow M0 G H G1 H1) (h : OutE L T G H E e) : OutE L T G1 H1 E e := OutC.go g h
theorem AnsE.go {L : Ly} {G H G1 H1 : Hp} {Q : VK} {z : Nv} (g : Grow M0 G H G1 H1) (h : AnsE L G H Q z) : AnsE L G1 H1 Q z := by
  cases z with
  | dat d => exact fun v G' H' g' => h v G' H' (g.trans g')
  | new ds => exact fun p us G' H' g' n => h p us G' H' (g.trans g') (by
      cases q : H p with
      | none => rfl
      | some o => exact absurd n (g.tr p (by rw [q]; simp)))
  | new2 yss => exact fun p l G' H' g' n => h p l G' H' (g.trans g') fun x hx => ⟨by
      cases q : H x with
      | none => rfl
      | some o => exact absurd (n x hx).1 (g.tr x (by rw [q]; simp)), (n x hx).2⟩
  | any R => exact fun p o G' H' g' n => h p o G' H' (g.trans g') (by
      cases q : H p with
      | none => rfl
      | some o => exact absurd n (g.tr p (by rw [q]; simp)))
structure Pse where
  f : En → (En → Prop) → (Nv → Prop) → (Ed → Prop) → Prop
  mono : ∀ {ρ : En} {nx nx' : En → Prop} {k k' : Nv → Prop} {x x' : Ed → Prop}, (∀ r, nx r → nx' r) → (∀ d, k d → k' d) → (∀ e, x e → x' e) → f ρ nx k x → f ρ nx' k' x'
abbrev B0 (G H : Hp) : Bs := ⟨M0, G, H, [], []⟩
def tX (L : Ly) (T : Xt) (G0 H0 : Hp) (E : XK) (g : Pse) : TS := fun D σ H => ∃ G ρ, Rep L (B0 G0 H0) G H σ ρ ∧
  g.f ρ (fun ρ' => ∀ σ' G' H', Rep L (B0 G0 H0) G' H' σ' ρ' → D.nx σ' H') (AnsE L G0 H0 D.rt) (OutE L T G0 H0 E)
section
variable {X : Cx} {L : Ly} {T : Xt} {G0 H0 : Hp} {E : XK} {st : Stmt} {ss : List Stmt}
def xNil : Pse := ⟨fun ρ nx _ _ => nx ρ, fun h _ _ => h _⟩
theorem x_nil (p : PSs X ss tNext) : PSs X ss (tX L T G0 H0 E xNil) := PSs.imp p fun D σ H ⟨G, ρ, r, h⟩ => h σ G H r
theorem x_one {g : Pse} (p : PS X st (tX L T G0 H0 E g)) : PSs X [st] (tX L T G0 H0 E g) := pss_one p
def xSeq (g h : Pse) : Pse := ⟨fun ρ nx k x => g.f ρ (fun ρ1 => h.f ρ1 nx k x) k x, fun a b c => g.mono (fun _ => h.mono a b c) b c⟩
theorem x_seq {g h : Pse} (p : PS X st (tX L T G0 H0 E g)) (q : PSs X ss (tX L T G0 H0 E h)) : PSs X (st :: ss) (tX L T G0 H0 E (xSeq g h)) := PSs.imp (pss_cons p q) fun D σ H ⟨G, ρ, r, k⟩ =>
  ⟨G, ρ, r, g.mono (fun ρ1 h1 σ' G' H' r' => ⟨G', ρ1, r', h1⟩) (fun _ z => z) (fun _ z => z) k⟩
def xW (g : Ps) : Pse := ⟨fun ρ nx k _ => g.f ρ nx (fun d _ => k (.dat d)) (fun _ => False) fun _ => False, fun a b _ => g.mono a (fun _ _ => b _) (fun _ z => z) fun _ z => z⟩
theorem imp_W {g : Ps} : ∀ D σ H, tX L T G0 H0 E (xW g) D σ H → tWS L g D σ H := fun D σ H ⟨G, ρ, r, k⟩ =>
  ⟨_, G, ρ, r, g.mono (fun ρ1 h1 σ' G' H' r' _ => h1 σ' G' H' r') (fun d ρ1 h1 v σ' G' H' r' _ dv => h1 v G' H' r'.gr dv) (fun _ z => z.elim) (fun _ z => z.elim) k⟩
theorem x_up {g : Ps} (p : PS X st (tWS L g)) : PS X st (tX L T G0 H0 E (xW g)) := PS.imp p imp_W
def xIf (c : Pt) (g h : Pse) : Pse := ⟨fun ρ nx k x => c.f ρ fun b ρ1 => if b = true then g.f ρ1 nx k x else h.f ρ1 nx k x, fun a1 a2 a3 => c.mono fun b _ z => by
  by_cases hb : b = true
  · rw [if_pos hb] at z ⊢
    exact g.mono a1 a2 a3 z
  · rw [if_neg hb] at z ⊢
    exact h.mono a1 a2 a3 z⟩
theorem x_if {c : Pt} {g h : Pse} (p : PS X st (tIfS (tWT L c) (tX L T G0 H0 E g) (tX L T G0 H0 E h))) : PS X st (tX L T G0 H0 E (xIf c g h)) := PS.imp p fun D σ H ⟨G, ρ, r, k⟩ =>
  ⟨_, G, ρ, r, c.mono (fun b ρ1 h1 G1 H1 r1 s1 => by
    show if b = true then _ else _
    by_cases hb : b = true
    · rw [if_pos hb] at h1 ⊢
      exact ⟨G1, ρ1, r1, h1⟩
    · rw [if_neg hb] at h1 ⊢
      exact ⟨G1, ρ1, r1, h1⟩) k⟩
def xRetN (g : Pl) : Pse := ⟨fun ρ _ k _ => g.f ρ fun ds _ => k (.new ds), fun _ b _ => g.mono fun _ _ => b _⟩
theorem x_retN {g : Pl} (p : PS X st (tRet (tWN L g))) : PS X st (tX L T G0 H0 E (xRetN g)) := PS.imp p fun D σ H ⟨G, ρ, r, k⟩ =>
  ⟨_, G, ρ, r, g.mono (fun ds ρ1 h1 p us G' H' r' n0 _ _ da => h1 p us G' H' r'.gr n0 r'.kpAt.2.1 r'.kpAt.1 da) k⟩
def xRaise (e : Ed) : Pse := ⟨fun _ _ _ x => x e, fun _ _ c => c _⟩
theorem x_raise0 {n : Nat} (hn : (T n).2 = none) (p : PS X st (fun _ σ H => (fun (cls : Value) (d : Option Addr) (_ : L2.St) H => E cls d H) (.ref (T n).1) none σ H)) : PS X st (tX L T G0 H0 E (xRaise ⟨n, []⟩)) := PS.imp p fun D σ H ⟨G, ρ, r, k⟩ => by
  have k' : OutC L G0 H0 E (T n).1 [] (T n).2 := k
  rw [hn] at k'
  exact k' rfl _ _ r.gr
end
theorem calE {L : Ly} {T : Xt} {P : Program} {w : World} {mg : Str → Option Value} {base : Heap} {x : Str} {st : Stmt} {f : Addr} {fd : FuncData} {N ps : List Str} {k n : Nat} {F : Pe} (Fd : C8.Def L.K mg x st f fd) (b : Binds L.K fd ps []) (S : FnScope N ps (C8.fnScope st))
    (hlen : ∀ ds k x, F.f ds k x → ds.length = ps.length) (hN : ∀ vs : List V, vs.length = ps.length → L2.start N vs = vs.map some ++ List.replicate n none)
    (hbody : ∀ (cdv : Value) (A : Around) (outer : List Env) (s : Shared) (G H : Hp) (E : XK), Room k (A.deeper (envOfC x (C8.fnScope st) s.heap.objs.size f cdv)) → A.guards = some [] →
      Takes (cxOf (L2.CX P w) P w L.K mg base N x (C8.fnScope st) f cdv A outer s H E) (fun cls d _ H => E cls d H) →
      ∃ g : Pse, PSs (cxOf (L2.CX P w) P w L.K mg base N x (C8.fnScope st) f cdv A outer s H E) (C8.fnBody st) (tX L T G H E g) ∧
        ∀ ds kk xx, F.f ds kk xx → g.f (ent ds n) (fun _ => kk (.dat .non)) kk xx) : CalG P w L.K mg base (L2.CX P w) (k + 1) x (spE L T F) := by
  refine ⟨f, fd, ps, mkc Fd.fn S ?_ ?_, Fd.mgf, Fd.kp, b⟩
  · rintro vs H Q E ⟨G, ds, _, dv, h⟩
    exact (dvs_len dv).trans (hlen _ _ _ h)
  · rintro cdv A outer s H vs Q E hcd hr hgu ⟨G, ds, sg, dv, h⟩
    obtain ⟨g, hp, hF⟩ := hbody cdv A outer s G H E hr hgu (takes_of rfl rfl rfl rfl)
    refine ⟨_, hp, ?_⟩
    rw [hN vs ((dvs_len dv).trans (hlen _ _ _ h))]
    exact ⟨G, ent ds n, rep_ent sg dv, g.mono (fun ρ1 h1 σ' G' H' r' => h1 .non G' H' r'.gr .non) (fun _ z => z) (fun _ z => z) (hF ds _ _ h)⟩
theorem calm {L : Ly} {T : Xt} {P : Program} {w : World} {mg : Str → Option Value} {base : Heap} {x : Str} {k : Nat} {F : Pe} (c : CalG P w L.K mg base (L2.CX P w) k x (spE L T F)) : CalG P w L.K mg base C8.CX0 k x (spE0 L F) := by
  obtain ⟨f, fd, ps, Fg, hm, kp, b⟩ := c.ex
  have up : ∀ vs H Q E, spE0 L F vs H Q E → spE L T F vs H Q fun _ _ _ => False := fun vs H Q E ⟨G, ds, s, dv, h⟩ => ⟨G, ds, s, dv, F.mono (fun _ z => z) (fun _ z => z.elim) h⟩
  refine ⟨f, fd, ps, ⟨fun vs H Q E h => Fg.len vs H Q _ (up vs H Q E h), fun A outer s H args us vs Q E a1 a2 a3 a4 a5 h => ?_⟩, hm, kp, b⟩
  refine codeAny_mono (Fg.run A outer s H args us vs Q _ a1 a2 a3 a4 a5 (up vs H Q E h)) fun r s' q => ?_
  cases r with
  | error e => exact (Fv.no_pass q).elim
  | ok fl =>
    cases fl with
    | ret u => exact q
    | next => cases q
    | brk => cases q
    | cont => cases q
def Nv.kD : Nv → (Da → Prop) → Prop
  | .dat d, k => k d
  | .new ds, k => k (.lst ds)
  | .new2 yss, k => k (.lst (yss.map Da.lst))
  | .any _, _ => False
theorem Nv.kD_mono {z : Nv} {k k' : Da → Prop} (h : ∀ d, k d → k' d) (q : z.kD k) : z.kD k' := by
  cases z with
  | dat d => exact h _ q
  | new ds => exact h _ q
  | new2 yss => exact h _ q
  | any R => exact q
section
variable {X : Cx} {L : Ly} {B : Bs} {G H : Hp} {σ : L2.St} {ρ : En} {st : Stmt} {e : Expr}
theorem Rep.kpOf (r : Rep L B G H σ ρ) {p : Addr} {o : HO} (e : H p = some o) (n : G p = none) (h0 : B.H0 p = none) (ho : p ∉ Fw.own ρ) (ht : ∀ t ∈ B.T, t.1 ≠ p) : Rep L (B.kp p o) G H σ ρ :=
  ⟨r.gr, r.mh, r.env, r.nd, r.fm, r.fd, r.f2, fun q hq => by
    rcases List.mem_cons.mp hq with rfl | hq
    · exact ⟨e, n, fun z => (r.mh p z).1 h0, ho⟩
    · exact r.ks q hq, r.tb, fun t ht' => ⟨(r.tg t ht').1, (r.tg t ht').2.1, fun q hq => by
    rcases List.mem_cons.mp hq with rfl | hq
    · exact fun z => ht t ht' z.symm
    · exact (r.tg t ht').2.2 q hq⟩, r.mt, r.ft⟩
theorem Rep.made (r : Rep L B G H σ ρ) {G' H' : Hp} {p : Addr} {us : List V} (gr : Grow M0 G H G' H') (n : H p = none) (n' : G' p = none) (e : H' p = some (.lst us)) : Rep L (B.kp p (.lst us)) G' H' σ ρ ∧ B.H0 p = none ∧ ∀ q ∈ B.ks, q.1 ≠ p :=
  ⟨(r.go gr).kpOf e n' (r.h0 n) (fun z => r.own p z n) (fun t ht z => (r.tb t ht).tk (by rw [z]; exact n)), r.h0 n, fun q hq z => by
    have := (r.ks q hq).1
    rw [z, n] at this
    cases this⟩
theorem Rep.madeA (r : Rep L B G H σ ρ) {G' H' : Hp} {p : Addr} {o : HO} (gr : Grow M0 G H G' H') (n : H p = none) (n' : G' p = none) (e : H' p = some o) : Rep L (B.kp p o) G' H' σ ρ ∧ B.H0 p = none ∧ ∀ q ∈ B.ks, q.1 ≠ p :=
  ⟨(r.go gr).kpOf e n' (r.h0 n) (fun z => r.own p z n) (fun t ht z => (r.tb t ht).tk (by rw [z]; exact n)), r.h0 n, fun q hq z => by
    have := (r.ks q hq).1
    rw [z, n] at this
    cases this⟩
theorem Rep.made2 (r : Rep L B G H σ ρ) {G' H' : Hp} {p : Addr} {l : List (Addr × List V)} {yss : List (List Da)} (gr : Grow M0 G H G' H') (n : ∀ x ∈ p :: l.map Prod.fst, H x = none ∧ G' x = none) (nd : (p :: l.map Prod.fst).Nodup)
    (e : H' p = some (.lst (l.map fun x => V.ref x.1))) (e2 : ∀ x ∈ l, H' x.1 = some (.lst x.2)) (d : Paired (fun x ys => DvAll L G' x.2 ys) l yss) : Rep L { B with ks := outK p l ++ B.ks } G' H' σ ρ ∧ Kept2 L B G' p l yss := by
  have r1 := r.go gr
  have key : ∀ q ∈ outK p l, H' q.1 = some q.2 ∧ q.1 ∈ p :: l.map Prod.fst := fun q hq => by
    rcases List.mem_cons.mp hq with h | h
    · rw [h]; exact ⟨e, List.mem_cons_self⟩
    · obtain ⟨x, hx, rfl⟩ := List.mem_map.mp h
      exact ⟨e2 x hx, List.mem_cons_of_mem _ (List.mem_map.mpr ⟨x, hx, rfl⟩)⟩
  refine ⟨⟨r1.gr, r1.mh, r1.env, r1.nd, r1.fm, r1.fd, r1.f2, fun q hq => ?_, r1.tb, fun t ht => ⟨(r1.tg t ht).1, (r1.tg t ht).2.1, fun q hq => ?_⟩, r1.mt, r1.ft⟩, fun x hx => ⟨r.h0 (n x hx).1, fun q hq z => ?_⟩, nd, d⟩
  · rcases List.mem_append.mp hq with hq | hq
    · obtain ⟨k1, k2⟩ := key q hq
      obtain ⟨k3, k4⟩ := n _ k2
      exact ⟨k1, k4, fun z => (r.mh _ z).1 (r.h0 k3), fun z => r.own _ z k3⟩
    · exact r1.ks q hq
  · rcases List.mem_append.mp hq with hq | hq
    · obtain ⟨k1, k2⟩ := key q hq
      exact fun z => (r.tb t ht).tk (by rw [← z]; exact (n _ k2).1)
    · exact (r1.tg t ht).2.2 q hq
  · have := (r.ks q hq).1
    rw [z, (n x hx).1] at this
    cases this
def pE (g : Pl) (F : Pe) : Px := ⟨fun ρ k => g.f ρ fun ds ρ1 => F.f ds (fun z => z.kD fun d => k d ρ1) fun _ => False, fun h => g.mono fun _ _ => F.mono (fun _ => Nv.kD_mono fun _ => h _ _) fun _ z => z⟩
def tE0 (L : Ly) (F : Pe) (t : TA) : TE := fun σ H Q => t σ H fun vs H1 => spE0 L F vs H1 Q fun _ _ _ => False
theorem imp_E {g : Pl} {F : Pe} : ∀ σ H Q, tW L (pE g F) σ H Q → tE0 L F (tWA L g) σ H Q := fun σ H Q ⟨B, G, ρ, r0, h⟩ =>
  ⟨B, G, ρ, r0, g.mono (fun xs ρ1 h1 vs G1 H1 r1 s1 d1 => ⟨G1, xs, r1.gh, d1, F.mono (fun z hz => by
    cases z with
    | dat d => exact fun v G' H' gr dv => hz v G' H' (r1.go gr) (s1.trans gr.gg) dv
    | new ds =>
      intro p us G' H' gr n n' e da
      obtain ⟨R, q1, q2⟩ := r1.made gr n n' e
      exact hz (.ref p) _ _ (R.kpDone q1 q2) ((s1.trans gr.gg).trans (same_upd n')) (.lst upd_same (dvs_same (same_upd n') da))
    | new2 yss =>
      intro p l G' H' gr n nd e e2 dd
      obtain ⟨R, K⟩ := r1.made2 gr n nd e e2 dd
      obtain ⟨G2, R2, s2, dv⟩ := R.kpDone2 K
      exact hz (.ref p) _ _ R2 ((s1.trans gr.gg).trans s2) dv
    | any R => exact hz.elim) (fun _ z => z) h1⟩) h⟩
theorem w_E {g : Pl} {F : Pe} (p : PE X e (tE0 L F (tWA L g))) : PE X e (tW L (pE g F)) := PE.imp p imp_E
end
section
variable {X : Cx} {L : Ly} {k j : Nat} {x : Str} {p pos : Pos} {e : Expr} {es : List Expr} {F : Pe} {t : TA}
theorem pe_E (c : CalG X.prog X.w X.K X.mg X.base C8.CX0 k x (spE0 L F)) (hr : Room j X.A) (hk : k ≤ j) (hgu : X.A.guards = some []) (hg : Gl X x) (ha : PA X (e :: es) t)
    (hdb : (x == ("__debug__" : Str)) = false := by decide) (he : starEach (e :: es) X.env = (false, eval e X.env) :: starEach es X.env := by rfl)
    (hpl : (backTo pos (starEach es X.env)).any (·.1) = false := by rfl) : PE X (.Call (.Name x p) (e :: es) [] pos) (tE0 L F t) :=
  PE.imp (pe_cgS (E := fun _ _ _ _ => False) c hr hk hgu hg (fun _ _ _ _ _ _ _ z => z.elim) ha hdb he hpl) fun σ H Q h => h
structure CalK (P : Program) (w : World) (K : Frag) (mg : Str → Option Value) (base : Heap) (CX : CXT) (k : Nat) (x : Str) (sp : L2.Sp) (ks : List Str) (pv : List V → List V) : Prop where
  ex : ∃ (f : Addr) (fd : FuncData) (ps : List Str), FnG P w K mg base CX k f fd ps sp ∧ mg x = some (.ref f) ∧ PySem.W.keepIn K (.ref f) = true ∧
    ∀ (s : Shared) (vs : List V) (us : List Value), K.In s.heap → Vals vs us → (pv vs).length = ps.length → ∃ us', BindsTo s fd ⟨[], ks.zip us⟩ (ps.zip us') ∧ Vals (pv vs) us'
theorem pe_EK {pv : List V → List V} {ks : List Str} {kws : List Keyword} (c : CalK X.prog X.w X.K X.mg X.base C8.CX0 k x (spE0 L F) ks pv) (hr : Room j X.A) (hk : k ≤ j) (hgu : X.A.guards = some []) (hg : Gl X x) (hkw : PK X kws t)
    (hall : (backToKw pos (keywordEach kws X.env)).all (·.1.isSome) = true := by rfl) (hks : (backToKw pos (keywordEach kws X.env)).filterMap (·.1) = ks := by rfl) (hdb : (x == ("__debug__" : Str)) = false := by decide)
    (hpl : ((backTo pos (starEach [] X.env)).any (·.1) || (backToKw pos (keywordEach kws X.env)).any (·.1.isNone)) = false := by rfl) :
    PE X (.Call (.Name x p) [] kws pos) (fun σ H Q => t σ H fun vs H1 => spE0 L F (pv vs) H1 Q fun _ _ _ => False) := by
  obtain ⟨f, fd, ps, Fg, hm, kp, b⟩ := c.ex
  constructor
  intro pins s σ H Q I h
  refine wpAny_Call_Name_kw (ld_glob I hg hm ?_ hdb)
  refine PySem.W.callWith_KW0 (h₀ := X.base) I.ok.mod.kin kp hall (thn (hkw.run pos pins s σ H _ I h) ?_) hpl
  rintro us s1 ⟨vs, H1, I1, r, q⟩
  refine ⟨I1.kIn, ?_⟩
  rw [hks]
  obtain ⟨us', hbb, r'⟩ := b s1 vs us I1.kIn r (Fg.len _ _ _ _ q)
  have z := Fg.run X.A X.stack s1 H1 ⟨[], ks.zip us⟩ us' (pv vs) Q _ (hr.mono hk) hgu I1.env0 hbb r' q
  refine wpAny_call (codeAny_mono z ?_)
  rintro (er | fl) s' hq
  · exact (show False from hq).elim
  · cases fl with
    | ret u => exact I1.after hq
    | next => cases hq
    | brk => cases hq
    | cont => cases hq
theorem dvs_swap {H : Hp} {vs : List V} {ds : List Da} (h : DvAll L H vs ds) : DvAll L H vs.reverse ds.reverse := by
  have key : ∀ {vs : List V} {ds : List Da}, DvAll L H vs ds → DvAll L H vs.reverse ds.reverse := by
    intro vs
    induction vs with
    | nil => intro ds h; cases h; exact .nil
    | cons v r ih =>
      intro ds h
      cases h with
      | cons a t => rw [List.reverse_cons, List.reverse_cons]; exact dvs_app (ih t) (.cons a .nil)
  exact key h
def plRev (g : Pl) : Pl := ⟨fun ρ k => g.f ρ fun ds ρ1 => k ds.reverse ρ1, fun h => g.mono fun _ _ => h _ _⟩
theorem w_EK {ks : List Str} {kws : List Keyword} {g : Pl} (c : CalK X.prog X.w X.K X.mg X.base C8.CX0 k x (spE0 L F) ks List.reverse) (hr : Room j X.A) (hk : k ≤ j) (hgu : X.A.guards = some []) (hg : Gl X x) (hkw : PK X kws (tWA L g))
    (hall : (backToKw pos (keywordEach kws X.env)).all (·.1.isSome) = true := by rfl) (hks : (backToKw pos (keywordEach kws X.env)).filterMap (·.1) = ks := by rfl) (hdb : (x == ("__debug__" : Str)) = false := by decide)
    (hpl : ((backTo pos (starEach [] X.env)).any (·.1) || (backToKw pos (keywordEach kws X.env)).any (·.1.isNone)) = false := by rfl) :
    PE X (.Call (.Name x p) [] kws pos) (tW L (pE (plRev g) F)) :=
  PE.imp (pe_EK c hr hk hgu hg hkw hall hks hdb hpl) fun σ H Q ⟨B, G, ρ, r0, h⟩ => by
    refine ⟨B, G, ρ, r0, g.mono ?_ h⟩
    intro xs ρ1 h1 vs G1 H1 r1 s1 d1
    refine ⟨G1, xs.reverse, r1.gh, dvs_swap d1, F.mono ?_ (fun _ z => z) h1⟩
    intro z hz
    cases z with
    | dat d => exact fun v G' H' gr dv => hz v G' H' (r1.go gr) (s1.trans gr.gg) dv
    | new ds =>
      intro p us G' H' gr n n' e da
      obtain ⟨R, q1, q2⟩ := r1.made gr n n' e
      exact hz (.ref p) _ _ (R.kpDone q1 q2) ((s1.trans gr.gg).trans (same_upd n')) (.lst upd_same (dvs_same (same_upd n') da))
    | new2 yss =>
      intro p l G' H' gr n nd e e2 dd
      obtain ⟨R, K⟩ := r1.made2 gr n nd e e2 dd
      obtain ⟨G2, R2, s2, dv⟩ := R.kpDone2 K
      exact hz (.ref p) _ _ R2 ((s1.trans gr.gg).trans s2) dv
    | any R => exact hz.elim
theorem w_knil : PK X [] (tWA L pN) := ⟨fun pos pins s σ H Q I ⟨B, G, ρ, r, h⟩ => pk_nil.run pos pins s σ H Q I (h [] G H r (Same.refl _) .nil)⟩
theorem w_kcons {nm : Option Str} {kpos : Pos} {kws : List Keyword} {g : Px} {gs : Pl} (ha : PE X e (tW L g)) (hr : PK X kws (tWA L gs)) : PK X (⟨nm, e, kpos⟩ :: kws) (tWA L (pK g gs)) :=
  ⟨fun pos pins s σ H Q I ⟨B, G, ρ, r0, h⟩ => (pk_cons ha hr).run pos pins s σ H Q I ⟨B, G, ρ, r0, g.mono (fun x ρ1 h1 v G1 H1 r1 s1 d1 => ⟨B, G1, ρ1, r1, gs.mono (fun ds ρ2 h2 vs G2 H2 r2 s2 d2 => h2 (v :: vs) G2 H2 r2 (s1.trans s2) (.cons (dv_same s2 d1) d2)) h1⟩) h⟩⟩
theorem calK1 {P : Program} {w : World} {K : Frag} {mg : Str → Option Value} {base : Heap} {x : Str} {k : Nat} {f : Addr} {fd : FuncData} {p1 : Str} {sp : L2.Sp} (Fg : FnG P w K mg base C8.CX0 k f fd [p1] sp) (hm : mg x = some (.ref f)) (kp : PySem.W.keepIn K (.ref f) = true)
    (hb : ∀ (s : Shared) (u : Value), K.In s.heap → BindsTo s fd ⟨[], [(p1, u)]⟩ [(p1, u)]) : CalK P w K mg base C8.CX0 k x sp [p1] List.reverse := ⟨f, fd, [p1], Fg, hm, kp, fun s vs us hK r hl => by
  match vs, us, r with
  | [], _, _ => cases hl
  | [v], _, .cons (b := u) ru .nil => exact ⟨[u], hb s u hK, .cons ru .nil⟩
  | _ :: _ :: _, _, _ => simp at hl⟩
end
end Fw

namespace Fw
open PySem PySem.Spec PyProof.Rows L2 Fr
section
variable {L : Ly} {B : Bs} {G H : Hp} {σ : L2.St} {ρ : En}
theorem slot_nd : ∀ {ρ : En} {s : Option Sl}, s ∈ ρ → (own ρ).Nodup → (slA s).Nodup
  | a :: r, s, h, n => by
    have n' : (slA a ++ own r).Nodup := n
    obtain ⟨n1, n2, _⟩ := List.nodup_append.mp n'
    rcases List.mem_cons.mp h with e | h
    · rw [e]; exact n1
    · exact slot_nd h n2
theorem own_same2 {s t : Option Sl} (e : slA s = slA t) : ∀ {ρ : En} {i : Nat}, ρ[i]? = some s → own (ρ.set i t) = own ρ
  | [], _, h => by simp at h
  | x :: r, 0, h => by
    simp at h
    subst h
    show slA t ++ own r = slA x ++ own r
    rw [e]
  | x :: r, i + 1, h => by
    show slA x ++ own (r.set i t) = slA x ++ own r
    rw [own_same2 e (by simpa using h)]
theorem paired_off2 {F F' : Option V → Option Sl → Prop} {s t' : Option Sl} {v : Option V} : ∀ {σ : L2.St} {ρ : En} {i : Nat}, Paired F σ ρ → ρ[i]? = some s → σ[i]? = some v → (own ρ).Nodup →
    (∀ a b, (∀ x ∈ slA s, x ∉ slA b) → b ∈ ρ → F a b → F' a b) → F' v t' → Paired F' σ (ρ.set i t')
  | _, _, _, .nil, h, _, _, _, _ => by simp at h
  | _, x :: r, 0, .cons g t, h, hs, nd, f, h1 => by
    simp at h hs
    subst h hs
    have nd' : (slA x ++ own r).Nodup := nd
    obtain ⟨_, _, n3⟩ := List.nodup_append.mp nd'
    exact .cons h1 (paired_imp t fun a b hb hh => f a b (fun y hy z => n3 y hy y (own_mem hb z) rfl) (List.mem_cons_of_mem _ hb) hh)
  | _, x :: r, i + 1, .cons g t, h, hs, nd, f, h1 => by
    have hi : r[i]? = some s := by simpa using h
    have nd' : (slA x ++ own r).Nodup := nd
    obtain ⟨_, n2, n3⟩ := List.nodup_append.mp nd'
    have off : ∀ y ∈ slA s, y ∉ slA x := fun y hy z => n3 y z y (own_mem (List.mem_of_getElem? hi) hy) rfl
    exact .cons (f _ _ off List.mem_cons_self g) (paired_off2 t hi (by simpa using hs) n2 (fun a b hb hm hh => f a b hb (List.mem_cons_of_mem _ hm) hh) h1)
theorem gr2_at (r : Rep L B G H σ ρ) {i : Nat} {p : Addr} {qs : List (Addr × List Da)} (h : ρ[i]? = some (some (.gr2 p qs))) :
    σ[i]? = some (some (.ref p)) ∧ G p = none ∧ H p = some (.lst (qs.map fun q => V.ref q.1)) ∧ (∀ q ∈ qs, G q.1 = none ∧ ∃ vs, H q.1 = some (.lst vs) ∧ DvAll L G vs q.2) ∧ (∀ b ∈ slA (some (Sl.gr2 p qs)), B.H0 b = none ∧ ¬ B.M b) ∧ (p :: qs.map Prod.fst).Nodup := by
  obtain ⟨s, hs, hv⟩ := paired_get r.env h
  have hm := List.mem_of_getElem? h
  cases s with
  | none => exact (reps_none hv).elim
  | some v =>
    obtain ⟨rfl, h1, h2, h3⟩ := hv
    exact ⟨hs, h1, h2, h3, fun b hb => ⟨r.f2 p qs hm b hb, fun z => (r.mh b z).1 (r.f2 p qs hm b hb)⟩, slot_nd hm r.nd⟩
theorem Rep.chg2 (r : Rep L B G H σ ρ) {i k : Nat} {p q : Addr} {qs : List (Addr × List Da)} {ds es : List Da} {vs : List V} (hi : ρ[i]? = some (some (.gr2 p qs))) (hk : qs[k]? = some (q, ds)) (h : DvAll L G vs es) :
    Rep L B G (upd H q (.lst vs)) σ (ρ.set i (some (.gr2 p (qs.set k (q, es))))) := by
  obtain ⟨hs, hG, hp, hq, h0, nd⟩ := gr2_at r hi
  have mq : (q, ds) ∈ qs := List.mem_of_getElem? hk
  have oq : q ∈ slA (some (Sl.gr2 p qs)) := List.mem_cons_of_mem _ (List.mem_map.mpr ⟨_, mq, rfl⟩)
  obtain ⟨q0, qM⟩ := h0 q oq
  obtain ⟨qG, xs, qx, _⟩ := hq (q, ds) mq
  have qG : G q = none := qG
  obtain ⟨pn, nd2⟩ := List.nodup_cons.mp nd
  have pq : p ≠ q := fun z => pn (by rw [z]; exact List.mem_map.mpr ⟨_, mq, rfl⟩)
  have kl : k < qs.length := (List.getElem?_eq_some_iff.mp hk).1
  have ke := (List.getElem?_eq_some_iff.mp hk).2
  have efst : (qs.set k (q, es)).map Prod.fst = qs.map Prod.fst := by
    rw [List.map_set]
    refine List.ext_getElem? fun j => ?_
    rw [List.getElem?_set]
    split
    · rename_i e
      subst e
      rw [List.length_map, if_pos kl, List.getElem?_map, hk]
      rfl
    · rfl
  have esl : slA (some (Sl.gr2 p qs)) = slA (some (Sl.gr2 p (qs.set k (q, es)))) := by
    show p :: qs.map Prod.fst = p :: (qs.set k (q, es)).map Prod.fst
    rw [efst]
  have gw : Grow B.M B.G0 B.H0 G (upd H q (.lst vs)) := by
    refine ⟨r.gr.gg, fun b o e => ?_, fun b o n e => ?_, fun b e => trk_upd b (r.gr.tr b e), r.gr.nw⟩
    · rw [upd_ne (ne_of_none e qG)]
      exact r.gh _ _ e
    · rw [upd_ne (ne_of_none e q0)]
      exact r.gr.hh b o n e
  have hmem := List.mem_of_getElem? hi
  refine ⟨gw, r.mh, ?_, by rw [own_same2 esl hi]; exact r.nd, ?_, ?_, ?_, ?_, fun t ht => (r.tb t ht).go (Same.refl _) fun o ho => ?_, fun t ht => ⟨(r.tg t ht).1, by rw [own_same2 esl hi]; exact (r.tg t ht).2.1, (r.tg t ht).2.2⟩, r.mt, fun T hm => (mem_set hm).elim (r.ft T) fun z => by cases z⟩
  · refine paired_off2 r.env hi hs r.nd (fun a b hoff hb hh => ?_) ⟨rfl, hG, ?_, fun x hx => ?_⟩
    · have hqb := hoff q oq
      refine hh.grow (Same.refl _) (fun q' fs e => ?_) (fun d l c e => ?_) fun p2 qs2 e b2 hb2 => ?_
      · subst e
        refine ⟨upd_ne (fun z => hqb (by rw [← z]; simp [slA])), ?_⟩
        cases a with
        | none => exact (reps_none hh).elim
        | some v => exact hh.2.1
      · subst e
        cases a with
        | none => exact (reps_none hh).elim
        | some v =>
          obtain ⟨_, n1, n2, q1, q2, q3, q4, D⟩ := hh
          have off : ∀ b, b ∈ slA (some (Sl.drw d l c)) → b ≠ q := fun b hb z => hqb (by rw [← z]; exact hb)
          exact ⟨n1, n2, q1, q2, q3, q4, by rw [upd_ne (off d (by simp [slA]))]; exact D.hd, by rw [upd_ne (off l (by simp [slA]))]; exact D.hl, by rw [upd_ne (off c (by simp [slA]))]; exact D.hc, D.ne⟩
      · subst e
        exact ⟨upd_ne (fun z => hqb (by rw [← z]; exact hb2)), hh.g2 b2 hb2⟩
    · rw [upd_ne pq, hp]
      have e2 : (qs.set k (q, es)).map (fun q => V.ref q.1) = qs.map fun q => V.ref q.1 := by
        have := congrArg (List.map V.ref) efst
        rw [List.map_map, List.map_map] at this
        exact this
      rw [e2]
    · obtain ⟨j, hj⟩ := List.getElem?_of_mem hx
      rw [List.getElem?_set] at hj
      split at hj
      · cases hj
        exact ⟨qG, vs, upd_same, h⟩
      · rename_i ne
        have hx2 := List.mem_of_getElem? hj
        obtain ⟨g1, ws, g2, g3⟩ := hq x hx2
        refine ⟨g1, ws, ?_, g3⟩
        have : x.1 ≠ q := fun z => by
          have a1 : (qs.map Prod.fst)[j]? = some q := by rw [List.getElem?_map, hj]; exact congrArg some z
          have a2 : (qs.map Prod.fst)[k]? = some q := by rw [List.getElem?_map, hk]; rfl
          exact ne ((List.getElem?_inj (by rw [List.length_map]; exact kl) nd2).mp (a2.trans a1.symm))
        rw [upd_ne this]
        exact g2
  · intro q' fs hm
    rcases mem_set hm with hm | hm
    · exact r.fm q' fs hm
    · cases hm
  · intro d l c hm
    rcases mem_set hm with hm | hm
    · exact r.fd d l c hm
    · cases hm
  · intro p2 qs2 hm
    rcases mem_set hm with hm | hm
    · exact r.f2 p2 qs2 hm
    · cases hm
      intro b hb
      rw [← esl] at hb
      exact (h0 b hb).1
  · intro x hx
    obtain ⟨h1, h2, h3, h4⟩ := r.ks x hx
    rw [own_same2 esl hi]
    refine ⟨?_, h2, h3, h4⟩
    rw [upd_ne (fun z => h4 (by rw [z]; exact own_mem hmem oq))]
    exact h1
  · rw [upd_ne (fun z => (r.tg t ht).2.1 (by rw [z]; exact own_mem hmem oq))]
    exact ho
theorem Grow.doneL {M : Addr → Prop} {G0 H0 G H : Hp} (g : Grow M G0 H0 G H) : ∀ {l : List (Addr × List V)}, (∀ q ∈ l, H0 q.1 = none ∧ H q.1 = some (.lst q.2)) → Grow M G0 H0 (updL G l) H
  | [], _ => g
  | (q, vs) :: r, h => by
    have h1 := h (q, vs) List.mem_cons_self
    exact (Grow.doneL g (l := r) fun x hx => h x (List.mem_cons_of_mem _ hx)).done h1.1 h1.2
theorem Rep.frz2 (r : Rep L B G H σ ρ) {i : Nat} {p : Addr} {qs : List (Addr × List Da)} (hi : ρ[i]? = some (some (.gr2 p qs))) :
    ∃ G', Rep L B G' H σ (ρ.set i (some (.dat (.lst (qs.map fun q => .lst q.2))))) ∧ Same G G' ∧ Dv L G' (.ref p) (.lst (qs.map fun q => .lst q.2)) := by
  obtain ⟨hs, hG, hp, hq, h0, nd⟩ := gr2_at r hi
  obtain ⟨pn, nd2⟩ := List.nodup_cons.mp nd
  obtain ⟨l, l1, l2⟩ : ∃ l : List (Addr × List V), l.map Prod.fst = qs.map Prod.fst ∧ ∀ (j : Nat) (q : Addr) (ds : List Da), qs[j]? = some (q, ds) → ∃ vs, l[j]? = some (q, vs) ∧ H q = some (.lst vs) ∧ DvAll L G vs ds := by
    clear pn nd2 nd hp hi hs h0
    induction qs with
    | nil => exact ⟨[], rfl, fun j q ds h => by simp at h⟩
    | cons x t ih =>
      obtain ⟨l, a, b⟩ := ih fun q hq' => hq q (List.mem_cons_of_mem _ hq')
      obtain ⟨_, vs, h1, h2⟩ := hq x List.mem_cons_self
      refine ⟨(x.1, vs) :: l, by rw [List.map_cons, List.map_cons, a], fun j q ds h => ?_⟩
      cases j with
      | zero =>
        simp at h
        subst h
        exact ⟨vs, rfl, h1, h2⟩
      | succ j => exact b j q ds (by simpa using h)
  have lq : ∀ x ∈ l, ∃ ds, (x.1, ds) ∈ qs ∧ H x.1 = some (.lst x.2) ∧ DvAll L G x.2 ds := fun x hx => by
    obtain ⟨j, hj⟩ := List.getElem?_of_mem hx
    have e : (qs.map Prod.fst)[j]? = some x.1 := by rw [← l1, List.getElem?_map, hj]; rfl
    rw [List.getElem?_map] at e
    cases hqj : qs[j]? with
    | none => rw [hqj] at e; cases e
    | some y =>
      rw [hqj] at e
      have e : y.1 = x.1 := Option.some.inj e
      obtain ⟨vs, h1, h2, h3⟩ := l2 j y.1 y.2 hqj
      rw [hj] at h1
      have h1 := Option.some.inj h1
      subst h1
      exact ⟨y.2, List.mem_of_getElem? hqj, h2, h3⟩
  have pl : p ∉ l.map Prod.fst := by rw [l1]; exact pn
  have ndl : (l.map Prod.fst).Nodup := by rw [l1]; exact nd2
  let l' : List (Addr × List V) := (p, qs.map fun q => V.ref q.1) :: l
  have hl' : l'.map Prod.fst = p :: qs.map Prod.fst := by
    show p :: l.map Prod.fst = _
    rw [l1]
  have off : ∀ {b}, b ∉ slA (some (Sl.gr2 p qs)) → updL G l' b = G b := fun h => updL_ne (by rw [hl']; exact h)
  have own0 : ∀ b ∈ slA (some (Sl.gr2 p qs)), G b = none := fun b hb => by
    obtain ⟨s, hs', hv⟩ := paired_get r.env hi
    exact hv.g2 b hb
  have sg : Same G (updL G l') := fun b o e => by
    rw [off fun z => by rw [own0 b z] at e; cases e]
    exact e
  have dl : DvAll L (updL G l') (qs.map fun q => V.ref q.1) (qs.map fun q => .lst q.2) := by
    have key : ∀ t : List (Addr × List Da), (∀ x ∈ t, x ∈ qs) → DvAll L (updL G l') (t.map fun q => V.ref q.1) (t.map fun q => .lst q.2) := by
      intro t
      induction t with
      | nil => intro _; exact .nil
      | cons x t ih =>
        intro h
        obtain ⟨j, hj⟩ := List.getElem?_of_mem (h x List.mem_cons_self)
        obtain ⟨vs, h1, h2, h3⟩ := l2 j x.1 x.2 hj
        refine .cons (.lst (xs := vs) ?_ (dvs_same sg h3)) (ih fun y hy => h y (List.mem_cons_of_mem _ hy))
        exact updL_at (by show (p :: l.map Prod.fst).Nodup; exact List.nodup_cons.mpr ⟨pl, ndl⟩) (List.mem_cons_of_mem _ (List.mem_of_getElem? h1))
    exact key qs fun x hx => hx
  have dv : Dv L (updL G l') (.ref p) (.lst (qs.map fun q => .lst q.2)) := .lst upd_same dl
  have hmem := List.mem_of_getElem? hi
  refine ⟨updL G l', ⟨Grow.doneL r.gr fun x hx => ?_, r.mh, ?_, r.nd.sublist (own_set rfl), ?_, ?_, ?_, ?_, r.tb.go sg (Same.refl _), fun t ht => ⟨?_, fun z => (r.tg t ht).2.1 ((own_set rfl).subset z), (r.tg t ht).2.2⟩, r.mt, fun T hm => (mem_set hm).elim (r.ft T) fun z => by cases z⟩, sg, dv⟩
  · rcases List.mem_cons.mp hx with e | hx
    · subst e
      exact ⟨(h0 p List.mem_cons_self).1, hp⟩
    · obtain ⟨ds, h1, h2, _⟩ := lq x hx
      exact ⟨(h0 x.1 (List.mem_cons_of_mem _ (List.mem_map.mpr ⟨_, h1, rfl⟩))).1, h2⟩
  · refine paired_off2 r.env hi hs r.nd (fun a b hoff hb hh => ?_) dv
    have ob : ∀ y ∈ slA b, updL G l' y = G y := fun y hy => off fun z => hoff y z hy
    refine hh.grow sg (fun q' fs e => ?_) (fun d l c e => ?_) fun p2 qs2 e b2 hb2 => ?_
    · subst e
      refine ⟨rfl, ?_⟩
      rw [ob q' (by simp [slA])]
      cases a with
      | none => exact (reps_none hh).elim
      | some v => exact hh.2.1
    · subst e
      cases a with
      | none => exact (reps_none hh).elim
      | some v =>
        obtain ⟨_, n1, n2, D⟩ := hh
        exact ⟨by rw [ob d (by simp [slA])]; exact n1, by rw [ob l (by simp [slA])]; exact n2, D⟩
    · subst e
      exact ⟨rfl, by rw [ob b2 hb2]; exact hh.g2 b2 hb2⟩
  · intro q' fs hm
    rcases mem_set hm with hm | hm
    · exact r.fm q' fs hm
    · cases hm
  · intro d l c hm
    rcases mem_set hm with hm | hm
    · exact r.fd d l c hm
    · cases hm
  · intro p2 qs2 hm
    rcases mem_set hm with hm | hm
    · exact r.f2 p2 qs2 hm
    · cases hm
  · intro x hx
    obtain ⟨h1, h2, h3, h4⟩ := r.ks x hx
    refine ⟨h1, ?_, h3, fun z => h4 ((own_set rfl).subset z)⟩
    rw [off fun z => h4 (own_mem hmem z)]
    exact h2
  · rw [off fun z => (r.tg t ht).2.1 (own_mem hmem z)]
    exact (r.tg t ht).1
end
section
variable {X : Cx} {L : Ly} {st : Stmt} {e : Expr}
def pFz2 (i : Nat) : Px := ⟨fun ρ k => ∃ (p : Addr) (qs : List (Addr × List Da)), ρ[i]? = some (some (.gr2 p qs)) ∧ k (.lst (qs.map fun q : Addr × List Da => Da.lst q.2)) (ρ.set i (some (.dat (.lst (qs.map fun q : Addr × List Da => Da.lst q.2))))), fun h ⟨p, ds, e, q⟩ => ⟨p, ds, e, h _ _ q⟩⟩
theorem w_frz2 {i : Nat} (p : PE X e (tVar i)) : PE X e (tW L (pFz2 i)) := PE.imp p fun σ H Q ⟨B, G, ρ, r, a, qs, hi, h⟩ => by
  obtain ⟨hs, _⟩ := gr2_at r hi
  obtain ⟨G', r', s, dv⟩ := r.frz2 hi
  exact ⟨_, hs, h _ G' H r' s dv⟩
end
end Fw

namespace Fw
open PySem PySem.Spec PyProof.Rows L2 Fr
section
variable {X : Cx} {L : Ly} {T : Xt} {G0 H0 : Hp} {E : XK} {st : Stmt} {e : Expr} {vs : List Nat}
theorem w_lc2 {src : Pl} {g : TG} {t : Tg} {el : Pl} (hg : SndV L g t vs) (p : PE X e (tLc (tWI L src) g (tWT L pYes) (tWN L el) vs)) : PE X e (tWN2 L (pLc2 src t el vs)) := PE.imp p (imp_lc2 hg)
end
section
variable {X : Cx} {L : Ly} {B : Bs} {G H : Hp} {σ : L2.St} {ρ : En} {st : Stmt}
end
end Fw

namespace Fw
open PySem PySem.Spec PyProof.Rows L2 Fr
def FnO (f : Addr) (o : Obj) : HO := .ext fun h => h.get? f = some o
section
variable {X : Cx} {L : Ly} {B : Bs} {pins : List (Addr × Obj)} {G H : Hp} {σ : L2.St} {ρ : En} {s : Shared} {a : Addr} {oe : Obj}
end
abbrev Lm := Arguments × Expr × Scope
def encV : List (Str × Addr) → List V
  | [] => []
  | (y, c) :: r => .str y :: .int (c : Nat) :: encV r
def ObLam (M : Nat → Lm) (q : Str) (G : Hp) (v : V) (vs : List V) : Prop := ∃ (i : Nat) (cl : List (Str × Addr)) (f c : Addr) (pm ctv : Value), v = .ref f ∧ vs = .int (i : Nat) :: encV cl ∧
  G f = some (FnO f (PySem.W.kla_obj "<lambda>" q (M i).1 (M i).2.1 (M i).2.2 cl pm c ctv)) ∧ G c = some (LamX.CodeO c q)
mutual
def noF : Da → Bool
  | .obj n xs => decide (n ≤ 1) && noFs xs
  | .lst xs => noFs xs
  | .tup xs => noFs xs
  | _ => true
def noFs : List Da → Bool
  | [] => true
  | x :: r => noF x && noFs r
end
structure LyF (L : Ly) (M : Nat → Lm) (q : Str) : Prop where
  lam : ∀ {H v vs}, L.Ob 9 H v vs ↔ ObLam M q H v vs
  dl : ∀ {n H v vs a φ}, n ≤ 1 → H a = some (.ext φ) → L.Ob n H v vs → L.Ob n (del H a) v vs
section
variable {L : Ly} {M : Nat → Lm} {q : Str} {G : Hp} {a : Addr} {φ : Heap → Prop}
mutual
theorem dv_del (LF : LyF L M q) (e : G a = some (.ext φ)) : ∀ {v : V} {d : Da}, Dv L G v d → noF d = true → Dv L (del G a) v d
  | _, _, .non, _ => .non
  | _, _, .bl b, _ => .bl b
  | _, _, .int i, _ => .int i
  | _, _, .str x, _ => .str x
  | _, _, .lst (a := b) h t, n => .lst (by rw [del_ne (fun z => by rw [z, e] at h; cases h)]; exact h) (dvs_del LF e t n)
  | _, _, .tup (a := b) h t, n => .tup (by
      rcases h with (h | ⟨o, h⟩) | h
      · exact .inl (.inl (by rw [del_ne (fun z => by rw [z, e] at h; cases h)]; exact h))
      · exact .inl (.inr ⟨o, by rw [del_ne (fun z => by rw [z, e] at h; cases h)]; exact h⟩)
      · exact .inr h) (dvs_del LF e t n)
  | _, _, .obj h t, n => by
    have n' := Bool.and_eq_true_iff.mp n
    exact .obj (LF.dl (of_decide_eq_true n'.1) e h) (dvs_del LF e t n'.2)
theorem dvs_del (LF : LyF L M q) (e : G a = some (.ext φ)) : ∀ {vs : List V} {xs : List Da}, DvAll L G vs xs → noFs xs = true → DvAll L (del G a) vs xs
  | _, _, .nil, _ => .nil
  | _, _, .cons h t, n => by
    have n' := Bool.and_eq_true_iff.mp n
    exact .cons (dv_del LF e h n'.1) (dvs_del LF e t n'.2)
end
end
section
variable {X : Cx} {L : Ly} {M : Nat → Lm} {q : Str}
end
end Fw

namespace Fv
open PySem PySem.Spec PyProof.Rows L2 Fr Fw Fs
section
variable {X : Cx} {L : Ly} {cB cE : Addr} {e : Expr}
def rIsB (K : Frag) : List V → Hp → VK → Prop := fun xs H Q => rIsi K xs H Q ∨ rIsX K xs H Q
theorem call_isB : CallR X (.builtin "isinstance") (rIsB X.K) := by
  intro pins s σ H xs us Q I r h
  rcases h with h | h
  · exact call_isi pins s σ H xs us Q I r h
  · exact call_isX pins s σ H xs us Q I r h
end
section
variable {P : Program} {w : World} {L : Ly} {mg : Str → Option Value} {base : Heap} {f g fI : Addr} {fd fdC fdI : FuncData} {cB cE cF : Addr} {T : List (Addr × Str)}
end
end Fv

namespace Fw
open PySem PySem.Spec PyProof.Rows L2 Fr
def edD (e : Ed) : Da := .obj (20 + e.n) e.ds
def ObE (T : Xt) (n : Nat) (H : Hp) (v : V) (vs : List V) : Prop := ∃ a : Addr, v = .ref a ∧ (((T n).2 = none ∧ H a = some (exv a (T n).1 none) ∧ vs = []) ∨ ∃ (nm : Str) (d : Addr) (p : V), (T n).2 = some nm ∧ H a = some (exv a (T n).1 (some d)) ∧ H d = some (.xd [(nm, p)]) ∧ vs = [p])
theorem obE_mo {T : Xt} {n : Nat} {H H' : Hp} {v : V} {vs : List V} (s : Same H H') (h : ObE T n H v vs) : ObE T n H' v vs := by
  obtain ⟨a, e, h⟩ := h
  refine ⟨a, e, ?_⟩
  rcases h with ⟨h1, h2, h3⟩ | ⟨nm, d, p, h1, h2, h3, h4⟩
  · exact .inl ⟨h1, s _ _ h2, h3⟩
  · exact .inr ⟨nm, d, p, h1, s _ _ h2, s _ _ h3, h4⟩
structure LyE (L : Ly) (T : Xt) : Prop where
  err : ∀ {n H v vs}, L.Ob (20 + n) H v vs ↔ ObE T n H v vs
def spLamE (L : Ly) (T : Xt) (G0 : Hp) (F : Pe) : L2.Sp := fun vs H Q E => vs = [] ∧ ∃ G, Same G0 G ∧ Same G H ∧ F.f [] (AnsE L G H Q) (OutE L T G H E)
def fCaE (F : Pe) : Pf := ⟨fun xs k => xs = [lamD] ∧ F.f [] (fun _ => k .non) fun e => no9s e.ds = true ∧ k (edD e), fun h ⟨a, b⟩ => ⟨a, F.mono (fun _ => h _) (fun _ z => ⟨z.1, h _ z.2⟩) b⟩⟩
section
variable {P : Program} {w : World} {L : Ly} {T : Xt} {mg : Str → Option Value} {base : Heap} {f c : Addr} {G0 : Hp} {N cs : List Str} {qual : Str} {params : Arguments} {scope : Scope} {cl : List (Str × Addr)} {ws : List V} {cds : List Da} {n k : Nat} {p pos : Pos} {gg : Pl} {F F' : Pe} {x : Str} {e1 : Expr} {es : List Expr}
abbrev lcx (P : Program) (w : World) (K : Frag) (mg : Str → Option Value) (base : Heap) (N : List Str) (qual : Str) (scope : Scope) (cl : List (Str × Addr)) (f c : Addr) (A : Around) (outer : List Env) (s : Shared) (H : Hp) (E : XK) : Cx := lamCx (L2.CX P w) P w K mg base N qual scope cl f c A outer s H E
theorem lam_body {body : Expr} (LN : LamN N [] cs scope) (at_ : LamAt base G0 f c qual params body scope cl cs ws) (hcd : DvAll L G0 ws cds)
    (hbind : ∀ (pm ctv : Value), bindArgs (PySem.W.kla_fn "<lambda>" qual params body scope cl pm (.ref c) ctv) ⟨[], []⟩ = pure []) (hN : N.length = cs.length + n)
    (hb : ∀ (A : Around) (outer : List Env) (s : Shared) (H : Hp) (E : XK), Room k (A.deeper (PySem.W.envX qual scope s.heap.objs.size f (.ref c) cl)) → A.guards = some [] →
      PE (lcx P w L.K mg base N qual scope cl f c A outer s H E) body (tCallS (spE L T F) (fun _ => E) (tWA L gg)))
    (hgr : ∀ kk xx, F'.f [] kk xx → gg.f (ent cds n) fun ds _ => F.f ds kk xx) : LamG P w L.K mg base (L2.CX P w) (k + 1) f (spLamE L T G0 F') := by
  obtain ⟨⟨pm, ctv, ho⟩, Cp, hcode⟩ := at_
  refine ⟨⟨_, _, _, _, ho⟩, ?_⟩
  rintro A outer s H us vs Q E hr hgu e0 rv ⟨rfl, G, s0, sG, hW⟩
  cases rv
  refine run_lam (us := []) (vs := []) (ps := []) LN Cp ho (hbind pm ctv) hr e0 rfl .nil (sG _ _ (s0 _ _ hcode)) fun hr2 => ?_
  refine ⟨_, hb A outer s H E hr2 hgu, ?_⟩
  have hst : L2.start N (([] : List V) ++ ws) = ws.map some ++ List.replicate n none := by
    unfold L2.start
    rw [List.nil_append, hN, Cp.len, Nat.add_sub_cancel_left]
  rw [hst]
  exact ⟨⟨M0, G, H, [], []⟩, G, ent cds n, rep_ent sG (dvs_same s0 hcd), gg.mono (fun ds ρ1 h1 vs G1 H1 r1 s1 d1 => ⟨G1, ds, r1.gh, d1, F.mono (fun z hz => AnsE.go r1.gr hz) (fun e he => OutE.go r1.gr he) h1⟩) (hgr _ _ hW)⟩
theorem lam_E (C : CalG P w L.K mg base (L2.CX P w) k x (spE L T F)) (LN : LamN N [] cs scope) (at_ : LamAt base G0 f c qual params (.Call (.Name x p) (e1 :: es) [] pos) scope cl cs ws) (hcd : DvAll L G0 ws cds)
    (hbind : ∀ (pm ctv : Value), bindArgs (PySem.W.kla_fn "<lambda>" qual params (.Call (.Name x p) (e1 :: es) [] pos) scope cl pm (.ref c) ctv) ⟨[], []⟩ = pure []) (hN : N.length = cs.length + n)
    (hpa : ∀ (A : Around) (outer : List Env) (s : Shared) (H : Hp) (E : XK), Gl (lcx P w L.K mg base N qual scope cl f c A outer s H E) x ∧ PA (lcx P w L.K mg base N qual scope cl f c A outer s H E) (e1 :: es) (tWA L gg) ∧
      starEach (e1 :: es) (lcx P w L.K mg base N qual scope cl f c A outer s H E).env = (false, eval e1 (lcx P w L.K mg base N qual scope cl f c A outer s H E).env) :: starEach es (lcx P w L.K mg base N qual scope cl f c A outer s H E).env ∧
      (backTo pos (starEach es (lcx P w L.K mg base N qual scope cl f c A outer s H E).env)).any (·.1) = false)
    (hgr : ∀ kk xx, F'.f [] kk xx → gg.f (ent cds n) fun ds _ => F.f ds kk xx) (hdb : (x == ("__debug__" : Str)) = false := by decide) : LamG P w L.K mg base (L2.CX P w) (k + 1) f (spLamE L T G0 F') :=
  lam_body LN at_ hcd hbind hN (fun A outer s H E hr hgu => by
    obtain ⟨hgl, hp, he, hpl⟩ := hpa A outer s H E
    exact pe_cgS C hr (Nat.le_refl _) hgu hgl (fun σ => passAt (takes_of (X := lcx P w L.K mg base N qual scope cl f c A outer s H E) (E := E) rfl rfl rfl rfl) σ) hp hdb he hpl) hgr
end
section
variable {X : Cx} {L : Ly} {T : Xt} {e : Expr}
def isErr (T : Xt) (K : Frag) (C : Addr) (d : Da) (b : Bool) : Prop := (d = .non ∧ b = false) ∨ ∃ e : Ed, d = edD e ∧ PySem.W.kitOne K (.ref (T e.n).1) (.ref C) = some b
theorem w_isE (LE : LyE L T) {C : Addr} (xc : ∀ n, ExcC L.K (T n).1) (kN : PySem.W.kitOne L.K (.type "NoneType") (.ref C) = some false) {g : Px} (p : PE X e (tCB (Fv.rIsB L.K) (tCons (tW L g) (tCons (tC (.ref C)) tNil)))) : PE X e (tW L (pIsi (isErr T L.K C) g)) :=
  PE.imp p fun σ H Q ⟨B, G, ρ, r, h⟩ => ⟨B, G, ρ, r, g.mono (fun d ρ1 ⟨b, ha, h1⟩ v G1 H1 r1 s1 d1 => by
    rcases ha with ⟨rfl, rfl⟩ | ⟨x, rfl, hk⟩
    · cases d1
      exact .inl ⟨.non, .ref C, .type "NoneType", .ref C, false, rfl, .own C, .base .non, kN, h1 _ _ _ r1 s1 (.bl false)⟩
    · cases d1 with
      | obj o t =>
        obtain ⟨a, rfl, q⟩ := LE.err.mp o
        rcases q with ⟨_, q1, _⟩ | ⟨nm, dd, p, _, q1, q2, _⟩
        · exact .inr ⟨a, (T x.n).1, none, .ref C, .ref C, b, rfl, .inl (r1.gh _ _ q1), (fun d' z => by cases z), xc x.n, (fun u ru => ru), hk, h1 _ _ _ r1 s1 (.bl b)⟩
        · refine .inr ⟨a, (T x.n).1, some dd, .ref C, .ref C, b, rfl, .inl (r1.gh _ _ q1), (fun d' z => ?_), xc x.n, (fun u ru => ru), hk, h1 _ _ _ r1 s1 (.bl b)⟩
          cases z
          exact ⟨_, .inl (r1.gh _ _ q2)⟩) h⟩
end
end Fw
namespace Fv
open PySem PySem.Spec PyProof.Rows L2 Fr Fw Fs
section
variable {P : Program} {w : World} {L : Ly} {T : Xt} {mg : Str → Option Value} {base : Heap} {f g : Addr} {fd : FuncData} {cF : Addr} {G0 : Hp} {F : Pe}
theorem ok_caughtE {kl : Nat} (LE : LyE L T) (Fd : C8.Def L.K mg "_law_caught" s_law_caught g fd) (b : Binds L.K fd ["work"] []) (gF : mg "FlatError" = some (.ref cF)) (eF : ∀ n, PySem.W.exmOne L.K (.ref (T n).1) (.ref cF) = some true)
    (cl : LamG P w L.K mg base (L2.CX P w) kl f (spLamE L T G0 F)) : CalG P w L.K mg base C8.CX0 (kl + 1) "_law_caught" (spF (L.lam f G0) (fCaE F)) := by
  have sc := sc_law_caught
  refine calGc Fd b sc ?_ ?_
  · rintro vs H Q E ⟨G, ds, _, dv, rfl, _⟩
    exact dvs_len dv
  · rintro cdv A outer s H vs Q E hcd hr hgu ⟨G, ds, sG, dv, rfl, hW⟩
    obtain ⟨v, rfl, hv⟩ : ∃ v, vs = [v] ∧ Dv (L.lam f G0) G v lamD := by
      cases dv with
      | cons d t =>
        cases t
        exact ⟨_, rfl, d⟩
    obtain ⟨rfl, s0⟩ := dv_lam hv
    refine ⟨_, pss_cons (ps_set (i := 1) sc.nd rfl (by first | exact Or.inl rfl | exact Or.inr rfl) pe_non)
      (pss_cons (ps_try_keep (i := 2) (Wout := fun _ _ _ _ => False) rfl rfl rfl sc.nd rfl rfl ⟨rfl, by decide, .inl gF⟩ (fun _ _ ⟨_, _, _, _, _, _, _, _, _, _, _, _, _, _, _, _, z⟩ => z.elim)
        (fun W pn xe tk _ => pss_one (ps_expr (pe_vS (i := 0) cl hr (Nat.le_refl _) hgu rfl (Or.inl rfl) (fun σ => passAt tk σ))))
        (fun a oe cls d pn _ _ => pss_one (ps_set (i := 1) sc.nd rfl (by first | exact Or.inl rfl | exact Or.inr rfl) (pv 2))))
      (pss_one (ps_ret (pv 1)))), ?_⟩
    refine ⟨rfl, rfl, G, s0, sG, F.mono ?_ ?_ hW⟩
    · intro z hz
      cases z with
      | dat d => exact fun v G' H' gr _ => ⟨.non, rfl, hz .non G' H' gr .non⟩
      | new es => exact fun p us G' H' gr _ _ _ _ => ⟨.non, rfl, hz .non G' H' gr .non⟩
      | new2 yss => exact fun p l G' H' gr _ _ _ _ _ => ⟨.non, rfl, hz .non G' H' gr .non⟩
      | any R => exact fun p o G' H' gr _ _ _ _ => ⟨.non, rfl, hz .non G' H' gr .non⟩
    · rintro e ⟨h9, he⟩
      show OutC L G H _ (T e.n).1 e.ds (T e.n).2
      cases hT : (T e.n).2 with
      | none =>
        intro hds G' H' gr
        refine ⟨true, eF e.n, fun _ => ⟨(T e.n).1, rfl, fun a na => ⟨.ref a, rfl, .ref a, rfl, ?_⟩⟩, fun q => by cases q⟩
        exact he _ (upd G' a (exv a (T e.n).1 none)) _ (gr.trans (Grow.lay gr.gh na)) (.obj (.inr ⟨by omega, LE.err.mpr ⟨a, rfl, .inl ⟨hT, upd_same, rfl⟩⟩⟩) (by rw [hds]; exact .nil))
      | some nm =>
        intro dx v d G' H' hd gr hx hv
        refine ⟨true, eF e.n, fun _ => ⟨(T e.n).1, rfl, fun a na => ⟨.ref a, rfl, .ref a, rfl, ?_⟩⟩, fun q => by cases q⟩
        have ne : dx ≠ a := fun z => by
          have := gr.gh _ _ hx
          rw [z, na] at this
          cases this
        exact he _ (upd G' a (exv a (T e.n).1 (some dx))) _ (gr.trans (Grow.lay gr.gh na)) (.obj (.inr ⟨by omega, LE.err.mpr ⟨a, rfl, .inr ⟨nm, dx, v, hT, upd_same, by rw [upd_ne ne]; exact hx, rfl⟩⟩⟩) (by rw [hd]; exact .cons (dv_same (same_upd (gr.gh.free na)) (dv_to hv (by rw [hd] at h9; exact (Bool.and_eq_true_iff.mp h9).1))) .nil))
end
end Fv

namespace Fw
open PySem PySem.Spec PyProof.Rows L2 Fr Fv
section
variable {prog : Program} {w : World} {A : Around} {E : Value → Shared → Prop} {s : Shared}
end
section
variable {X : Cx}
end
end Fw

namespace Fw
open PySem PySem.Spec PyProof.Rows L2 Fr
theorem fnE {L : Ly} {T : Xt} {P : Program} {w : World} {mg : Str → Option Value} {base : Heap} {x : Str} {st : Stmt} {f : Addr} {fd : FuncData} {N ps : List Str} {k n : Nat} {F : Pe} (Fd : C8.Def L.K mg x st f fd) (S : FnScope N ps (C8.fnScope st))
    (hlen : ∀ ds k x, F.f ds k x → ds.length = ps.length) (hN : ∀ vs : List V, vs.length = ps.length → L2.start N vs = vs.map some ++ List.replicate n none)
    (hbody : ∀ (cdv : Value) (A : Around) (outer : List Env) (s : Shared) (G H : Hp) (E : XK), Room k (A.deeper (envOfC x (C8.fnScope st) s.heap.objs.size f cdv)) → A.guards = some [] →
      Takes (cxOf (L2.CX P w) P w L.K mg base N x (C8.fnScope st) f cdv A outer s H E) (fun cls d _ H => E cls d H) →
      ∃ g : Pse, PSs (cxOf (L2.CX P w) P w L.K mg base N x (C8.fnScope st) f cdv A outer s H E) (C8.fnBody st) (tX L T G H E g) ∧
        ∀ ds kk xx, F.f ds kk xx → g.f (ent ds n) (fun _ => kk (.dat .non)) kk xx) : FnG P w L.K mg base (L2.CX P w) (k + 1) f fd ps (spE L T F) := by
  refine mkc Fd.fn S ?_ ?_
  · rintro vs H Q E ⟨G, ds, _, dv, h⟩
    exact (dvs_len dv).trans (hlen _ _ _ h)
  · rintro cdv A outer s H vs Q E hcd hr hgu ⟨G, ds, sg, dv, h⟩
    obtain ⟨g, hp, hF⟩ := hbody cdv A outer s G H E hr hgu (takes_of rfl rfl rfl rfl)
    refine ⟨_, hp, ?_⟩
    rw [hN vs ((dvs_len dv).trans (hlen _ _ _ h))]
    exact ⟨G, ent ds n, rep_ent sg dv, g.mono (fun ρ1 h1 σ' G' H' r' => h1 .non G' H' r'.gr .non) (fun _ z => z) (fun _ z => z) (hF ds _ _ h)⟩
theorem calmF {L : Ly} {T : Xt} {P : Program} {w : World} {mg : Str → Option Value} {base : Heap} {f : Addr} {fd : FuncData} {ps : List Str} {k : Nat} {F : Pe} (Fg : FnG P w L.K mg base (L2.CX P w) k f fd ps (spE L T F)) : FnG P w L.K mg base C8.CX0 k f fd ps (spE0 L F) := by
  have up : ∀ vs H Q E, spE0 L F vs H Q E → spE L T F vs H Q fun _ _ _ => False := fun vs H Q E ⟨G, ds, s, dv, h⟩ => ⟨G, ds, s, dv, F.mono (fun _ z => z) (fun _ z => z.elim) h⟩
  refine ⟨fun vs H Q E h => Fg.len vs H Q _ (up vs H Q E h), fun A outer s H args us vs Q E a1 a2 a3 a4 a5 h => ?_⟩
  refine codeAny_mono (Fg.run A outer s H args us vs Q _ a1 a2 a3 a4 a5 (up vs H Q E h)) fun r s' q => ?_
  cases r with
  | error e => exact (Fv.no_pass q).elim
  | ok fl =>
    cases fl with
    | ret u => exact q
    | next => cases q
    | brk => cases q
    | cont => cases q
end Fw
namespace Fv
open PySem PySem.Spec PyProof.Rows L2 Fr Fw Fs
section
variable {P : Program} {w : World} {L : Ly} {T : Xt} {mg : Str → Option Value} {base : Heap} {f fI : Addr} {fd : FuncData} {cB cE cL : Addr}
theorem eqv_nat (a b : Nat) : PyData.eqv (.int (a : Int)) (.int (b : Int)) = decide (a = b) := by
  show ((a : Int) == (b : Int)) = decide (a = b)
  by_cases h : a = b
  · simp [h]
  · have h' : ¬ ((a : Int) = (b : Int)) := by omega
    simp [h, h']
end
end Fv

namespace Fv
open PySem PySem.Spec PyProof.Rows L2 Fr Fw Fs
end Fv

namespace Fw
open PySem PySem.Spec PyProof.Rows L2 Fr
section
variable {X : Cx} {L : Ly} {e : Expr}
def plRep (ga gb : Px) : Pl := ⟨fun ρ k => ga.f ρ fun x ρ1 => gb.f ρ1 fun y ρ2 => ∃ ds i, x = .lst ds ∧ y = .int i ∧ (0 ≤ i ∧ i < 2 ^ 62) ∧ ds.length * i.toNat ≤ sizeLine ∧ k (List.replicate i.toNat ds).flatten ρ2,
  fun h => ga.mono fun _ _ => gb.mono fun _ _ ⟨ds, i, a, b, c, d, q⟩ => ⟨ds, i, a, b, c, d, h _ _ q⟩⟩
theorem dvs_rep {G : Hp} {xs : List V} {ds : List Da} (h : DvAll L G xs ds) : ∀ n : Nat, DvAll L G (List.replicate n xs).flatten (List.replicate n ds).flatten
  | 0 => .nil
  | n + 1 => by
    rw [List.replicate_succ, List.replicate_succ, List.flatten_cons, List.flatten_cons]
    exact dvs_app h (dvs_rep h n)
theorem w_nrep {ga gb : Px} (p : PE X e (tOp rRep (tW L ga) (tW L gb))) : PE X e (tWN L (plRep ga gb)) := PE.imp p fun σ H Q ⟨B, G, ρ, r, h⟩ => by
  refine ⟨B, G, ρ, r, ga.mono (fun x ρ1 h1 v G1 H1 r1 s1 d1 => ⟨B, G1, ρ1, r1, gb.mono ?_ h1⟩) h⟩
  rintro y ρ2 ⟨ds, i, rfl, rfl, ⟨i0, i1⟩, hl, q⟩ u G2 H2 r2 s2 d2
  cases d2
  obtain ⟨a, xs, rfl, hs, ha⟩ := dv_lst (dv_same s2 d1)
  refine ⟨a, i, xs, rfl, rfl, r2.gh _ _ hs, by omega, by omega, by rw [dvs_len ha]; exact hl, fun p hp => ?_⟩
  exact q p _ G2 _ (r2.kp hp) (r2.h0 hp) (fun q hq e => by
    have := (r2.ks q hq).1
    rw [e, hp] at this
    cases this) (s1.trans s2) (dvs_rep ha _)
end
end Fw
namespace Fv
open PySem PySem.Spec PyProof.Rows L2 Fr Fw Fs
theorem tab_at {α : Type} {N m : Nat} {f : Nat → α} (h : m < N) : ((List.range N).map f)[m]? = some (f m) := by
  rw [List.getElem?_map, List.getElem?_range h]
  rfl
section
variable {P : Program} {w : World} {L : Ly} {T : Xt} {mg : Str → Option Value} {base : Heap} {f fI : Addr} {fd : FuncData} {cB cE cL : Addr}
end
end Fv

namespace Fv
open PySem PySem.Spec PyProof.Rows L2 Fr Fw Fs
section
variable {P : Program} {w : World} {L : Ly} {T : Xt} {mg : Str → Option Value} {base : Heap} {f fI : Addr} {fd : FuncData} {cB cE cL : Addr}
end
end Fv

namespace Fv
section
variable {r : List Int → Nat} (R : RankFn r)
include R
end
section
variable {n m : Nat} {bs : List (List Int)}
end
end Fv

namespace Fw
open PySem PySem.Spec PyProof.Rows L2 Fr
section
variable {X : Cx} {L : Ly} {e : Expr} {st : Stmt}
end
end Fw
namespace Fv
open PySem PySem.Spec PyProof.Rows L2 Fr Fw Fs
theorem dep_lot (t : List Int) : (pti t).depth ≤ 60 := by
  have h2 : PyData.depthAll (t.map PyData.int) ≤ 0 := dep_all fun e he => by
    obtain ⟨i, _, rfl⟩ := List.mem_map.mp he
    simp only [PyData.depth]
    exact Nat.le_refl _
  have e : (pti t).depth = PyData.depthAll (t.map PyData.int) + 1 := by
    unfold pti
    simp only [PyData.depth]
  omega
theorem shw_lot {t : List Int} (h : ∀ x ∈ t, 0 ≤ x ∧ x < 9) : PyData.showable (pti t) = true ∧ PyData.hasDict (pti t) = false := by
  have := ptl_ok (ts := [t]) fun u hu x hx => h x (by rw [List.mem_singleton.mp hu] at hx; exact hx)
  constructor
  · show PyData.showableAll (t.map PyData.int) = true
    refine shwAll fun e he => ?_
    obtain ⟨i, hi, rfl⟩ := List.mem_map.mp he
    exact shw_int (h i hi).1 (h i hi).2
  · show PyData.hasDictAll (t.map PyData.int) = false
    refine noDictAll fun e he => ?_
    obtain ⟨i, hi, rfl⟩ := List.mem_map.mp he
    rfl
section
variable {X : Cx} {L : Ly} {e : Expr}
def rRepr1 : R1p := ⟨fun xs k => ∃ t : List Int, xs = [ti t] ∧ (t.length ≤ 8 ∧ ∀ x ∈ t, 0 ≤ x ∧ x < 9) ∧ k (.str (pti t).shown), fun h ⟨ts, a, b, q⟩ => ⟨ts, a, b, h _ q⟩⟩
theorem snd_repr1 : Snd1 L (rRepr L.K) rRepr1 := by
  rintro B G H σ ρ vs xs Q r dv ⟨t, rfl, ⟨hl, hb⟩, k⟩
  cases dv with
  | cons d t' =>
    cases t'
    obtain ⟨a, ys, rfl, hs, ha⟩ := dv_tup d
    have dp : Dp L.K H (.ref a) (pti t) := dp_same r.gh (py_dp d (py_ti t))
    obtain ⟨s1, s2⟩ := shw_lot hb
    exact ⟨a, pti t, rfl, dp, s1, s2, dep_lot t, Nat.le_trans (sh_lot (c := 8) hl hb) (by rw [sizeLine_eq]; omega), k _ G H r (Same.refl _) (.str _)⟩
end
section
variable {P : Program} {w : World} {L : Ly} {mg : Str → Option Value} {base : Heap} {f : Addr} {fd : FuncData}
end
end Fv

namespace Fs
open PySem PySem.Spec PyProof.Rows L2 Fr Fw Fv PpSet
section
variable {P : Program} {w : World} {A : Around} {E : Value → Shared → Prop} {s : Shared}
end
section
variable {X : Cx}
end
section
variable {X : Cx} {L : Ly} {e : Expr} {vs : List Nat}
end
end Fs

namespace Fw
open PySem PySem.Spec PyProof.Rows L2 Fr
section
variable {X : Cx} {L : Ly} {T : Xt} {G0 H0 : Hp} {E : XK} {st : Stmt} {ss : List Stmt} {e : Expr}
end
end Fw
namespace Fv
open PySem PySem.Spec PyProof.Rows L2 Fr Fw Fs
section
variable {X : Cx} {L : Ly} {e : Expr}
end
end Fv

namespace Fw
open PySem PySem.Spec PyProof.Rows L2 Fr
section
variable {X : Cx} {L : Ly} {e : Expr} {st : Stmt} {vs : List Nat}
end
end Fw

namespace Fw
open PySem PySem.Spec PyProof.Rows L2 Fr
section
variable {X : Cx} {L : Ly} {e : Expr} {st : Stmt} {vs vs1 : List Nat} {σ : L2.St}
theorem wipe_sub : ∀ {vs1 : List Nat} {σ : L2.St}, (∀ i ∈ vs1, i ∈ vs) → L2.wipe (L2.wipe σ vs1) vs = L2.wipe σ vs
  | [], _, _ => rfl
  | v :: r, σ, h => by
    show L2.wipe ((L2.wipe σ r).set v none) vs = _
    rw [wipe_set (h v List.mem_cons_self)]
    exact wipe_sub fun i hi => h i (List.mem_cons_of_mem _ hi)
def tStar (K : Frag) (te : TE) (t : TA) : TA := fun σ H Q => te σ H fun v H1 => ∃ a xs, v = .ref a ∧ SqT K H1 a xs ∧ t σ H1 fun vs H2 => Q (xs ++ vs) H2
theorem pa_star {es : List Expr} {te : TE} {t : TA} {p : Pos} (he : PE X e te) (ha : PA X es t) (hs : starEach (.Starred e p :: es) X.env = (true, eval e X.env) :: starEach es X.env := by rfl) : PA X (.Starred e p :: es) (tStar X.K te t) := by
  refine ⟨?_⟩
  intro pos pins s σ H Q I h
  rw [hs]
  refine PySem.W.ks_spliced (thn (he.run pins s σ H _ I h) ?_)
  rintro u s1 ⟨v, H1, I1, r1, a, xs, rfl, hx, q⟩
  cases r1
  refine star_tup I1 hx fun us s2 I2 r2 => thn (ha.run pos pins s2 σ H1 _ I2 q) ?_
  rintro ws s3 ⟨vs, H3, I3, r3, q3⟩
  exact ⟨xs ++ vs, H3, I3, paired_append r2 r3, q3⟩
end
end Fw

namespace Fw
open PySem PySem.Spec PyProof.Rows L2 Fr
section
variable {P : Program} {w : World} {A : Around} {E : Value → Shared → Prop} {s : Shared}
end
section
variable {P : Program} {w : World} {K : Frag} {elts : List Expr} {kk : Nat} {tpos : Pos}
end
section
variable {X : Cx} {L : Ly} {B : Bs} {G H : Hp} {σ : L2.St} {ρ : En} {e e2 : Expr} {ta : TA} {p pos tpos : Pos} {elts : List Expr} {kk : Nat}
end
end Fw

namespace Zn
open PySem PySem.Spec PyProof.Rows L2 Fr Fw
theorem wp_forIn {M : Model} {A : Around} {E : Value → Shared → Prop} {α β : Type} {f : α → β → Sem (ForInStep β)} {Inv : Nat → β → Shared → Prop} {Q : β → Shared → Prop} : ∀ (l : List α) (k : Nat) (init : β) (s : Shared),
    (∀ j x b s, l[j]? = some x → Inv (k + j) b s → wpAny M A (f x b) (fun r s' => ∃ b', r = .yield b' ∧ Inv (k + j + 1) b' s') E s) → Inv k init s → (∀ b s', Inv (k + l.length) b s' → Q b s') → wpAny M A (forIn l init f) Q E s
  | [], k, init, s, h, h0, hq => by
    rw [List.forIn_nil]
    exact wpAny_pure (hq _ _ (by simpa using h0))
  | x :: r, k, init, s, h, h0, hq => by
    rw [List.forIn_cons]
    refine wpAny_bind (wpAny_mono (h 0 x init s rfl h0) ?_ (fun _ _ z => z))
    rintro st s' ⟨b', rfl, hI⟩
    exact wp_forIn r (k + 1) b' s' (fun j y b s hj hI => by
      have := h (j + 1) y b s (by simpa using hj) (by rw [show k + (j + 1) = k + 1 + j by omega]; exact hI)
      rw [show k + (j + 1) + 1 = k + 1 + j + 1 by omega] at this
      exact this) hI fun b s' hh => hq b s' (by rw [List.length_cons, show k + (r.length + 1) = k + 1 + r.length by omega]; exact hh)
def IterB (bb : Bool) (h : Heap) (a l : Addr) (i : Nat) : Prop := match bb with
  | true => h.IsTupleIter a l i
  | false => h.IsListIter a l i
def SeqB (bb : Bool) (h : Heap) (l : Addr) (items : Array Value) : Prop := match bb with
  | true => h.IsTuple l items
  | false => h.IsList l items
theorem IterB.at {bb : Bool} {h h' : Heap} {a l : Addr} {i : Nat} (x : IterB bb h a l i) (k : ∀ o, h.get? a = some o → h'.get? a = some o) : IterB bb h' a l i := by
  cases bb
  · exact Heap.IsListIter.at x k
  · exact Heap.IsTupleIter.at x k
theorem SeqB.at {bb : Bool} {h h' : Heap} {l : Addr} {items : Array Value} (x : SeqB bb h l items) (k : ∀ o, h.get? l = some o → h'.get? l = some o) : SeqB bb h' l items := by
  cases bb
  · exact Heap.IsList.at x k
  · exact Heap.IsTuple.at x k
theorem IterB.obj {bb : Bool} {h : Heap} {a l : Addr} {i : Nat} (x : IterB bb h a l i) : ∃ o, h.get? a = some o ∧ ∀ v, o.data ≠ .cell v := by
  cases bb
  · obtain ⟨o, ho, _, hd⟩ := (show h.IsListIter a l i from x)
    exact ⟨o, ho, fun v q => by rw [hd] at q; cases q⟩
  · obtain ⟨o, ho, _, hd⟩ := (show h.IsTupleIter a l i from x)
    exact ⟨o, ho, fun v q => by rw [hd] at q; cases q⟩
theorem nextB_item {prog : Program} {w : World} {A : Around} {E : Value → Shared → Prop} {s : Shared} {bb : Bool} {it l : Addr} {i : Nat} {items : Array Value} {x : Value} {Q : Value → Shared → Prop} (hit : IterB bb s.heap it l i) (hl : SeqB bb s.heap l items) (hx : items[i]? = some x)
    (hQ : ∀ h', IterB bb h' it l (i + 1) → Heap.SameBut it s.heap h' → Q x { s with heap := h' }) : wpAny (model prog w) A (Builtin.SmallTypes.nextOf (.ref it)) Q E s := by
  cases bb
  · exact wpAny_nextOf_list_item hit hl hx hQ
  · exact wpAny_nextOf_tuple_item hit hl hx hQ
theorem nextB_end {prog : Program} {w : World} {A : Around} {E : Value → Shared → Prop} {s : Shared} {bb : Bool} {it l : Addr} {i : Nat} {items : Array Value} {Q : Value → Shared → Prop} (hh : A.handled = none) (hit : IterB bb s.heap it l i) (hl : SeqB bb s.heap l items) (hx : items[i]? = none)
    (hE : ∀ h' e, Heap.ExtBut it s.heap h' → (∃ o, h'.get? e = some o ∧ o.cls = .type "StopIteration") → E (.ref e) { s with heap := h' }) : wpAny (model prog w) A (Builtin.SmallTypes.nextOf (.ref it)) Q E s := by
  cases bb
  · exact wpAny_nextOf_list_end hh hit hl hx hE
  · exact wpAny_nextOf_tuple_end hh hit hl hx hE
abbrev zO (f0 f1 : Value) (TI TO : Addr) : Obj := { cls := .type "zip", dict := none, data := .fields #[f0, f1, .bool false, .ref TI, .ref TO], slots := #[] }
abbrev tO (vs : List Value) : Obj := { cls := .type "tuple", data := .seq vs.toArray }
structure ZS (bb : Bool) (h : Heap) (z TI TO : Addr) (its ls : List Addr) (i : Nat) : Prop where
  zz : ∃ f0 f1, (f0 = .none ∨ ∃ T : Nat, f0 = rawInt T) ∧ (∃ b, f1 = .bool b) ∧ h.get? z = some (zO f0 f1 TI TO)
  ti : h.get? TI = some (tO (its.map .ref))
  to : ∃ olds : List Value, olds.length = its.length ∧ h.get? TO = some (tO olds)
  it : ∀ k a l : Nat, its[k]? = some a → ls[k]? = some l → IterB bb h a l i
structure Sep (z TI TO : Addr) (its ls : List Addr) : Prop where
  zT : z ≠ TI
  zo : z ≠ TO
  To : TI ≠ TO
  zi : z ∉ its
  Ti : TI ∉ its
  Oi : TO ∉ its
  nd : its.Nodup
  zl : z ∉ ls
  Ol : TO ∉ ls
  il : ∀ a ∈ its, a ∉ ls
  len : its.length = ls.length
section
variable {prog : Program} {w : World} {A : Around} {E : Value → Shared → Prop} {s : Shared} {z TI TO : Addr} {its ls : List Addr} {vals : List Value} {i : Nat} {bb : Bool}
def Have (bb : Bool) (h : Heap) (ls : List Addr) (vals : List Value) (i : Nat) : Prop := vals.length = ls.length ∧ ∀ (k : Nat) (l : Addr) (v : Value), ls[k]? = some l → vals[k]? = some v → ∃ items, SeqB bb h l items ∧ items[i]? = some v
theorem wpAny_alive {a : Addr} {Q : Option Obj → Shared → Prop} (h : Q (s.heap.get? a) s) : wpAny (model prog w) A (loadIfAlive a) Q E s := fun _ _ _ => h
theorem wp_free {f0 f1 : Value} {Q : Bool → Shared → Prop} (h0 : f0 = .none ∨ ∃ T : Nat, f0 = rawInt T) (h1 : ∃ b, f1 = .bool b) (hz : s.heap.get? z = some (zO f0 f1 TI TO))
    (h : ∀ b h' f1', (∃ b, f1' = .bool b) → h'.get? z = some (zO f0 f1' TI TO) → Heap.SameBut z s.heap h' → Q b { s with heap := h' }) : wpAny (model prog w) A (Builtin.SmallTypes.ownedTupleIsFree (.ref z)) Q E s := by
  unfold Builtin.SmallTypes.ownedTupleIsFree
  rcases h0 with rfl | ⟨T, rfl⟩
  · exact wpAny_bind (wpAny_field hz rfl (x := .none) rfl (wpAny_pure (h true s.heap f1 h1 hz (Heap.SameBut.refl _ _))))
  · refine wpAny_bind (wpAny_field hz rfl (x := rawInt T) rfl ?_)
    show wpAny _ _ (loadIfAlive ((T : Int).toNat) >>= _) _ _ _
    refine wpAny_bind (wpAny_alive ?_)
    cases s.heap.get? (T : Int).toNat with
    | none => exact wpAny_pure (h true s.heap f1 h1 hz (Heap.SameBut.refl _ _))
    | some o =>
      obtain ⟨b, rfl⟩ := h1
      simp only [Option.isNone_some, Bool.false_eq_true, if_false]
      refine wpAny_bind (wpAny_field hz rfl (x := .bool b) rfl ?_)
      cases b with
      | true =>
        rw [if_neg (show ¬ ((Value.bool true != Value.bool true) = true) from Bool.false_ne_true)]
        exact wpAny_pure (h false s.heap _ ⟨_, rfl⟩ hz (Heap.SameBut.refl _ _))
      | false =>
        rw [if_pos (show (Value.bool false != Value.bool true) = true from rfl)]
        exact wpAny_bind (wpAny_setField_rec hz (by simp) fun h₁ hz₁ hs₁ => wpAny_pure (h false h₁ _ ⟨_, rfl⟩ hz₁ hs₁))
structure Mid (bb : Bool) (h0 h : Heap) (z TI TO : Addr) (its ls : List Addr) (vals : List Value) (i k : Nat) : Prop where
  sz : h.objs.size = h0.objs.size
  keep : ∀ c o, c ≠ z → c ≠ TO → c ∉ its → h0.get? c = some o → h.get? c = some o
  it : ∀ j a l : Nat, its[j]? = some a → ls[j]? = some l → IterB bb h a l (if j < k then i + 1 else i)
theorem draw_one {h0 : Heap} (S : Sep z TI TO its ls) {k a : Nat} {x : Value} (hv : Have bb h0 ls vals i) (M : Mid bb h0 s.heap z TI TO its ls vals i k) (ha : its[k]? = some a) (hx : vals[k]? = some x) {Q : Value → Shared → Prop}
    (h : ∀ h', Mid bb h0 h' z TI TO its ls vals i (k + 1) → Heap.SameBut a s.heap h' → Q x { s with heap := h' }) : wpAny (model prog w) A (Builtin.SmallTypes.nextOf (.ref a)) Q E s := by
  have hk : k < ls.length := by
    rw [← S.len]
    exact (List.getElem?_eq_some_iff.mp ha).1
  obtain ⟨l, hl⟩ : ∃ l, ls[k]? = some l := ⟨ls[k], List.getElem?_eq_getElem hk⟩
  obtain ⟨items, h1, h2⟩ := hv.2 k l x hl hx
  have lm : l ∈ ls := List.mem_of_getElem? hl
  have am : a ∈ its := List.mem_of_getElem? ha
  have hit := M.it k a l ha hl
  rw [if_neg (Nat.lt_irrefl k)] at hit
  have hl2 : SeqB bb s.heap l items := h1.at fun o e => M.keep l o (fun e => S.zl (e ▸ lm)) (fun e => S.Ol (e ▸ lm)) (fun e => S.il l e lm) e
  refine nextB_item hit hl2 h2 fun h' hit' hs' => h h' ⟨hs'.1.trans M.sz, fun c o n1 n2 n3 e => hs'.extBut _ _ (fun z => n3 (z ▸ am)) (M.keep c o n1 n2 n3 e), fun j a' l' hj hl' => ?_⟩ hs'
  by_cases e : j = k
  · subst e
    rw [ha] at hj
    rw [hl] at hl'
    cases hj
    cases hl'
    rw [if_pos (Nat.lt_succ_self j)]
    exact hit'
  · have hne : a' ≠ a := fun z => e (by
      subst z
      exact (List.getElem?_inj (List.getElem?_eq_some_iff.mp hj).1 S.nd).mp (hj.trans ha.symm))
    have := (M.it j a' l' hj hl').at fun o q => hs'.extBut _ _ hne q
    by_cases q : j < k
    · rw [if_pos q] at this
      rw [if_pos (by omega)]
      exact this
    · rw [if_neg q] at this
      rw [if_neg (by omega)]
      exact this
end
end Zn

namespace Zn
open PySem PySem.Spec PyProof.Rows L2 Fr Fw
section
variable {prog : Program} {w : World} {A : Around} {E : Value → Shared → Prop} {s : Shared} {z TI TO : Addr} {its ls : List Addr} {vals : List Value} {i : Nat} {bb : Bool}
theorem upd_tup {T : Addr} {vs : List Value} {x : Value} {k : Nat} {Q : Unit → Shared → Prop} (hT : s.heap.get? T = some (tO vs)) (hf : vs.length ≤ sizeLine)
    (h : ∀ h', h'.get? T = some (tO (vs.set k x)) → Heap.SameBut T s.heap h' → Q () { s with heap := h' }) : wpAny (model prog w) A (updateSeq T (·.setIfInBounds k x)) Q E s := by
  refine wpAny_updateSeq hT rfl (h _ ?_ (Heap.SameBut.update ..)) (by simpa using hf) (by simp; omega)
  rw [Heap.get?_update_self _ hT rfl]
  simp [Obj.mapSeq]
theorem next_item {Q : Value → Shared → Prop} (S : Sep z TI TO its ls) (Z : ZS bb s.heap z TI TO its ls i) (hv : Have bb s.heap ls vals i) (ne : its ≠ []) (hf : its.length ≤ 1000)
    (hQ : ∀ h', ZS bb h' z TI TO its ls (i + 1) → h'.get? s.heap.objs.size = some (tO vals) → h'.objs.size = s.heap.objs.size + 1 → (∀ c o, c ≠ z → c ≠ TO → c ∉ its → s.heap.get? c = some o → h'.get? c = some o) → Q (.ref s.heap.objs.size) { s with heap := h' }) :
    wpAny (model prog w) A (Builtin.«zip.__next__» ⟨[.ref z], []⟩) (fun fin s' => ∃ v, fin = .done (.ret v) ∧ Q v s') E s := by
  obtain ⟨hp, g, d, tk0, os⟩ := s
  obtain ⟨f0, f1, q0, q1, hz⟩ := Z.zz
  obtain ⟨olds, hol, hTO⟩ := Z.to
  have hlen : vals.length = its.length := hv.1.trans S.len.symm
  show wpAny _ _ (field (.ref z) 2 >>= _) _ _ _
  refine wpAny_bind (wpAny_field hz rfl (x := .bool false) rfl ?_)
  show wpAny _ _ (field (.ref z) 3 >>= _) _ _ _
  refine wpAny_bind (wpAny_field hz rfl (x := .ref TI) rfl ?_)
  refine wpAny_bind (wpAny_seqItems Z.ti rfl ?_)
  have nemp : ((its.map Value.ref).toArray.isEmpty) = false := by
    cases its with
    | nil => exact absurd rfl ne
    | cons a r => rfl
  simp only [nemp, Bool.false_eq_true, if_false]
  show wpAny _ _ (Builtin.SmallTypes.ownedTupleIsFree (.ref z) >>= _) _ _ _
  refine wpAny_bind (wp_free q0 q1 hz fun b h1 f1' q1' hz1 hs1 => ?_)
  have M0 : Mid bb hp h1 z TI TO its ls vals i 0 := ⟨hs1.1, fun c o n _ _ e => hs1.extBut _ _ n e, fun j a l ha hl => by
    rw [if_neg (Nat.not_lt_zero j)]
    exact (Z.it j a l ha hl).at fun o e => hs1.extBut _ _ (fun q => S.zi (q ▸ List.mem_of_getElem? ha)) e⟩
  have hTO1 : h1.get? TO = some (tO olds) := hs1.extBut _ _ (Ne.symm S.zo) hTO
  have hTI1 : ∀ h2, Mid bb hp h2 z TI TO its ls vals i its.length → h2.get? TI = some (tO (its.map .ref)) := fun h2 M => M.keep TI _ (Ne.symm S.zT) S.To S.Ti Z.ti
  cases b with
  | false =>
    simp only [Bool.false_eq_true, if_false]
    refine wpAny_bind ?_
    rw [← Array.forIn_toList]
    refine wp_forIn (Inv := fun k b s' => b.snd = (vals.take k).toArray ∧ b.fst = none ∧ ∃ h', s' = ⟨h', g, d, tk0, os⟩ ∧ Mid bb hp h' z TI TO its ls vals i k ∧ h'.get? z = some (zO f0 f1' TI TO) ∧ h'.get? TO = some (tO olds)) _ 0 _ _ ?_ ⟨rfl, rfl, h1, rfl, M0, hz1, hTO1⟩ ?_
    · rintro j x ⟨b1, b2⟩ s' hj ⟨e1, e2, h', rfl, M, hz', hO'⟩
      rw [Nat.zero_add] at e1 M ⊢
      have e1 : b2 = (vals.take j).toArray := e1
      have e2 : b1 = none := e2
      subst e1 e2
      obtain ⟨a, ha, rfl⟩ : ∃ a, its[j]? = some a ∧ x = .ref a := by
        rw [List.getElem?_map] at hj
        cases q : its[j]? with
        | none => rw [q] at hj; cases hj
        | some a => rw [q] at hj; exact ⟨a, rfl, (Option.some.inj hj).symm⟩
      have hlt := (List.getElem?_eq_some_iff.mp ha).1
      obtain ⟨v, hx⟩ : ∃ v, vals[j]? = some v := ⟨vals[j]'(by omega), List.getElem?_eq_getElem (by omega)⟩
      have am : a ∈ its := List.mem_of_getElem? ha
      refine wpAny_bind (wpAny_holding ?_)
      show wpAny _ _ (Builtin.SmallTypes.nextOf (.ref a) >>= _) _ _ _
      refine wpAny_bind (draw_one (s := ⟨h', g, d, tk0, os⟩) S hv M ha hx fun h2 M2 sb => wpAny_pure (wpAny_pure ⟨_, rfl, ?_, rfl, h2, rfl, M2, sb.extBut _ _ (fun q => S.zi (q ▸ am)) hz', sb.extBut _ _ (fun q => S.Oi (q ▸ am)) hO'⟩))
      show ((vals.take j).toArray.push v) = _
      rw [List.take_add_one, hx]
      simp
    · rintro ⟨b1, b2⟩ s' ⟨e1, e2, h', rfl, M, hz', hO'⟩
      have e1 : b2 = (vals.take (0 + (its.map Value.ref).length)).toArray := e1
      have e2 : b1 = none := e2
      rw [Nat.zero_add, List.length_map, ← hlen, List.take_length] at e1
      rw [Nat.zero_add] at M
      have M : Mid bb hp h' z TI TO its ls vals i its.length := by
        rw [show (its.map Value.ref).toArray.toList.length = its.length by simp] at M
        exact M
      subst e1 e2
      show wpAny _ _ (newTuple vals >>= _) _ _ _
      refine wpAny_bind (wpAny_newTuple ?_)
      refine wpAny_pure ⟨_, rfl, ?_⟩
      show Q (.ref h'.objs.size) _
      have hsz : h'.objs.size = hp.objs.size := M.sz
      have hT : (h'.push (tO vals)).get? h'.objs.size = some (tO vals) := Heap.get?_push_size _ rfl
      have hzs : (h'.push (tO vals)).objs.size = h'.objs.size + 1 := Heap.size_push ..
      rw [hsz] at hT hzs ⊢
      refine hQ _ ⟨⟨f0, f1', q0, q1', Heap.get?_push_of_some _ hz'⟩, Heap.get?_push_of_some _ (hTI1 h' M), ⟨olds, hol, Heap.get?_push_of_some _ hO'⟩, fun k a l ha hl => ?_⟩ hT hzs fun c o n1 n2 n3 e => Heap.get?_push_of_some _ (M.keep c o n1 n2 n3 e)
      have := M.it k a l ha hl
      rw [if_pos (List.getElem?_eq_some_iff.mp ha).1] at this
      exact this.at fun o e => Heap.get?_push_of_some _ e
  | true =>
    simp only [if_true]
    refine wpAny_bind (wpAny_rule ?_)
    refine wpAny_bind (wpAny_field hz1 rfl (x := .ref TO) rfl ?_)
    refine wpAny_bind (wpAny_setField_rec hz1 (by simp) fun h2 hz2 hs2 => ?_)
    refine wpAny_bind ?_
    refine wp_forIn (Inv := fun k b s' => b.fst = none ∧ ∃ h' ol, s' = ⟨h', g, d, tk0, os⟩ ∧ Mid bb hp h' z TI TO its ls vals i k ∧ h'.get? z = some (zO .ellipsis f1' TI TO) ∧ h'.get? TO = some (tO ol) ∧ ol.length = its.length ∧ ol.take k = vals.take k) _ 0 _ _ ?_ ⟨rfl, h2, olds, rfl, ⟨hs2.1.trans M0.sz, fun c o n1 n2 n3 e => hs2.extBut _ _ n1 (M0.keep c o n1 n2 n3 e), fun j a l ha hl => (M0.it j a l ha hl).at fun o e => hs2.extBut _ _ (fun q => S.zi (q ▸ List.mem_of_getElem? ha)) e⟩, hz2, hs2.extBut _ _ (Ne.symm S.zo) hTO1, hol, rfl⟩ ?_
    · rintro j ⟨x, jx⟩ ⟨b1, b2⟩ s' hj ⟨e2, h', ol, rfl, M, hz', hO', hol', htk⟩
      rw [Nat.zero_add] at M htk ⊢
      have e2 : b1 = none := e2
      subst e2
      obtain ⟨a, ha, rfl, rfl⟩ : ∃ a, its[j]? = some a ∧ x = .ref a ∧ jx = j := by
        rw [List.getElem?_zipIdx, List.getElem?_map] at hj
        cases q : its[j]? with
        | none => rw [q] at hj; cases hj
        | some a =>
          rw [q] at hj
          have := Option.some.inj hj
          have h1 := congrArg Prod.fst this
          have h2 := congrArg Prod.snd this
          exact ⟨a, rfl, h1.symm, by simpa using h2.symm⟩
      have hlt := (List.getElem?_eq_some_iff.mp ha).1
      obtain ⟨v, hx⟩ : ∃ v, vals[jx]? = some v := ⟨vals[jx]'(by omega), List.getElem?_eq_getElem (by omega)⟩
      have am : a ∈ its := List.mem_of_getElem? ha
      refine wpAny_bind (wpAny_onRaise ?_)
      show wpAny _ _ (Builtin.SmallTypes.nextOf (.ref a) >>= _) _ _ _
      refine wpAny_bind (draw_one (s := ⟨h', g, d, tk0, os⟩) S hv M ha hx fun h3 M3 sb => wpAny_pure ?_)
      have hO3 : h3.get? TO = some (tO ol) := sb.extBut TO _ (fun q => S.Oi (by rw [q]; exact am)) hO'
      have hz3 := sb.extBut z _ (fun q => S.zi (by rw [q]; exact am)) hz'
      refine wpAny_bind (wpAny_seqItems (s := ⟨h3, g, d, tk0, os⟩) hO3 rfl ?_)
      refine wpAny_bind (upd_tup (s := ⟨h3, g, d, tk0, os⟩) hO3 (by rw [sizeLine_eq]; omega) fun h4 hO4 sb4 => ?_)
      refine wpAny_bind (wpAny_letGo (wpAny_pure ⟨_, rfl, rfl, h4, _, rfl, ⟨sb4.1.trans M3.sz, fun c o n1 n2 n3 e => sb4.extBut _ _ n2 (M3.keep c o n1 n2 n3 e), fun j' a' l' ha' hl' => (M3.it j' a' l' ha' hl').at fun o e => sb4.extBut _ _ (fun q => S.Oi (q ▸ List.mem_of_getElem? ha')) e⟩, sb4.extBut _ _ S.zo hz3, hO4, by rw [List.length_set]; exact hol', ?_⟩))
      rw [List.take_add_one, List.take_add_one, List.take_set_of_le (Nat.le_refl _), htk, hx, List.getElem?_set_self (by omega)]
    · rintro ⟨b1, b2⟩ s' ⟨e2, h', ol, rfl, M, hz', hO', hol', htk⟩
      have e2 : b1 = none := e2
      subst e2
      have el : 0 + ((its.map Value.ref).toArray.toList.zipIdx).length = its.length := by simp
      rw [el] at M htk
      have ev : ol = vals := by
        rw [← hol', List.take_length, hol', ← hlen, List.take_length] at htk
        exact htk
      subst ev
      refine wpAny_bind (wpAny_seqItems (s := ⟨h', g, d, tk0, os⟩) hO' rfl ?_)
      refine wpAny_bind (wpAny_newTuple ?_)
      have hsz : h'.objs.size = hp.objs.size := M.sz
      have hzlt : z < h'.objs.size := Heap.lt_size hz'
      show wpAny _ _ (Builtin.SmallTypes.ownedTupleHandOut (.ref z) (.ref h'.objs.size) >>= _) _ _ ⟨h'.push (tO ol), g, d, tk0, os⟩
      refine wpAny_bind ?_
      unfold Builtin.SmallTypes.ownedTupleHandOut
      have hz6 : (h'.push (tO ol)).get? z = some (zO .ellipsis f1' TI TO) := Heap.get?_push_of_some _ hz'
      refine wpAny_bind (wpAny_setField_rec hz6 (by simp) fun h7 hz7 hs7 => ?_)
      replace hz7 : h7.get? z = some (zO (rawInt h'.objs.size) f1' TI TO) := hz7
      refine wpAny_setField_rec hz7 (by simp) fun h8 hz8 hs8 => ?_
      replace hz8 : h8.get? z = some (zO (rawInt h'.objs.size) (.bool false) TI TO) := hz8
      replace hs7 : Heap.SameBut z (h'.push (tO ol)) h7 := hs7
      replace hs8 : Heap.SameBut z h7 h8 := hs8
      have up : ∀ c o, c ≠ z → h'.get? c = some o → h8.get? c = some o := fun c o c1 e => hs8.extBut _ _ c1 (hs7.extBut _ _ c1 (Heap.get?_push_of_some _ e))
      have hT8 : h8.get? h'.objs.size = some (tO ol) := hs8.extBut _ _ (Nat.ne_of_gt hzlt) (hs7.extBut _ _ (Nat.ne_of_gt hzlt) (Heap.get?_push_size _ rfl))
      have hsz8 : h8.objs.size = h'.objs.size + 1 := by rw [hs8.1, hs7.1, Heap.size_push]
      rw [hsz] at hT8 hsz8 hz8
      refine wpAny_pure ⟨_, rfl, ?_⟩
      show Q (.ref h'.objs.size) ⟨h8, g, d, tk0, os⟩
      rw [hsz]
      refine hQ h8 ⟨⟨_, _, .inr ⟨_, rfl⟩, ⟨_, rfl⟩, hz8⟩, up TI _ (Ne.symm S.zT) (hTI1 h' M), ⟨ol, hol', up TO _ (Ne.symm S.zo) hO'⟩, fun k a l ha hl => ?_⟩ hT8 hsz8 fun c o n1 n2 n3 e => up c o n1 (M.keep c o n1 n2 n3 e)
      have := M.it k a l ha hl
      rw [if_pos (List.getElem?_eq_some_iff.mp ha).1] at this
      exact this.at fun o e => up a o (fun q => S.zi (by rw [← q]; exact List.mem_of_getElem? ha)) e
theorem next_end {Q : PySem.Fin → Shared → Prop} (hh : A.handled = none) (S : Sep z TI TO its ls) (Z : ZS bb s.heap z TI TO its ls i) (he : ∀ (l : Addr), ls[0]? = some l → ∃ items, SeqB bb s.heap l items ∧ items[i]? = none)
    (hE : ∀ h' e, (∀ c o, c ≠ z → c ≠ TO → c ∉ its → s.heap.get? c = some o → h'.get? c = some o) → (∃ o, h'.get? e = some o ∧ o.cls = .type "StopIteration") → E (.ref e) { s with heap := h' }) :
    wpAny (model prog w) A (Builtin.«zip.__next__» ⟨[.ref z], []⟩) Q E s := by
  obtain ⟨hp, g, d, tk0, os⟩ := s
  obtain ⟨f0, f1, q0, q1, hz⟩ := Z.zz
  show wpAny _ _ (field (.ref z) 2 >>= _) _ _ _
  refine wpAny_bind (wpAny_field hz rfl (x := .bool false) rfl ?_)
  show wpAny _ _ (field (.ref z) 3 >>= _) _ _ _
  refine wpAny_bind (wpAny_field hz rfl (x := .ref TI) rfl ?_)
  refine wpAny_bind (wpAny_seqItems Z.ti rfl ?_)
  cases its with
  | nil =>
    refine wpAny_ite_true rfl ?_
    refine wpAny_bind (wpAny_rule (wpAny_bind ?_))
    show wpAny _ _ (newExc (.type "StopIteration") [] >>= _) _ _ _
    refine wpAny_bind ?_
    simp only [newExc, newTuple]
    refine wpAny_bind (wpAny_newObj_type ?_ (by size_fits))
    refine wpAny_bind (m := firstArgMember _ _) (wpAny_of_eq (a := Value.none) (by first | rfl | (simp only [firstArgMember]; rfl)) ?_)
    refine wpAny_newObj_type ?_ (by size_fits)
    simp only [raiseNew]
    refine wpAny_bind (wpAny_handled ?_)
    rw [hh]
    refine wpAny_bind (wpAny_pure (wpAny_throw ?_))
    exact hE _ _ (fun c o _ _ _ e => Heap.get?_push_of_some _ (Heap.get?_push_of_some _ e)) ⟨_, Heap.get?_push_size _ rfl, rfl⟩
  | cons a r =>
    have am : a ∈ a :: r := List.mem_cons_self
    obtain ⟨l, hl⟩ : ∃ l, ls[0]? = some l := by
      have := S.len
      cases ls with
      | nil => simp at this
      | cons l _ => exact ⟨l, rfl⟩
    obtain ⟨items, hi1, hi2⟩ := he l hl
    have lm : l ∈ ls := List.mem_of_getElem? hl
    have hit := Z.it 0 a l rfl hl
    have nemp : (((a :: r).map Value.ref).toArray.isEmpty) = false := rfl
    simp only [nemp, Bool.false_eq_true, if_false]
    show wpAny _ _ (Builtin.SmallTypes.ownedTupleIsFree (.ref z) >>= _) _ _ _
    refine wpAny_bind (wp_free q0 q1 hz fun b h1 f1' q1' hz1 hs1 => ?_)
    cases b with
    | false =>
      simp only [Bool.false_eq_true, if_false]
      refine wpAny_bind ?_
      rw [← Array.forIn_toList]
      rw [show (((a :: r).map Value.ref).toArray.toList) = Value.ref a :: r.map Value.ref from rfl, List.forIn_cons]
      refine wpAny_bind (wpAny_bind (wpAny_holding ?_))
      show wpAny _ _ (Builtin.SmallTypes.nextOf (.ref a) >>= _) _ _ ⟨h1, g, d, tk0, os⟩
      refine wpAny_bind (nextB_end (s := ⟨h1, g, d, tk0, os⟩) hh (hit.at fun o e => hs1.extBut _ _ (fun q => S.zi (by rw [← q]; exact am)) e) (hi1.at fun o e => hs1.extBut _ _ (fun q => S.zl (by rw [← q]; exact lm)) e) hi2 fun h2 e hs2 he => ?_)
      exact hE h2 e (fun c o n1 n2 n3 x => hs2 _ _ (fun q => n3 (by rw [q]; exact am)) (hs1.extBut _ _ n1 x)) he
    | true =>
      simp only [if_true]
      refine wpAny_bind (wpAny_rule ?_)
      refine wpAny_bind (wpAny_field hz1 rfl (x := .ref TO) rfl ?_)
      refine wpAny_bind (wpAny_setField_rec hz1 (by simp) fun h2 hz2 hs2 => ?_)
      replace hz2 : h2.get? z = some (zO .ellipsis f1' TI TO) := hz2
      replace hs2 : Heap.SameBut z h1 h2 := hs2
      refine wpAny_bind ?_
      rw [show (((a :: r).map Value.ref).toArray.toList.zipIdx) = (Value.ref a, 0) :: (r.map Value.ref).zipIdx 1 from rfl, List.forIn_cons]
      refine wpAny_bind (wpAny_bind (wpAny_onRaise ?_))
      show wpAny _ _ (Builtin.SmallTypes.nextOf (.ref a) >>= _) _ _ ⟨h2, g, d, tk0, os⟩
      have kp : ∀ c o, c ≠ z → hp.get? c = some o → h2.get? c = some o := fun c o n e => hs2.extBut _ _ n (hs1.extBut _ _ n e)
      refine wpAny_bind (nextB_end (s := ⟨h2, g, d, tk0, os⟩) hh (hit.at fun o e => kp _ _ (fun q => S.zi (by rw [← q]; exact am)) e) (hi1.at fun o e => kp _ _ (fun q => S.zl (by rw [← q]; exact lm)) e) hi2 fun h3 e hs3 he => ?_)
      replace hs3 : Heap.ExtBut a h2 h3 := hs3
      obtain ⟨oe, hoe, hce⟩ := he
      replace hoe : h3.get? e = some oe := hoe
      have hz3 : h3.get? z = some (zO .ellipsis f1' TI TO) := hs3 _ _ (fun q => S.zi (by rw [q]; exact am)) hz2
      have hez : e ≠ z := fun x => by subst x; rw [hz3] at hoe; cases hoe; simp at hce
      refine wpAny_setField_rec (s := ⟨h3, g, d, tk0, os⟩) hz3 (by simp) fun h4 _ hs4 => ?_
      replace hs4 : Heap.SameBut z h3 h4 := hs4
      exact hE h4 e (fun c o n1 n2 n3 x => hs4.extBut _ _ n1 (hs3 _ _ (fun q => n3 (by rw [q]; exact am)) (kp _ _ n1 x))) ⟨oe, hs4.extBut _ _ hez hoe, hce⟩
theorem pyNext_item {Q : Option Value → Shared → Prop} (S : Sep z TI TO its ls) (Z : ZS bb s.heap z TI TO its ls i) (hv : Have bb s.heap ls vals i) (ne : its ≠ []) (hf : its.length ≤ 1000)
    (hQ : ∀ h', ZS bb h' z TI TO its ls (i + 1) → h'.get? s.heap.objs.size = some (tO vals) → h'.objs.size = s.heap.objs.size + 1 → (∀ c o, c ≠ z → c ≠ TO → c ∉ its → s.heap.get? c = some o → h'.get? c = some o) → Q (some (.ref s.heap.objs.size)) { s with heap := h' }) :
    wpAny (model prog w) A (pyNext (.ref z)) Q E s := by
  obtain ⟨f0, f1, _, _, hz⟩ := Z.zz
  have hTy : s.TypeIs (.ref z) "zip" := ⟨_, hz, rfl⟩
  unfold pyNext
  exact wpAny_bind (wpAny_attempt (wpAny_callSpecial?_slot (name := Str.ofString "__next__") hTy PySem.F.slot_zip_next
    (wpAny_call_entry PySem.F.slot_zip_next hTy PySem.F.entry_zip_next
      (next_item S Z hv ne hf fun h' a1 a2 a3 a4 => wpAny_pure (hQ h' a1 a2 a3 a4)) (PySem.F.args_zip_next_1 _))))
theorem pyNext_end {Q : Option Value → Shared → Prop} (hh : A.handled = none) (S : Sep z TI TO its ls) (Z : ZS bb s.heap z TI TO its ls i) (he : ∀ (l : Addr), ls[0]? = some l → ∃ items, SeqB bb s.heap l items ∧ items[i]? = none)
    (hQ : ∀ h', (∀ c o, c ≠ z → c ≠ TO → c ∉ its → s.heap.get? c = some o → h'.get? c = some o) → Q none { s with heap := h' }) : wpAny (model prog w) A (pyNext (.ref z)) Q E s := by
  obtain ⟨f0, f1, _, _, hz⟩ := Z.zz
  have hTy : s.TypeIs (.ref z) "zip" := ⟨_, hz, rfl⟩
  unfold pyNext
  refine wpAny_bind (wpAny_attempt (wpAny_callSpecial?_slot (name := Str.ofString "__next__") hTy PySem.F.slot_zip_next
    (wpAny_call_entry PySem.F.slot_zip_next hTy PySem.F.entry_zip_next (next_end hh S Z he fun h' e hk he => ?_) (PySem.F.args_zip_next_1 _))))
  obtain ⟨o, ho, hc⟩ := he
  refine wpAny_bind (wpAny_isInstance (T := "StopIteration") (b := true) ⟨o, ho, hc⟩ isSubtype_stop ?_)
  exact wpAny_pure (hQ _ hk)
end
end Zn

namespace Zn
open PySem PySem.Spec PyProof.Rows L2 Fr Fw
theorem typeCall_n : ∀ xs : List Value, xs.length ≤ 7 → checkTypeCall "zip" ⟨xs, []⟩ = pure ()
  | [], _ => by kernel_rfl
  | [_], _ => by kernel_rfl
  | [_, _], _ => by kernel_rfl
  | [_, _, _], _ => by kernel_rfl
  | [_, _, _, _], _ => by kernel_rfl
  | [_, _, _, _, _], _ => by kernel_rfl
  | [_, _, _, _, _, _], _ => by kernel_rfl
  | [_, _, _, _, _, _, _], _ => by kernel_rfl
  | _ :: _ :: _ :: _ :: _ :: _ :: _ :: _ :: _, h => by simp at h
theorem newCall_n : ∀ xs : List Value, xs.length ≤ 7 → checkBuiltinCall "zip.__new__" ⟨.type "zip" :: xs, []⟩ = pure ()
  | [], _ => by kernel_rfl
  | [_], _ => by kernel_rfl
  | [_, _], _ => by kernel_rfl
  | [_, _, _], _ => by kernel_rfl
  | [_, _, _, _], _ => by kernel_rfl
  | [_, _, _, _, _], _ => by kernel_rfl
  | [_, _, _, _, _, _], _ => by kernel_rfl
  | [_, _, _, _, _, _, _], _ => by kernel_rfl
  | _ :: _ :: _ :: _ :: _ :: _ :: _ :: _ :: _, h => by simp at h
theorem args_n (obj : Value) : ∀ xs : List Value, xs.length ≤ 7 → argsOk "object.__init__" ⟨obj :: xs, []⟩
  | [], _ => by unfold argsOk; kernel_rfl
  | [_], _ => by unfold argsOk; kernel_rfl
  | [_, _], _ => by unfold argsOk; kernel_rfl
  | [_, _, _], _ => by unfold argsOk; kernel_rfl
  | [_, _, _, _], _ => by unfold argsOk; kernel_rfl
  | [_, _, _, _, _], _ => by unfold argsOk; kernel_rfl
  | [_, _, _, _, _, _], _ => by unfold argsOk; kernel_rfl
  | [_, _, _, _, _, _, _], _ => by unfold argsOk; kernel_rfl
  | _ :: _ :: _ :: _ :: _ :: _ :: _ :: _ :: _, h => by simp at h
abbrev itO (bb : Bool) (l : Addr) : Obj := { cls := .type (if bb then "tuple_iterator" else "list_iterator"), data := .fields #[.ref l, .int 0 0] }
def pushI (bb : Bool) : Heap → List Addr → Heap
  | h, [] => h
  | h, l :: r => pushI bb (h.push (itO bb l)) r
theorem pushI_size {bb : Bool} : ∀ (ls : List Addr) (h : Heap), (pushI bb h ls).objs.size = h.objs.size + ls.length
  | [], h => rfl
  | l :: r, h => by
    show (pushI bb (h.push (itO bb l)) r).objs.size = _
    rw [pushI_size r, Heap.size_push, List.length_cons]
    omega
theorem pushI_keep {bb : Bool} : ∀ (ls : List Addr) {h : Heap} {b : Addr} {o : Obj}, h.get? b = some o → (pushI bb h ls).get? b = some o
  | [], _, _, _, e => e
  | l :: r, _, _, _, e => pushI_keep r (Heap.get?_push_of_some _ e)
theorem pushI_at {bb : Bool} : ∀ (ls : List Addr) {h : Heap} {k : Nat} {l : Addr}, ls[k]? = some l → (pushI bb h ls).get? (h.objs.size + k : Nat) = some (itO bb l)
  | [], _, k, _, e => by simp at e
  | l :: r, h, 0, l', e => by
    simp at e
    subst e
    exact pushI_keep r (Heap.get?_push_size _ rfl)
  | l :: r, h, k + 1, l', e => by
    have := pushI_at (bb := bb) r (h := h.push (itO bb l)) (k := k) (by simpa using e)
    rw [Heap.size_push] at this
    rw [show h.objs.size + (k + 1) = h.objs.size + 1 + k by omega]
    exact this
theorem pushI_snoc {bb : Bool} : ∀ (ls : List Addr) (h : Heap) (l : Addr), pushI bb h (ls ++ [l]) = (pushI bb h ls).push (itO bb l)
  | [], _, _ => rfl
  | _ :: r, h, l => pushI_snoc r _ l
theorem iterB {prog : Program} {w : World} {A : Around} {E : Value → Shared → Prop} {s : Shared} {bb : Bool} {l : Addr} {items : Array Value} {Q : Value → Shared → Prop} (hl : SeqB bb s.heap l items) (hQ : Q (.ref s.heap.objs.size) { s with heap := s.heap.push (itO bb l) }) : wpAny (model prog w) A (pyIter (.ref l)) Q E s := by
  cases bb
  · exact wpAny_pyIter_list hl hQ
  · exact wpAny_pyIter_tuple hl hQ
theorem iterO {bb : Bool} {h : Heap} {a l : Addr} (e : h.get? a = some (itO bb l)) : IterB bb h a l 0 := by
  cases bb
  · exact ⟨_, e, rfl, rfl⟩
  · exact ⟨_, e, rfl, rfl⟩
def itsOf (h : Heap) (n : Nat) : List Addr := (List.range n).map fun k => (h.objs.size + k : Nat)
theorem meets_newN (bb : Bool) (ls : List Addr) (hl : ls.length ≤ 7) : Meets (Builtin.«zip.__new__» ⟨.type "zip" :: ls.map .ref, []⟩) fun _ R s => (∀ l ∈ ls, ∃ items, SeqB bb s.heap l items) ∧
    R (.ok (.ret (.ref (s.heap.objs.size + ls.length + 2 : Nat)))) { s with heap := (((pushI bb s.heap ls).push (tO ((itsOf s.heap ls.length).map .ref))).push (tO (ls.map fun _ => .none))).push { cls := .type "zip", data := .fields #[.none, .bool false, .bool false, .ref (s.heap.objs.size + ls.length : Nat), .ref (s.heap.objs.size + ls.length + 1 : Nat)] } } := Meets.of_wp fun prog w A R s h => by
  obtain ⟨h0, h⟩ := h
  have hsub := sub_zip
  unfold Builtin.«zip.__new__»
  refine wpAny_bind ?_
  unfold Builtin.SmallTypes.newClass
  refine wpAny_bind (wpAny_pure (wpAny_ite_false rfl (wpAny_bind (wpAny_of_eq hsub (wpAny_ite_false rfl (wpAny_pure ?_))))))
  show wpAny _ _ (if (0 > 1) then _ else _) _ _ _
  rw [if_neg (by decide)]
  show wpAny _ _ (Builtin.SmallTypes.iterAll (ls.map Value.ref) >>= _) _ _ _
  refine wpAny_bind ?_
  unfold Builtin.SmallTypes.iterAll
  refine wpAny_bind (wp_forIn (Inv := fun k b s' => b = ((itsOf s.heap k).map Value.ref).toArray ∧ s' = { s with heap := pushI bb s.heap (ls.take k) }) _ 0 _ _ ?_ ⟨rfl, rfl⟩ ?_)
  · rintro j x b s' hj ⟨rfl, rfl⟩
    rw [Nat.zero_add]
    obtain ⟨l, hl', rfl⟩ : ∃ l, ls[j]? = some l ∧ x = .ref l := by
      rw [List.getElem?_map] at hj
      cases q : ls[j]? with
      | none => rw [q] at hj; cases hj
      | some a => rw [q] at hj; exact ⟨a, rfl, (Option.some.inj hj).symm⟩
    obtain ⟨items, hi⟩ := h0 l (List.mem_of_getElem? hl')
    have hlt := (List.getElem?_eq_some_iff.mp hl').1
    refine wpAny_bind (wpAny_holding (iterB (bb := bb) (s := { s with heap := pushI bb s.heap (ls.take j) }) (hi.at fun o e => pushI_keep _ e) (wpAny_pure ⟨_, rfl, ?_, ?_⟩)))
    · show ((itsOf s.heap j).map Value.ref).toArray.push (.ref (pushI bb s.heap (ls.take j)).objs.size) = _
      rw [pushI_size, List.length_take, Nat.min_eq_left (by omega)]
      unfold itsOf
      rw [List.range_succ]
      simp
    · rw [List.take_add_one, hl', Option.toList_some, pushI_snoc]
  · rintro b s' ⟨rfl, rfl⟩
    have e1 : ls.take (0 + (ls.map Value.ref).length) = ls := by simp
    have e2 : 0 + (ls.map Value.ref).length = ls.length := by simp
    rw [e1, e2]
    refine wpAny_pure ?_
    show wpAny _ _ (newTuple ((itsOf s.heap ls.length).map Value.ref) >>= _) _ _ _
    have z0 : (pushI bb s.heap ls).objs.size = s.heap.objs.size + ls.length := pushI_size ls s.heap
    refine wpAny_bind (wpAny_newTuple ?_ (by simp [itsOf, sizeLine_eq]; omega))
    have e3 : (List.map (fun _ => Value.none) ((itsOf s.heap ls.length).map Value.ref).toArray.toList) = ls.map fun _ => Value.none := List.ext_getElem (by simp [itsOf]) fun i h1 h2 => by simp
    rw [e3]
    refine wpAny_bind (wpAny_newTuple ?_ (by simp [sizeLine_eq]; omega))
    refine wpAny_bind ?_
    show wpAny _ _ (newObj (Value.type "zip") (Data.fields #[.none, .bool false, .bool false, .ref (pushI bb s.heap ls).objs.size, .ref ((pushI bb s.heap ls).push (tO ((itsOf s.heap ls.length).map .ref))).objs.size])) _ _ _
    refine wpAny_newObj_type ?_ (by show (_ : Nat) ≤ _; simp; rw [sizeLine_eq]; omega)
    have z1 : ((pushI bb s.heap ls).push (tO ((itsOf s.heap ls.length).map .ref))).objs.size = s.heap.objs.size + ls.length + 1 := by rw [Heap.size_push, z0]
    have z2 : (((pushI bb s.heap ls).push (tO ((itsOf s.heap ls.length).map .ref))).push (tO (ls.map fun _ => Value.none))).objs.size = s.heap.objs.size + ls.length + 2 := by rw [Heap.size_push, z1]
    refine wpAny_pure ⟨_, rfl, ?_⟩
    show R (.ok (.ret (.ref (((pushI bb s.heap ls).push (tO ((itsOf s.heap ls.length).map .ref))).push (tO (ls.map fun _ => Value.none))).objs.size))) _
    rw [z2, z0, z1]
    exact h
theorem sep_of {h : Heap} {ls : List Addr} (hlt : ∀ l ∈ ls, l < h.objs.size) : Sep (h.objs.size + ls.length + 2 : Nat) (h.objs.size + ls.length : Nat) (h.objs.size + ls.length + 1 : Nat) (itsOf h ls.length) ls := by
  have im : ∀ a, a ∈ itsOf h ls.length → (h.objs.size : Nat) ≤ a ∧ (a : Nat) < h.objs.size + ls.length := fun a ha => by
    obtain ⟨k, hk, rfl⟩ := List.mem_map.mp ha
    have := List.mem_range.mp hk
    exact ⟨by show (h.objs.size : Nat) ≤ h.objs.size + k; omega, by show (h.objs.size + k : Nat) < _; omega⟩
  have ne : ∀ {a b : Nat}, ¬ a = b → @Ne Addr a b := fun q => q
  refine ⟨ne (by omega), ne (by omega), ne (by omega), fun q => ?_, fun q => ?_, fun q => ?_, ?_, fun q => ?_, fun q => ?_, fun a ha q => ?_, by simp [itsOf]⟩
  · have := (im _ q).2
    have this : (h.objs.size + ls.length + 2 : Nat) < h.objs.size + ls.length := this
    omega
  · have := (im _ q).2
    have this : (h.objs.size + ls.length : Nat) < h.objs.size + ls.length := this
    omega
  · have := (im _ q).2
    have this : (h.objs.size + ls.length + 1 : Nat) < h.objs.size + ls.length := this
    omega
  · unfold itsOf List.Nodup
    rw [List.pairwise_map]
    exact List.nodup_range.imp fun {a b} n e => n (Nat.add_left_cancel e)
  · have := hlt _ q
    have this : (h.objs.size + ls.length + 2 : Nat) < h.objs.size := this
    omega
  · have := hlt _ q
    have this : (h.objs.size + ls.length + 1 : Nat) < h.objs.size := this
    omega
  · have h1 := (im _ ha).1
    have h2 := hlt _ q
    exact absurd (Nat.lt_of_lt_of_le h2 h1) (Nat.lt_irrefl _)
section
variable {prog : Program} {w : World} {A : Around} {E : Value → Shared → Prop} {s : Shared} {bb : Bool}
theorem call_n {ls : List Addr} {Q : Value → Shared → Prop} (hl : ls.length ≤ 7) (h0 : ∀ l ∈ ls, ∃ items, SeqB bb s.heap l items)
    (h : ∀ h', ZS bb h' (s.heap.objs.size + ls.length + 2 : Nat) (s.heap.objs.size + ls.length : Nat) (s.heap.objs.size + ls.length + 1 : Nat) (itsOf s.heap ls.length) ls 0 → (∀ c o, s.heap.get? c = some o → h'.get? c = some o) → Q (.ref (s.heap.objs.size + ls.length + 2 : Nat)) { s with heap := h' }) :
    wpAny (model prog w) A (call (.type "zip") (ls.map .ref)) Q E s := by
  have hl' : (ls.map Value.ref).length ≤ 7 := by rw [List.length_map]; exact hl
  refine callType_new PySem.F.called_zip (by decide) (typeCall_n _ hl') (newCall_n _ hl') (fun obj => args_n obj _ hl') PySem.F.entry_zip_new (meets_newN bb ls hl) ⟨h0, ?_⟩
  have z0 : (pushI bb s.heap ls).objs.size = s.heap.objs.size + ls.length := pushI_size ls s.heap
  have z1 : ((pushI bb s.heap ls).push (tO ((itsOf s.heap ls.length).map .ref))).objs.size = s.heap.objs.size + ls.length + 1 := by rw [Heap.size_push, z0]
  have z2 : (((pushI bb s.heap ls).push (tO ((itsOf s.heap ls.length).map .ref))).push (tO (ls.map fun _ => Value.none))).objs.size = s.heap.objs.size + ls.length + 2 := by rw [Heap.size_push, z1]
  have gZ := Heap.get?_push_size (((pushI bb s.heap ls).push (tO ((itsOf s.heap ls.length).map .ref))).push (tO (ls.map fun _ => Value.none))) (o := { cls := .type "zip", data := .fields #[.none, .bool false, .bool false, .ref (s.heap.objs.size + ls.length : Nat), .ref (s.heap.objs.size + ls.length + 1 : Nat)] }) rfl
  have gO := Heap.get?_push_size ((pushI bb s.heap ls).push (tO ((itsOf s.heap ls.length).map .ref))) (o := tO (ls.map fun _ => Value.none)) rfl
  have gT := Heap.get?_push_size (pushI bb s.heap ls) (o := tO ((itsOf s.heap ls.length).map .ref)) rfl
  rw [z2] at gZ
  rw [z1] at gO
  rw [z0] at gT
  refine ⟨⟨_, gZ, rfl⟩, h _ ⟨⟨_, _, .inl rfl, ⟨_, rfl⟩, gZ⟩, Heap.get?_push_of_some _ (Heap.get?_push_of_some _ gT), ⟨_, by simp [itsOf], Heap.get?_push_of_some _ gO⟩, fun k a l ha hl2 => ?_⟩ fun c o e => Heap.get?_push_of_some _ (Heap.get?_push_of_some _ (Heap.get?_push_of_some _ (pushI_keep ls e)))⟩
  have ea : a = (s.heap.objs.size + k : Nat) := by
    have hlt := (List.getElem?_eq_some_iff.mp hl2).1
    have ha : (itsOf s.heap ls.length)[k]? = some a := ha
    unfold itsOf at ha
    rw [List.getElem?_map, List.getElem?_range hlt] at ha
    exact (Option.some.inj ha).symm
  rw [ea]
  exact iterO (Heap.get?_push_of_some _ (Heap.get?_push_of_some _ (Heap.get?_push_of_some _ (pushI_at ls hl2))))
end
end Zn

namespace Zn
open PySem PySem.Spec PyProof.Rows L2 Fr Fw
def SqB (bb : Bool) (K : Frag) (H : Hp) (a : Addr) (xs : List V) : Prop := match bb with
  | true => SqT K H a xs
  | false => SqL K H a xs
def Sqs (bb : Bool) (K : Frag) (H : Hp) (ls : List Addr) (xss : List (List V)) : Prop := Paired (fun a xs => SqB bb K H a xs) ls xss
def ItzN (bb : Bool) (K : Frag) (ls : List Addr) : It where
  go i H := ls ≠ [] ∧ ∃ xss : List (List V), Sqs bb K H ls xss ∧ ∀ xs ∈ xss, i < xs.length
  yld i H v H' := ∃ T vs, v = .ref T ∧ H T = none ∧ H' = upd H T (.tup vs) ∧ ∀ xss, Sqs bb K H ls xss → vs = xss.map fun xs => xs.getD i .non
  stop i H := ls = [] ∨ ∃ a r xs, ls = a :: r ∧ SqB bb K H a xs ∧ xs.length ≤ i
theorem seqB_of {X : Cx} {pins : List (Addr × Obj)} {σ : L2.St} {H : Hp} {s : Shared} {bb : Bool} {a : Addr} {xs : List V} (I : Inv X pins σ H s) (h : SqB bb X.K H a xs) : ∃ its : List Value, Vals xs its ∧ SeqB bb s.heap a its.toArray := by
  cases bb
  · obtain ⟨its, rv, p, _⟩ := I.list h
    exact ⟨its, rv, PlainL.isList p⟩
  · obtain ⟨its, rv, p, _⟩ := I.tuple h
    exact ⟨its, rv, p⟩
theorem sqs_inj {X : Cx} {pins : List (Addr × Obj)} {σ : L2.St} {H : Hp} {s : Shared} {bb : Bool} (I : Inv X pins σ H s) : ∀ {ls : List Addr} {xss yss : List (List V)}, Sqs bb X.K H ls xss → Sqs bb X.K H ls yss → xss = yss
  | [], _, _, .nil, .nil => rfl
  | _ :: _, _, _, .cons h t, .cons h2 t2 => by
    rw [sqs_inj I t t2]
    congr 1
    cases bb
    · exact I.list_inj h h2
    · exact I.tuple_inj h h2
theorem have_of {X : Cx} {pins : List (Addr × Obj)} {σ : L2.St} {H : Hp} {s : Shared} {i : Nat} {bb : Bool} (I : Inv X pins σ H s) : ∀ {ls : List Addr} {xss : List (List V)}, Sqs bb X.K H ls xss → (∀ xs ∈ xss, i < xs.length) →
    ∃ vals : List Value, Have bb s.heap ls vals i ∧ Vals (xss.map fun xs => xs.getD i .non) vals
  | _, _, .nil, _ => ⟨[], ⟨rfl, fun k l v h _ => by simp at h⟩, .nil⟩
  | l :: ls, xs :: xss, .cons h t, hl => by
    obtain ⟨vals, ⟨h1, h2⟩, h3⟩ := have_of I t fun ys hy => hl ys (List.mem_cons_of_mem _ hy)
    obtain ⟨its, rv, p⟩ := seqB_of I h
    have hi := hl xs List.mem_cons_self
    obtain ⟨u, hu, ru⟩ := Vals.get rv (List.getElem?_eq_getElem hi)
    have eg : xs.getD i .non = xs[i] := by rw [List.getD_eq_getElem?_getD, List.getElem?_eq_getElem hi]; rfl
    refine ⟨u :: vals, ⟨by rw [List.length_cons, List.length_cons, h1], fun k l' v hk hv => ?_⟩, .cons (by show L2.RelV (xs.getD i .non) u; rw [eg]; exact ru) h3⟩
    cases k with
    | zero =>
      simp at hk hv
      subst hk hv
      exact ⟨its.toArray, p, by rw [List.getElem?_toArray]; exact hu⟩
    | succ k => exact h2 k l' v (by simpa using hk) (by simpa using hv)
theorem turn_n {bb : Bool} {P : Program} {w : World} {K : Frag} {x : Str} {tp : Pos} {z TI TO : Addr} {its ls : List Addr} (S : Sep z TI TO its ls) (hf : ls.length ≤ 7) : Turn P w K (.Name x tp) (ItzN bb K ls) (z :: TI :: TO :: its) z fun i h => ZS bb h z TI TO its ls i where
  mem := List.mem_cons_self
  obj := fun i h Z b hb => by
    obtain ⟨f0, f1, _, _, hz⟩ := Z.zz
    obtain ⟨olds, _, hO⟩ := Z.to
    rcases List.mem_cons.mp hb with rfl | hb
    · exact ⟨_, hz, fun v q => nomatch q⟩
    · rcases List.mem_cons.mp hb with rfl | hb
      · exact ⟨_, Z.ti, fun v q => nomatch q⟩
      · rcases List.mem_cons.mp hb with rfl | hb
        · exact ⟨_, hO, fun v q => nomatch q⟩
        · obtain ⟨k, hk⟩ := List.mem_iff_getElem?.mp hb
          have hlt := (List.getElem?_eq_some_iff.mp hk).1
          rw [S.len] at hlt
          exact (Z.it k b ls[k] hk (List.getElem?_eq_getElem hlt)).obj
  keep := fun i h h' Z k => by
    obtain ⟨f0, f1, q0, q1, hz⟩ := Z.zz
    obtain ⟨olds, q2, hO⟩ := Z.to
    exact ⟨⟨f0, f1, q0, q1, k z (by simp) _ hz⟩, k TI (by simp) _ Z.ti, ⟨olds, q2, k TO (by simp) _ hO⟩, fun j a l ha hl => (Z.it j a l ha hl).at fun o e => k a (by simp [show a ∈ its from List.mem_of_getElem? ha]) o e⟩
  item := fun X hP hw hK hc i pins s σ H E I hfp Z hg => by
    subst hP hw hK
    obtain ⟨hne, xss, hq, hl⟩ := hg
    obtain ⟨vals, hv, rv⟩ := have_of I hq hl
    have lz : ∀ b ∈ z :: TI :: TO :: its, b < s.heap.objs.size := fun b hb => by
      obtain ⟨f0, f1, _, _, hz⟩ := Z.zz
      obtain ⟨olds, _, hO⟩ := Z.to
      rcases List.mem_cons.mp hb with rfl | hb
      · exact Heap.lt_size hz
      · rcases List.mem_cons.mp hb with rfl | hb
        · exact Heap.lt_size Z.ti
        · rcases List.mem_cons.mp hb with rfl | hb
          · exact Heap.lt_size hO
          · obtain ⟨k, hk⟩ := List.mem_iff_getElem?.mp hb
            have hlt := (List.getElem?_eq_some_iff.mp hk).1
            rw [S.len] at hlt
            obtain ⟨o, ho, _⟩ := (Z.it k b ls[k] hk (List.getElem?_eq_getElem hlt)).obj
            exact Heap.lt_size ho
    have ine : its ≠ [] := fun e => hne (by
      have := S.len
      rw [e] at this
      exact List.length_eq_zero_iff.mp this.symm)
    refine pyNext_item S Z hv ine (by rw [S.len]; omega) fun h' Z' hT hsz hk => ⟨.ref s.heap.objs.size, rfl, ?_⟩
    show wpAny _ _ (pure ()) _ _ _
    refine wpAny_pure ?_
    have new : ObjOk X.prog X.w (upd H s.heap.objs.size (.tup (xss.map fun xs => xs.getD i .non))) h' s.heap.objs.size (.tup (xss.map fun xs => xs.getD i .non)) :=
      ⟨by show (xss.map _).length ≤ sizeLine; rw [List.length_map, ← prd_len hq, sizeLine_eq]; omega, vals, rv, _, hT, rfl, 0, rfl⟩
    have I1 := I.turnedNew (h' := h') (t' := s.toks) (ch := z :: TI :: TO :: its) (fun b ob hb q => hk b ob (fun z => hb (by simp [z])) (fun z => hb (by simp [z])) (fun z => hb (by simp [z])) q) hfp (Nat.le_refl _) new
    have nH : H s.heap.objs.size = none := I.hok.fresh (Nat.le_refl _)
    refine ⟨.ref s.heap.objs.size, _, I1, rfl, ⟨_, _, rfl, nH, rfl, fun yss hy => by rw [sqs_inj I hy hq]⟩, Z', fun b hb => ?_⟩
    rw [upd_ne (fun q => absurd (lz b hb) (by rw [q]; exact Nat.lt_irrefl _))]
    exact (hfp b hb).1
  done := fun X hP hw hK hc i pins s σ H E I hfp Z hg => by
    subst hP hw hK
    refine pyNext_end (I.ok.hd hc) S Z (fun l hl => ?_) fun h' hk => ⟨rfl, I.turnedL (ch := z :: TI :: TO :: its) (fun b o hb q => hk b o (fun z => hb (by simp [z])) (fun z => hb (by simp [z])) (fun z => hb (by simp [z])) q) hfp⟩
    rcases hg with e | ⟨a, r, xs, e, hq, hx⟩
    · rw [e] at hl
      simp at hl
    · rw [e] at hl
      simp at hl
      subst hl
      obtain ⟨its', rv, p⟩ := seqB_of I hq
      exact ⟨its'.toArray, p, by rw [List.getElem?_toArray]; exact List.getElem?_eq_none (by rw [← Vals.length rv]; exact hx)⟩
  self := fun A i s Q E Z h => by
    obtain ⟨f0, f1, _, _, hz⟩ := Z.zz
    have hT : s.TypeIs (.ref z) "zip" := ⟨_, hz, rfl⟩
    refine wpAny_pyIter_slot hT PySem.F.slot_zip_iter (wpAny_call_entry PySem.F.slot_zip_iter hT PySem.F.entry_zip_iter ?_ (PySem.F.args_zip_iter_1 _))
    show wpAny _ _ (ret (.ref z)) _ _ s
    exact wpAny_pure ⟨_, rfl, "zip", _, hT, PySem.F.slot_zip_next.lookup, h⟩
end Zn

namespace Fw
open PySem PySem.Spec PyProof.Rows L2 Fr
section
variable {X : Cx} {L : Ly} {e : Expr}
end
end Fw

namespace Fv
open PySem PySem.Spec PyProof.Rows L2 Fr Fw Fs
section
variable {X : Cx} {L : Ly} {cB cE f : Addr} {fd : FuncData} {e : Expr} {pos p : Pos} {j : Nat}
def rMin2 : R1p := ⟨fun xs k => ∃ i j, xs = [.int i, .int j] ∧ k (.int (if j < i then j else i)), fun h ⟨i, j, e, q⟩ => ⟨i, j, e, h _ q⟩⟩
theorem snd_min2 : Snd1 L (fun xs H Q => ∃ i j, xs = [.int i, .int j] ∧ Q (.int (if j < i then j else i)) H) rMin2 := by
  rintro B G H σ ρ vs xs Q r dv ⟨i, j, rfl, k⟩
  cases dv with
  | cons d t =>
    cases d
    cases t with
    | cons d t =>
      cases d
      cases t
      exact ⟨i, j, rfl, k _ G H r (Same.refl _) (.int _)⟩
structure LyS (L : Ly) : Prop where
  scr : ∀ {H v vs}, L.Ob 5 H v vs ↔ ∃ a, v = .ref a ∧ SqL L.K H a vs
def rLenS : R1p := ⟨fun xs k => ∃ ds, xs = [.obj 5 ds] ∧ k (.int ds.length), fun h ⟨ds, e, q⟩ => ⟨ds, e, h _ q⟩⟩
theorem same_sql {K : Frag} {H H' : Hp} {a : Addr} {xs : List V} (s : Same H H') (h : SqL K H a xs) : SqL K H' a xs := by
  rcases h with (h | ⟨o, h⟩) | h
  · exact .inl (.inl (s _ _ h))
  · exact .inl (.inr ⟨o, s _ _ h⟩)
  · exact .inr h
theorem snd_lenS (LS : LyS L) : Snd1 L (fun xs H Q => ∃ p ys, xs = [.ref p] ∧ (SqL L.K H p ys ∨ SqT L.K H p ys) ∧ Q (.int ys.length) H) rLenS := by
  rintro B G H σ ρ vs xs Q r dv ⟨ds, rfl, k⟩
  cases dv with
  | cons d t =>
    cases t
    cases d with
    | @obj _ _ ys _ o t =>
      obtain ⟨a, rfl, hs⟩ := LS.scr.mp o
      refine ⟨a, ys, rfl, .inl (same_sql r.gh hs), ?_⟩
      rw [dvs_len t]
      exact k _ G H r (Same.refl _) (.int _)
end
end Fv

namespace Zn
open PySem PySem.Spec PyProof.Rows L2 Fr Fw Fv
theorem callWith_starTy {M : Model} {A : Around} {E : Value → Shared → Prop} {s : Shared} {env : Env} {pos : Pos} {T : String} {e : Expr} {sp : Pos} {Q : Value → Shared → Prop}
    (h : wpAny M A (eval e env) (fun v s1 => PySem.W.StarOf M A E v (fun vs s2 => wpAny M A (call (.type T) vs) Q E s2) s1) E s) (hs : starEach [.Starred e sp] env = [(true, eval e env)] := by rfl) :
    wpAny M A (callWith pos (.type T) [] (backTo pos (starEach [.Starred e sp] env)) []) Q E s := by
  rw [hs]
  show wpAny M A (callWith pos (.type T) [] [(true, do let v ← eval e env; standAt pos; pure v)] []) Q E s
  unfold callWith
  refine wpAny_bind (wpAny_holding ?_)
  unfold evalArgs
  refine wpAny_bind (wpAny_bind (wpAny_mono h (fun v s1 q => wpAny_bind (wpAny_standAt (wpAny_pure (wpAny_bind (wpAny_pure ?_))))) fun _ _ z => z))
  unfold PySem.W.StarOf at q
  refine wpAny_holding ?_
  refine wpAny_ite_true rfl ?_
  refine wpAny_bind (wpAny_mono (show wpAny M A (evalAll []) (fun a s' => a = [] ∧ s' = s1) E s1 from wpAny_pure ⟨rfl, rfl⟩) ?_ fun _ _ z => z)
  rintro _ _ ⟨rfl, rfl⟩
  refine wpAny_bind (wpAny_bind (wpAny_mono q ?_ fun _ _ z => z))
  rintro b s2 ⟨rfl, q2⟩
  refine wpAny_ite_false rfl (wpAny_holding (wpAny_mono q2 (fun vs s3 q3 => wpAny_pure ?_) fun _ _ z => z))
  refine wpAny_bind (wpAny_standAt ?_)
  refine wpAny_bind (wpAny_pure ?_)
  show wpAny _ _ (operate (.type T :: ([] ++ vs).reverse ++ []) (call (.type T) ([] ++ vs) []) >>= _) _ _ _
  exact wpAny_bind (wpAny_operateT (wpAny_mono q3 (fun r s4 hr => wpAny_bind (wpAny_holding (wpAny_point (wpAny_pure hr)))) fun _ _ x => x))
def iZipS (K : Frag) (te : TE) : TI := fun σ H R => te σ H fun v H1 => ∃ (bb : Bool) (a : Addr) (ls : List Addr) (xss : List (List V)), v = V.ref a ∧ (SqT K H1 a (ls.map V.ref) ∨ SqL K H1 a (ls.map V.ref)) ∧ ls.length ≤ 7 ∧ Sqs bb K H1 ls xss ∧ R (ItzN bb K ls) H1
theorem vals_refs : ∀ {ls : List Addr} {us : List Value}, Vals (ls.map V.ref) us → us = ls.map .ref
  | [], [], _ => rfl
  | l :: ls, u :: us, .cons h t => by
    rw [vals_refs t]
    have h : u = .ref l := h
    rw [h]
    rfl
theorem pi_zipS {X : Cx} {te : TE} {x : Str} {tp p pos sp : Pos} {e : Expr} (hg : Gl X "zip") (hm : X.mg "zip" = none) (he : PE X e te) (hs : starEach [.Starred e sp] X.env = [(true, eval e X.env)] := by rfl) :
    PI X (.Name x tp) (.Call (.Name "zip" p) [.Starred e sp] [] pos) (iZipS X.K te) := by
  refine ⟨fun pins s σ H R I h => ?_⟩
  refine wpAny_Call_Name_kw (ld_blt I hg hm boot_zip (callWith_starTy (thn (he.run pins s σ H _ I h) ?_) hs) (by decide) (by decide))
  rintro u s1 ⟨v, H1, I1, r1, bb, a, ls, xss, rfl, hq, hl, hx, q⟩
  obtain rfl : u = Value.ref a := r1
  refine StX.star_any I1 hq fun us s2 I2 rv => ?_
  rw [vals_refs rv]
  have hlist : ∀ l ∈ ls, ∃ items, SeqB bb s2.heap l items := fun l hl => by
    obtain ⟨k, hk⟩ := List.mem_iff_getElem?.mp hl
    have key : ∀ {ls : List Addr} {xss : List (List V)}, Sqs bb X.K H1 ls xss → l ∈ ls → ∃ xs, SqB bb X.K H1 l xs := by
      intro ls
      induction ls with
      | nil => intro xss _ h; cases h
      | cons b r ih =>
        intro xss hp hm
        cases hp with
        | cons h t =>
          rcases List.mem_cons.mp hm with e | hm
          · subst e; exact ⟨_, h⟩
          · exact ih t hm
    obtain ⟨xs, hxs⟩ := key hx hl
    obtain ⟨its, _, w⟩ := seqB_of I2 hxs
    exact ⟨_, w⟩
  have hlt : ∀ l ∈ ls, l < s2.heap.objs.size := fun l hl => by
    obtain ⟨items, h⟩ := hlist l hl
    cases bb
    · obtain ⟨o, ho, _⟩ := (show s2.heap.IsList l items from h)
      exact Heap.lt_size ho
    · obtain ⟨o, ho, _⟩ := (show s2.heap.IsTuple l items from h)
      exact Heap.lt_size ho
  refine call_n hl hlist fun h' Z hk => ?_
  have T := turn_n (bb := bb) (P := X.prog) (w := X.w) (K := X.K) (x := x) (tp := tp) (sep_of hlt) hl
  refine T.self _ 0 _ _ _ Z ?_
  refine ⟨_, _, _, ItzN bb X.K ls, H1, rfl, I2.kept (t' := s2.toks) hk, T, Z, fun b hb => ?_, q⟩
  have hb' : (s2.heap.objs.size : Nat) ≤ b := by
    rcases List.mem_cons.mp hb with rfl | hb
    · exact Nat.le_trans (Nat.le_add_right _ _) (Nat.le_add_right _ _)
    · rcases List.mem_cons.mp hb with rfl | hb
      · exact Nat.le_add_right _ _
      · rcases List.mem_cons.mp hb with rfl | hb
        · exact Nat.le_trans (Nat.le_add_right _ _) (Nat.le_add_right _ _)
        · obtain ⟨k, _, rfl⟩ := List.mem_map.mp hb
          exact Nat.le_add_right _ _
  exact I2.fpOk hb' (I2.hok.fresh hb')
def colD (n : Nat) (rows : List (List Da)) : List Da := (List.range n).map fun j => Da.tup (rows.map fun r => r.getD j .non)
section
variable {X : Cx} {L : Ly} {B : Bs} {G H : Hp} {σ : L2.St} {ρ : En}
def rowsD (bb : Bool) (rows : List (List Da)) : List Da := rows.map fun r => if bb then Da.tup r else Da.lst r
def pZipS (g : Px) : Pl := ⟨fun ρ k => g.f ρ fun d ρ1 => ∃ (bb : Bool) (n : Nat) (rows : List (List Da)), (d = .lst (rowsD bb rows) ∨ d = .tup (rowsD bb rows)) ∧ rows.length ≤ 7 ∧ (rows = [] → n = 0) ∧ (∀ r ∈ rows, r.length = n) ∧ k (colD n rows) ρ1,
  fun h => g.mono fun _ _ ⟨bb, n, rows, a, b, c, e, q⟩ => ⟨bb, n, rows, a, b, c, e, h _ _ q⟩⟩
theorem rows_of {bb : Bool} {xs : List V} {rows : List (List Da)} (h : DvAll L G xs (rowsD bb rows)) : ∃ ls xss, xs = ls.map V.ref ∧ Sqs bb L.K G ls xss ∧ Paired (fun xs ds => DvAll L G xs ds) xss rows := by
  induction rows generalizing xs with
  | nil => cases h; exact ⟨[], [], rfl, .nil, .nil⟩
  | cons r rows ih =>
    cases h with
    | cons h t =>
      obtain ⟨ls, xss, rfl, h2, h3⟩ := ih t
      cases bb
      · obtain ⟨a, ys, rfl, hs, hd⟩ := dv_lst h
        exact ⟨a :: ls, ys :: xss, rfl, .cons (.inl (.inl hs)) h2, .cons hd h3⟩
      · obtain ⟨a, ys, rfl, hs, hd⟩ := dv_tup h
        exact ⟨a :: ls, ys :: xss, rfl, .cons hs h2, .cons hd h3⟩
theorem sqs_same {bb : Bool} {K : Frag} {G G' : Hp} (s : Same G G') {ls : List Addr} {xss : List (List V)} (h : Sqs bb K G ls xss) : Sqs bb K G' ls xss := by
  induction h with
  | nil => exact .nil
  | cons h t ih =>
    refine .cons ?_ ih
    cases bb
    · exact same_sql s h
    · exact same_sqt s h
theorem wk_zipN {bb : Bool} {n : Nat} {ls : List Addr} {xss : List (List V)} {rows : List (List Da)} (hs : Sqs bb L.K G ls xss) (hd : Paired (fun xs ds => DvAll L G xs ds) xss rows) (hn : ∀ r ∈ rows, r.length = n) (h0 : rows = [] → n = 0) : Wk L (ItzN bb L.K ls) G (colD n rows) := fun G' H s s' i hi => by
  have q := sqs_same s' (sqs_same s hs)
  have hl : (colD n rows).length = n := by simp [colD]
  rw [hl] at hi ⊢
  have hx : ∀ xs ∈ xss, xs.length = n := by
    clear hs q h0 hl
    induction hd with
    | nil => intro xs h; cases h
    | cons h t ih =>
      intro xs hm
      rcases List.mem_cons.mp hm with e | hm
      · rw [e, dvs_len h]; exact hn _ List.mem_cons_self
      · exact ih (fun r hr => hn r (List.mem_cons_of_mem _ hr)) xs hm
  refine ⟨fun e => ?_, fun hlt => ⟨⟨?_, xss, q, fun xs h => by rw [hx xs h]; exact hlt⟩, fun v H' y => ?_⟩⟩
  · cases q with
    | nil => exact .inl rfl
    | cons h t => exact .inr ⟨_, _, _, rfl, h, by rw [hx _ List.mem_cons_self, e]; exact Nat.le_refl _⟩
  · intro e
    subst e
    cases hs
    cases hd
    have := h0 rfl
    omega
  · obtain ⟨T, vs, rfl, hT, rfl, y1⟩ := y
    have nT : G' T = none := s'.free hT
    have st := same_upd nT (o := .tup vs)
    rw [y1 xss q]
    have st := same_upd nT (o := .tup (xss.map fun xs => xs.getD i .non))
    refine ⟨upd G' T (.tup (xss.map fun xs => xs.getD i .non)), .tup (rows.map fun r => r.getD i .non), Grow.lay s' hT, by unfold colD; rw [List.getElem?_map, List.getElem?_range hlt]; rfl, .tup (.inl (.inl upd_same)) ?_⟩
    clear y1 q hs h0 hl
    generalize upd G' T (.tup (xss.map fun xs => xs.getD i .non)) = G2 at st ⊢
    induction hd with
    | nil => exact .nil
    | @cons xs r xss rows h t ih =>
      refine .cons ?_ (ih (fun r hr => hn r (List.mem_cons_of_mem _ hr)) fun ys hy => hx ys (List.mem_cons_of_mem _ hy))
      have hi2 : i < xs.length := by rw [hx xs List.mem_cons_self]; exact hlt
      obtain ⟨d, e1, e2⟩ := dvs_get h (List.getElem?_eq_getElem hi2)
      show Dv L _ (xs.getD i .non) (r.getD i .non)
      rw [List.getD_eq_getElem?_getD, List.getD_eq_getElem?_getD, List.getElem?_eq_getElem hi2, e1]
      exact dv_same (s.trans st) e2
theorem w_izS {tg e : Expr} {g : Px} (p : PI X tg e (iZipS L.K (tW L g))) : PI X tg e (tWI L (pZipS g)) := PI.imp p fun σ H R ⟨B, G, ρ, r, h⟩ =>
  ⟨B, G, ρ, r, g.mono (fun d ρ1 ⟨bb, n, rows, hd, hl, h0, hn, h1⟩ v G1 H1 r1 s1 d1 => by
    have fin : ∀ a xs, v = V.ref a → (SqT L.K H1 a xs ∨ SqL L.K H1 a xs) → DvAll L G1 xs (rowsD bb rows) → ∃ (bb : Bool) (a : Addr) (ls : List Addr) (xss : List (List V)), v = V.ref a ∧ (SqT L.K H1 a (ls.map V.ref) ∨ SqL L.K H1 a (ls.map V.ref)) ∧ ls.length ≤ 7 ∧ Sqs bb L.K H1 ls xss ∧ R (ItzN bb L.K ls) H1 := fun a xs ev hs ha => by
      obtain ⟨ls, xss, rfl, h2, h3⟩ := rows_of ha
      refine ⟨bb, a, ls, xss, ev, hs, ?_, sqs_same r1.gh h2, h1 _ G1 H1 r1 s1 (wk_zipN h2 h3 hn h0)⟩
      rw [prd_len h2, prd_len h3]
      exact hl
    rcases hd with rfl | rfl
    · obtain ⟨a, xs, e, hs, ha⟩ := dv_lst d1
      exact fin a xs e (.inr (.inl (.inl (r1.gh _ _ hs)))) ha
    · obtain ⟨a, xs, e, hs, ha⟩ := dv_tup d1
      exact fin a xs e (.inl (same_sqt r1.gh hs)) ha) h⟩
end
end Zn

namespace Fw
open PySem PySem.Spec PyProof.Rows L2 Fr
section
variable {X : Cx} {L : Ly} {e : PySem.Expr}
def pTruG (i : Nat) : Pt := ⟨fun ρ k => ∃ p ds, ρ[i]? = some (some (.gro p ds)) ∧ k (!ds.isEmpty) ρ, fun h ⟨p, ds, e, q⟩ => ⟨p, ds, e, h _ _ q⟩⟩
theorem dvs_emp {G : Hp} {vs : List V} {ds : List Da} (h : DvAll L G vs ds) : vs.isEmpty = ds.isEmpty := by
  cases h <;> rfl
theorem w_truG {i : Nat} (p : PT X e fun σ H Q => tVar i σ H fun x H' => ∃ k, TruV X.K x H' k ∧ Q k H') : PT X e (tWT L (pTruG i)) := PT.imp p fun σ H Q ⟨B, G, ρ, r, a, ds, hi, h⟩ => by
  obtain ⟨hv, hG, _, _, us, hu, dv⟩ := gro_at r hi
  refine ⟨_, hv, !us.isEmpty, .inl ⟨us, .inl (.inl hu), rfl⟩, ?_⟩
  rw [dvs_emp dv]
  exact h _ _ r (Same.refl _)
def rAnyI (K : PySem.W.Frag) : List V → Hp → VK → Prop := fun vs H Q => ∃ (a : Addr) (ns : List Int), vs = [V.ref a] ∧ SqL K H a (ns.map V.int) ∧ Q (.bl (ns.any fun n => n != 0)) H
theorem any_rg : ∀ ns : List Int, (List.range ns.length).any (fun i => ns.getD i 0 != 0) = ns.any fun n => n != 0
  | [] => rfl
  | n :: ns => by
    rw [List.length_cons, List.range_succ_eq_map, List.any_cons, List.any_map, List.any_cons]
    exact congrArg _ (any_rg ns)
theorem vals_int {ns : List Int} {its : List Value} (r : Vals (ns.map V.int) its) {i : Nat} {v : Value} (h : its[i]? = some v) : ∃ t, v = .int (ns.getD i 0) t := by
  have hl := r.length
  rw [List.length_map] at hl
  have hi := (List.getElem?_eq_some_iff.mp h).1
  have hn : i < ns.length := by omega
  obtain ⟨u, hu, ru⟩ := r.get (i := i) (x := V.int ns[i]) (by rw [List.getElem?_map, List.getElem?_eq_getElem hn]; rfl)
  rw [h] at hu
  cases hu
  obtain ⟨t, rfl⟩ := ru
  exact ⟨t, by rw [List.getD_eq_getElem?_getD, List.getElem?_eq_getElem hn]; rfl⟩
theorem cr_anyI (hc : X.calm = true) : CallR X (.builtin "any") (rAnyI X.K) := by
  rintro pins s σ H vs us Q I rv ⟨a, ns, rfl, hs, k⟩
  obtain ⟨its, ri, hl, _⟩ := I.list hs
  rw [Vals.ref1 rv]
  refine call_any_walk (iter_any hl.isList fun s1 es st hne => ?_)
  subst es
  refine ⟨_, _, _, _, _, _, fun i => ns.getD i 0 != 0, rfl, Walks.list (A := X.A.in1) (I.ok.hd hc) _ a hne its.toArray, st, fun i v s' Q' E' hv hq => ?_, fun h' tk hk => ?_⟩
  · obtain ⟨t, rfl⟩ := vals_int ri (i := i) (v := v) (by simpa using hv)
    exact PySem.P.truthy_int hq
  · have hz := ri.length
    rw [List.length_map] at hz
    refine ⟨V.bl _, H, I.kept fun b o eo => hk b o (fun hm => ?_) (Heap.get?_push_of_some _ eo), ?_, k⟩
    · have := Heap.lt_size eo
      rw [List.mem_singleton.mp hm] at this
      exact Nat.lt_irrefl _ this
    · have ez : its.toArray.size = ns.length := by rw [List.size_toArray]; omega
      rw [ez, any_rg]
      rfl
def rAnyN : R1p := ⟨fun xs k => ∃ ns : List Int, xs = [li ns] ∧ k (.bl (ns.any fun n => n != 0)), fun h ⟨ns, e, q⟩ => ⟨ns, e, h _ q⟩⟩
theorem snd_anyI : Snd1 L (rAnyI L.K) rAnyN := by
  rintro B G H σ ρ vs xs Q r dv ⟨ns, rfl, k⟩
  obtain ⟨v, rfl, d⟩ := dv1 dv
  obtain ⟨a, ys, rfl, hs, ha⟩ := dv_lst d
  refine ⟨a, ns, rfl, ?_, k _ G H r (Same.refl _) (.bl _)⟩
  rw [← dvs_intsV ha]
  exact .inl (.inl (r.gh _ _ hs))
end
end Fw

namespace Mn
open PySem PySem.Spec PyProof.Rows L2 Fr Fw
section
variable {X : Cx} {L : Ly} {B : Bs} {G H : Hp} {σ : L2.St} {ρ : En} {e : Expr}
def pStarL (g : Px) (gs : Pl) : Pl := ⟨fun ρ k => g.f ρ fun d ρ1 => ∃ ds, d = .lst ds ∧ gs.f ρ1 fun es ρ2 => k (ds ++ es) ρ2, fun h => g.mono fun _ _ ⟨ds, e, q⟩ => ⟨ds, e, gs.mono (fun _ _ => h _ _) q⟩⟩
theorem w_starL {es : List Expr} {g : Px} {gs : Pl} {p : Pos} (he : PE X e (tW L g)) (ha : PA X es (tWA L gs)) (hs : starEach (.Starred e p :: es) X.env = (true, eval e X.env) :: starEach es X.env := by rfl) : PA X (.Starred e p :: es) (tWA L (pStarL g gs)) :=
  PA.imp (StX.pa_star he ha hs) fun σ H Q ⟨B, G, ρ, r, h⟩ => ⟨B, G, ρ, r, g.mono (fun d ρ1 ⟨ds, e, h1⟩ v G1 H1 r1 s1 d1 => by
    subst e
    obtain ⟨a, xs, rfl, hx, hd⟩ := dv_lst d1
    refine ⟨a, xs, rfl, .inr (.inl (.inl (r1.gh _ _ hx))), B, G1, ρ1, r1, gs.mono (fun es ρ2 h2 vs G2 H2 r2 s2 d2 => ?_) h1⟩
    exact h2 _ _ _ r2 (s1.trans s2) (dvs_app (dvs_same s2 hd) d2)) h⟩
end
end Mn

namespace Fw
open PySem PySem.Spec PyProof.Rows L2 Fr
section
variable {X : Cx} {L : Ly}
def CDivB (_ j : Int) : Prop := j ≠ 0 ∧ j.natAbs.log2 < 9000
theorem op_fdivB : OpR X (binaryOp .FloorDiv) (rI CDivB fun i j => .int (i.fdiv j)) := opI fun i j _ _ _ _ _ hc q => floordiv_int hc.1 q (.inl (PyProof.noPylong_of_log2 hc.2))
def rFdivB := r2I CDivB fun i j => .int (i.fdiv j)
theorem snd_fdivB : Snd2 L (rI CDivB fun i j => .int (i.fdiv j)) rFdivB := snd_I (fun _ _ h => h) fun _ _ _ => .int _
def noB : Da → Bool
  | .non => true
  | _ => false
def rIsNP : R2p := ⟨fun x y k => y = .non ∧ (∀ n xs, x ≠ .obj n xs) ∧ k (.bl (noB x)), fun h ⟨a, b, q⟩ => ⟨a, b, h _ q⟩⟩
theorem snd_isN : Snd2 L (fun x y H Q => y = .non ∧ Q (.bl (decide (x = .non))) H) rIsNP := by
  rintro B G H σ ρ v u x y Q r d1 d2 ⟨rfl, hn, k⟩
  cases d2
  refine ⟨rfl, ?_⟩
  rw [dv_non_iff d1 hn]
  refine k _ G H r (Same.refl _) ?_
  cases x <;> exact .bl _
end
section
variable {X : Cx} {L : Ly} {e : Expr} {st : Stmt} {vs vs1 : List Nat} {σ : L2.St}
def lcP3 (t : Tg) (src2 : Pl) (t2 : Tg) (c2 : Pt) (el : Px) (vs vs1 : List Nat) (k : List Da → En → Prop) : List Da → List Da → En → Prop
  | [], acc, ρ => k acc ρ
  | x :: r, acc, ρ => t.f x ρ fun ρ2 => src2.f ρ2 fun ds ρ3 => lcP t2 c2 el vs1 (fun acc' ρ4 => lcP3 t src2 t2 c2 el vs vs1 k r acc' (wipeR ρ4 vs)) ds acc (wipeR ρ3 vs1)
theorem lcP3_mono {t : Tg} {src2 : Pl} {t2 : Tg} {c2 : Pt} {el : Px} {k k' : List Da → En → Prop} (h : ∀ d r, k d r → k' d r) : ∀ {ds acc : List Da} {ρ : En}, lcP3 t src2 t2 c2 el vs vs1 k ds acc ρ → lcP3 t src2 t2 c2 el vs vs1 k' ds acc ρ
  | [], _, _, q => h _ _ q
  | _ :: r, _, _, q => t.mono (fun _ => src2.mono fun _ _ => lcP_mono fun _ _ z => lcP3_mono h (ds := r) z) q
def pLc3N (src : Pl) (t : Tg) (src2 : Pl) (t2 : Tg) (c2 : Pt) (el : Px) (vs vs1 : List Nat) : Pl := ⟨fun ρ k => src.f ρ fun ds ρ1 => lcP3 t src2 t2 c2 el vs vs1 k ds [] (wipeR ρ1 vs), fun h => src.mono fun _ _ => lcP3_mono fun _ _ => h _ _⟩
theorem imp_lc3N {src src2 : Pl} {g g1 : TG} {t t2 : Tg} {c2 : Pt} {el : Px} (hg : SndV L g t vs) (hg1 : SndV L g1 t2 vs1) (hv : ∀ i ∈ vs1, i ∈ vs) : ∀ σ H Q, tWN L (pLc3N src t src2 t2 c2 el vs vs1) σ H Q → tLc2 (tWI L src) g (tWT L pYes) (tWI L src2) g1 (tWT L c2) (tW L el) vs vs1 σ H Q := by
  rintro σ H Q ⟨B, G, ρ, r, h⟩
  refine ⟨B, G, ρ, r, src.mono (fun ds ρ1 h1 J G1 H1 r1 s1 wk D nD => ?_) h⟩
  have h0 : B.H0 D = none := r1.h0 nD
  have ne : ∀ q ∈ B.ks, q.1 ≠ D := fun q hq e => by
    have := (r1.ks q hq).1
    rw [e, nD] at this
    cases this
  obtain ⟨Inv, hInv⟩ : ∃ Inv : Nat → Hp → Prop, ∀ i H', Inv i H' ↔ ∃ G' ρ' acc es, Rep L (B.kp D (.lst acc)) G' H' (L2.wipe σ vs) ρ' ∧ WpR vs ρ' ∧ Same G1 G' ∧ DvAll L G' acc es ∧
      lcP3 t src2 t2 c2 el vs vs1 (fun out ρ' => ∀ p us G' H', Rep L (B.kp p (.lst us)) G' H' σ ρ' → B.H0 p = none → (∀ q ∈ B.ks, q.1 ≠ p) → Same G G' → DvAll L G' us out → Q (.ref p) H') (ds.drop i) es ρ' := ⟨_, fun _ _ => Iff.rfl⟩
  refine ⟨fun i m H' => m = ds.length - i ∧ i ≤ ds.length ∧ Inv i H', ⟨ds.length, by simp, Nat.zero_le _, (hInv _ _).mpr ⟨G1, _, [], [], (r1.wipe vs).kp nD, wpR_wipe _ _, Same.refl _, .nil, by simpa using h1⟩⟩, ?_⟩
  rintro i m H' ⟨rfl, hi, q⟩
  obtain ⟨G', ρ', acc, es, r', w', s', d', hl⟩ := (hInv _ _).mp q
  have hw := wk G' H' s' r'.gh i hi
  by_cases hlt : i < ds.length
  · refine .inr ⟨(hw.2 hlt).1, Inv (i + 1), fun H2 q2 => ⟨ds.length - (i + 1), by omega, rfl, hlt, q2⟩, fun x H2 y => ?_⟩
    obtain ⟨G2, z, gr, hz, dz⟩ := (hw.2 hlt).2 x H2 y
    rw [drop_at hz] at hl
    refine hg (r'.go gr) dz (t.mono (fun ρ2 h2 σ2 r2 e => ⟨e.trans (wipe_wipe vs), _, G2, ρ2, r2, fun G3 H3 r3 s3 => ?_⟩) hl)
    have ew : L2.wipe σ2 vs = L2.wipe σ vs := e.trans (wipe_wipe vs)
    show if true = true then _ else _
    rw [if_pos rfl]
    refine ⟨_, G3, ρ2, r3, src2.mono (fun ds2 ρ3 h3 J1 G4 H4 r4 s4 wk1 => ?_) h2⟩
    obtain ⟨In2, hIn2⟩ : ∃ In2 : Nat → Hp → Prop, ∀ j H', In2 j H' ↔ ∃ G' ρ' acc es, Rep L (B.kp D (.lst acc)) G' H' (L2.wipe σ2 vs1) ρ' ∧ WpR vs1 ρ' ∧ Same G4 G' ∧ DvAll L G' acc es ∧
      lcP t2 c2 el vs1 (fun acc' ρ4 => lcP3 t src2 t2 c2 el vs vs1 (fun out ρ' => ∀ p us G' H', Rep L (B.kp p (.lst us)) G' H' σ ρ' → B.H0 p = none → (∀ q ∈ B.ks, q.1 ≠ p) → Same G G' → DvAll L G' us out → Q (.ref p) H') (ds.drop (i + 1)) acc' (wipeR ρ4 vs)) (ds2.drop j) es ρ' := ⟨_, fun _ _ => Iff.rfl⟩
    have s24 : Same G' G4 := gr.gg.trans (s3.trans s4)
    refine ⟨fun j m H' => m = ds2.length - j ∧ j ≤ ds2.length ∧ In2 j H', ⟨ds2.length, by simp, Nat.zero_le _, (hIn2 _ _).mpr ⟨G4, _, acc, es, r4.wipe vs1, wpR_wipe _ _, Same.refl _, dvs_same s24 d', by simpa using h3⟩⟩, ?_⟩
    rintro j m' H' ⟨rfl, hj, q⟩
    obtain ⟨G5, ρ5, acc5, es5, r5, w5, s5, d5, hl5⟩ := (hIn2 _ _).mp q
    have hw5 := wk1 G5 H' s5 r5.gh j hj
    by_cases hlt5 : j < ds2.length
    · refine .inr ⟨(hw5.2 hlt5).1, In2 (j + 1), fun H2 q2 => ⟨ds2.length - (j + 1), by omega, rfl, hlt5, q2⟩, fun x5 H6 y5 => ?_⟩
      obtain ⟨G6, z5, gr5, hz5, dz5⟩ := (hw5.2 hlt5).2 x5 H6 y5
      rw [drop_at hz5] at hl5
      refine hg1 (r5.go gr5) dz5 (t2.mono (fun ρ6 h6 σ3 r6 e6 => ⟨e6.trans (wipe_wipe vs1), _, G6, ρ6, r6, c2.mono (fun b ρ7 h7 G7 H7 r7 s7 => ?_) h6⟩) hl5)
      have ew5 : L2.wipe σ3 vs1 = L2.wipe σ2 vs1 := e6.trans (wipe_wipe vs1)
      show if b = true then _ else _
      by_cases hb : b = true
      · rw [if_pos hb] at h7 ⊢
        refine ⟨_, G7, ρ7, r7, el.mono (fun y ρ8 ⟨hlen, h8⟩ v G8 H8 r8 s8 d8 => ?_) h7⟩
        have s68 : Same G5 G8 := gr5.gg.trans (s7.trans s8)
        have da : DvAll L G8 acc5 es5 := dvs_same s68 d5
        refine ⟨acc5, r8.kpAt.1, by rw [dvs_len da]; exact hlen, (hIn2 _ _).mpr ⟨G8, wipeR ρ8 vs1, acc5 ++ [v], es5 ++ [y], ?_, wpR_wipe _ _, s5.trans s68, dvs_app da (.cons d8 .nil), h8⟩⟩
        rw [← ew5]
        exact (r8.wipe vs1).kpChg h0 ne
      · rw [if_neg hb] at h7 ⊢
        have s67 : Same G5 G7 := gr5.gg.trans s7
        refine (hIn2 _ _).mpr ⟨G7, wipeR ρ7 vs1, acc5, es5, ?_, wpR_wipe _ _, s5.trans s67, dvs_same s67 d5, h7⟩
        rw [← ew5]
        exact r7.wipe vs1
    · have e5 : j = ds2.length := by omega
      subst e5
      rw [List.drop_length] at hl5
      refine .inl ⟨hw5.1 rfl, (hInv _ _).mpr ⟨G5, wipeR ρ5 vs, acc5, es5, ?_, wpR_wipe _ _, s'.trans (s24.trans s5), d5, hl5⟩⟩
      have := r5.wipe vs
      rw [wipe_sub hv, ew] at this
      exact this
  · have e : i = ds.length := by omega
    subst e
    rw [List.drop_length] at hl
    exact .inl ⟨hw.1 rfl, hl _ _ _ _ (r'.unwipe w') h0 ne (s1.trans s') d'⟩
end
section
variable {X : Cx} {L : Ly} {B : Bs} {G H : Hp} {σ : L2.St} {ρ : En} {st : Stmt} {e : Expr} {vs : List Nat}
def lcPg (i : Nat) (p : Addr) (ds0 : List Da) (t : Tg) (c : Pt) (el : Px) (vs : List Nat) (k : List Da → En → Prop) : List Da → List Da → En → Prop
  | [], acc, ρ => ρ[i]? = some (some (.gro p ds0)) ∧ k acc ρ
  | x :: r, acc, ρ => ρ[i]? = some (some (.gro p ds0)) ∧ t.f x ρ fun ρ2 => c.f ρ2 fun b ρ3 => if b = true then el.f ρ3 fun y ρ4 => acc.length < sizeLine ∧ lcPg i p ds0 t c el vs k r (acc ++ [y]) (wipeR ρ4 vs) else lcPg i p ds0 t c el vs k r acc (wipeR ρ3 vs)
theorem lcPg_mono {i : Nat} {p : Addr} {ds0 : List Da} {t : Tg} {c : Pt} {el : Px} {k k' : List Da → En → Prop} (h : ∀ d r, k d r → k' d r) : ∀ {ds acc : List Da} {ρ : En}, lcPg i p ds0 t c el vs k ds acc ρ → lcPg i p ds0 t c el vs k' ds acc ρ
  | [], _, _, q => ⟨q.1, h _ _ q.2⟩
  | _ :: r, _, _, q => ⟨q.1, t.mono (fun _ => c.mono fun b _ z => by
    by_cases hb : b = true
    · rw [if_pos hb] at z ⊢
      exact el.mono (fun _ _ y => ⟨y.1, lcPg_mono h (ds := r) y.2⟩) z
    · rw [if_neg hb] at z ⊢
      exact lcPg_mono h (ds := r) z) q.2⟩
def pLcGe (i : Nat) (t : Tg) (c : Pt) (el : Px) (vs : List Nat) : Pl := ⟨fun ρ k => ∃ p ds, ρ[i]? = some (some (.gro p ds)) ∧ lcPg i p ds t c el vs k (enumD ds) [] (wipeR ρ vs),
  fun h ⟨p, ds, e, q⟩ => ⟨p, ds, e, lcPg_mono (fun _ _ => h _ _) q⟩⟩
theorem imp_lcGe {i : Nat} {g : TG} {t : Tg} {c : Pt} {el : Px} (hg : SndV L g t vs) : ∀ σ H Q, tWN L (pLcGe i t c el vs) σ H Q → tLc (iEnum L.K (tCons (tVar i) tNil)) g (tWT L c) (tW L el) vs σ H Q := by
  rintro σ H Q ⟨B, G, ρ, r, p, ds0, hi0, h1⟩
  obtain ⟨hs, _, _, _, us0, hu0, du0⟩ := gro_at r hi0
  refine ⟨_, hs, p, us0, rfl, .inl (.inl hu0), fun D nD => ?_⟩
  have h0 : B.H0 D = none := r.h0 nD
  have ne : ∀ q ∈ B.ks, q.1 ≠ D := fun q hq e => by
    have := (r.ks q hq).1
    rw [e, nD] at this
    cases this
  have hlen : (enumD ds0).length = ds0.length := by simp [enumD]
  obtain ⟨Inv, hInv⟩ : ∃ Inv : Nat → Hp → Prop, ∀ j H', Inv j H' ↔ ∃ G' ρ' acc es, Rep L (B.kp D (.lst acc)) G' H' (L2.wipe σ vs) ρ' ∧ WpR vs ρ' ∧ Same G G' ∧ DvAll L G' acc es ∧
      lcPg i p ds0 t c el vs (fun out ρ' => ∀ p us G' H', Rep L (B.kp p (.lst us)) G' H' σ ρ' → B.H0 p = none → (∀ q ∈ B.ks, q.1 ≠ p) → Same G G' → DvAll L G' us out → Q (.ref p) H') ((enumD ds0).drop j) es ρ' := ⟨_, fun _ _ => Iff.rfl⟩
  refine ⟨fun j m H' => m = ds0.length - j ∧ j ≤ ds0.length ∧ Inv j H', ⟨ds0.length, by simp, Nat.zero_le _, (hInv _ _).mpr ⟨G, _, [], [], (r.wipe vs).kp nD, wpR_wipe _ _, Same.refl _, .nil, by simpa using h1⟩⟩, ?_⟩
  rintro j m H' ⟨rfl, hj, q⟩
  obtain ⟨G', ρ', acc, es, r', w', s', d', hl⟩ := (hInv _ _).mp q
  by_cases hlt : j < ds0.length
  · have hz : (enumD ds0)[j]? = some (.tup [.int (j : Nat), ds0.getD j .non]) := by
      unfold enumD
      rw [List.getElem?_map, List.getElem?_range hlt]
      rfl
    rw [drop_at hz] at hl
    obtain ⟨hi, hl⟩ := hl
    obtain ⟨_, _, _, _, us, hu, du⟩ := gro_at r' hi
    have hx : us[j]? = some (us[j]'(by rw [dvs_len du]; exact hlt)) := List.getElem?_eq_getElem _
    obtain ⟨d1, e1, v1⟩ := dvs_get du hx
    refine .inr ⟨⟨us, _, .inl (.inl hu), hx⟩, Inv (j + 1), fun H2 q2 => ⟨ds0.length - (j + 1), by omega, rfl, hlt, q2⟩, fun x H2 y => ?_⟩
    obtain ⟨T, x0, rfl, hT, rfl, y1⟩ := y
    have ex : x0 = us[j]'(by rw [dvs_len du]; exact hlt) := by
      have := y1 us (.inl (.inl hu))
      rw [hx] at this
      exact (Option.some.inj this).symm
    subst ex
    have nT : G' T = none := r'.gh.free hT
    have st := same_upd nT (o := .tup [.int (j : Nat), us[j]'(by rw [dvs_len du]; exact hlt)])
    have r2 := r'.lay (o := .tup [.int (j : Nat), us[j]'(by rw [dvs_len du]; exact hlt)]) hT
    have dz : Dv L (upd G' T (.tup [.int (j : Nat), us[j]'(by rw [dvs_len du]; exact hlt)])) (.ref T) (.tup [.int (j : Nat), ds0.getD j .non]) := by
      refine .tup (.inl (.inl upd_same)) (.cons (.int _) (.cons ?_ .nil))
      rw [List.getD_eq_getElem?_getD, e1]
      exact dv_same st v1
    refine hg r2 dz (t.mono (fun ρ2 h2 σ2 r2 e => ⟨e.trans (wipe_wipe vs), _, _, ρ2, r2, c.mono (fun b ρ3 h3 G3 H3 r3 s3 => ?_) h2⟩) hl)
    have s2 : Same G' G3 := st.trans s3
    have ew : L2.wipe σ2 vs = L2.wipe σ vs := e.trans (wipe_wipe vs)
    show if b = true then _ else _
    by_cases hb : b = true
    · rw [if_pos hb] at h3 ⊢
      refine ⟨_, G3, ρ3, r3, el.mono (fun y ρ4 ⟨hlen, h4⟩ v G4 H4 r4 s4 d4 => ?_) h3⟩
      have da : DvAll L G4 acc es := dvs_same (s2.trans s4) d'
      refine ⟨acc, r4.kpAt.1, by rw [dvs_len da]; exact hlen, (hInv _ _).mpr ⟨G4, wipeR ρ4 vs, acc ++ [v], es ++ [y], ?_, wpR_wipe _ _, s'.trans (s2.trans s4), dvs_app da (.cons d4 .nil), h4⟩⟩
      rw [← ew]
      exact (r4.wipe vs).kpChg h0 ne
    · rw [if_neg hb] at h3 ⊢
      refine (hInv _ _).mpr ⟨G3, wipeR ρ3 vs, acc, es, ?_, wpR_wipe _ _, s'.trans s2, dvs_same s2 d', h3⟩
      rw [← ew]
      exact r3.wipe vs
  · have e : j = ds0.length := by omega
    subst e
    rw [← hlen, List.drop_length] at hl
    obtain ⟨hi, hl⟩ := hl
    obtain ⟨_, _, _, _, us, hu, du⟩ := gro_at r' hi
    exact .inl ⟨⟨us, .inl (.inl hu), by rw [dvs_len du]; exact Nat.le_refl _⟩, hl _ _ _ _ (r'.unwipe w') h0 ne s' d'⟩
theorem w_setLcG {i j : Nat} {g : TG} {t : Tg} {c : Pt} {el : Px} (hg : SndV L g t vs) (p : PS X st (tAsg (tLc (iEnum L.K (tCons (tVar i) tNil)) g (tWT L c) (tW L el) vs) (gName j))) : PS X st (tWS L (sSet j (pNL (pLcGe i t c el vs)))) :=
  w_set (PS.imp p fun D σ H q => imp_lcGe hg _ _ _ (imp_NL _ _ _ q))
def SndGp (L : Ly) (g : TG) (t : Tg) : Prop := ∀ {B : Bs} {G H : Hp} {σ : L2.St} {ρ : En} {v : V} {d : Da} {k : L2.St → Hp → Prop}, Rep L B G H σ ρ → Dv L G v d → t.f d ρ (fun ρ' => ∀ σ' G' H', Rep L B G' H' σ' ρ' → Same G G' → k σ' H') → g v σ H k
def SndGps (L : Ly) (g : TGs) (t : Tgs) : Prop := ∀ {B : Bs} {G H : Hp} {σ : L2.St} {ρ : En} {vs : List V} {ds : List Da} {k : L2.St → Hp → Prop}, Rep L B G H σ ρ → DvAll L G vs ds → t.f ds ρ (fun ρ' => ∀ σ' G' H', Rep L B G' H' σ' ρ' → Same G G' → k σ' H') → g vs σ H k
theorem sgp_N {i : Nat} : SndGp L (gName i) (tgN i) := fun r d1 h => h _ _ _ (r.setD d1) (Same.refl _)
def tgPut (i : Nat) (gi : Px) : Tg := ⟨fun d ρ k => ∃ p ds, ρ[i]? = some (some (.gro p ds)) ∧ gi.f ρ fun y ρ1 => ∃ ds1 n j, ρ1[i]? = some (some (.gro p ds1)) ∧ y = .int n ∧ ixN ds1.length n = some j ∧ k (ρ1.set i (some (.gro p (ds1.set j d)))),
  fun h ⟨p, ds, e, q⟩ => ⟨p, ds, e, gi.mono (fun _ _ ⟨b, c, d1, d2, d3, d4, d5⟩ => ⟨b, c, d1, d2, d3, d4, h _ d5⟩) q⟩⟩
theorem sgp_put {i : Nat} {gi : Px} : SndGp L (gSub (tVar i) (tW L gi) rSetL) (tgPut i gi) := by
  rintro B G H σ ρ v d k r dv ⟨p, ds, hi, h⟩
  obtain ⟨hv, _⟩ := gro_at r hi
  refine ⟨_, hv, B, G, ρ, r, gi.mono (fun y ρ2 ⟨ds1, n, j, hi2, e, hj, h2⟩ u G2 H2 r2 s2 d2 => ?_) h⟩
  subst e
  rw [dv_int d2]
  obtain ⟨_, _, _, _, us, hu, du⟩ := gro_at r2 hi2
  refine ⟨p, us, n, j, rfl, rfl, hu, by rw [dvs_len du]; exact hj, ?_⟩
  exact h2 _ G2 _ (r2.chgG hi2 (dvs_set j du (dv_same s2 dv))) s2
theorem sgp_nil : SndGps L gNil tgNil := by
  rintro B G H σ ρ vs ds k r d ⟨rfl, h⟩
  cases d
  exact ⟨rfl, h σ G H r (Same.refl _)⟩
theorem sgp_cons {g : TG} {gs : TGs} {t : Tg} {u : Tgs} (h1 : SndGp L g t) (h2 : SndGps L gs u) : SndGps L (gCons g gs) (tgCons t u) := by
  rintro B G H σ ρ vs ds k r d ⟨x, xs, rfl, h⟩
  cases d with
  | cons d1 d2 => exact ⟨_, _, rfl, h1 r d1 (t.mono (fun ρ1 z σ' G1 H1 r' s' => h2 r' (dvs_same s' d2) (u.mono (fun _ y σ2 G2 H2 r2 s2 => y σ2 G2 H2 r2 (s'.trans s2)) z)) h)⟩
theorem sgp_tup {n : Nat} {gs : TGs} {u : Tgs} (h2 : SndGps L gs u) : SndGp L (gTup L.K n gs) (tgTup n u) := by
  rintro B G H σ ρ v d k r dv ⟨ds, rfl, hl, h⟩
  cases dv with
  | @tup a xs _ hs ha => exact ⟨a, xs, rfl, same_sqt r.gh hs, (dvs_len ha).trans hl, h2 r ha h⟩
theorem w_asgP {gt : TG} {t : Tg} {g : Px} (hg : SndGp L gt t) (p : PS X st (tAsg (tW L g) gt)) : PS X st (tWS L (sAsg t g)) := PS.imp p fun D σ H ⟨B, G, ρ, r, h⟩ =>
  ⟨B, G, ρ, r, g.mono (fun d ρ1 h1 v G1 H1 r1 s1 d1 => hg r1 d1 (t.mono (fun ρ2 h2 σ2 G2 H2 r2 s2 => h2 σ2 G2 H2 r2 (s1.trans s2)) h1)) h⟩
def sAlias (i r : Nat) (g1 gv gi : Px) : Ps := ⟨fun ρ nx _ _ _ => ∃ (p : Addr) (qs : List (Addr × List Da)), ρ[i]? = some (some (.gr2 p qs)) ∧ g1.f ρ fun y ρ1 => ∃ (qs1 : List (Addr × List Da)) (k : Nat) (q : Addr) (ds : List Da), ρ1[i]? = some (some (.gr2 p qs1)) ∧ y = .int (k : Nat) ∧ qs1[k]? = some (q, ds) ∧ r < ρ1.length ∧ r ≠ i ∧
    gv.f (ρ1.set r none) fun d ρ2 => gi.f ρ2 fun z ρ3 => ∃ (n : Int) (j : Nat), z = .int n ∧ ρ3[i]? = some (some (.gr2 p qs1)) ∧ ixN ds.length n = some j ∧ nx (ρ3.set i (some (.gr2 p (qs1.set k (q, ds.set j d))))), fun h _ _ _ ⟨p, qs, e, w⟩ => ⟨p, qs, e, g1.mono (fun _ _ ⟨a, b, c, d, e1, e2, e3, e4, e5, w⟩ => ⟨a, b, c, d, e1, e2, e3, e4, e5, gv.mono (fun _ _ => gi.mono fun _ _ ⟨n, j, f1, f2, f3, f4⟩ => ⟨n, j, f1, f2, f3, h _ f4⟩) w⟩) w⟩⟩
theorem w_alias {st1 st2 : Stmt} {ss : List Stmt} {i r : Nat} {g1 gv gi : Px} {h : Ps} (p1 : PS X st1 (tAsg (tOp (rIxL L.K) (tVar i) (tW L g1)) (gName r))) (p2 : PS X st2 (tAsg (tW L gv) (gSub (tVar r) (tW L gi) rSetL))) (q : PSs X ss (tWS L h)) : PSs X (st1 :: st2 :: ss) (tWS L (sSeq (sAlias i r g1 gv gi) h)) := PSs.imp (pss_cons p1 (pss_cons p2 q)) fun D σ H ⟨B, G, ρ, r0, a, qs, hi, hh⟩ => by
  obtain ⟨hs, _⟩ := gr2_at r0 hi
  refine ⟨_, hs, B, G, ρ, r0, g1.mono (fun y ρ1 h1 u G1 H1 r1 s1 d1 => ?_) hh⟩
  obtain ⟨qs1, k, q, ds, hi1, rfl, hk, hlt, hne, h2⟩ := h1
  obtain ⟨_, _, hp, hq, _, _⟩ := gr2_at r1 hi1
  cases d1
  refine ⟨a, _, (k : Int), .ref q, rfl, rfl, .inl (.inl hp), atI_nat (by rw [List.getElem?_map, hk]; rfl), ?_⟩
  have r2 := r1.setN r (some (V.ref q))
  have hl : r < σ.length := by
    have := prd_len r1.env
    omega
  refine ⟨B, G1, _, r2, gv.mono (fun d ρ2 h3 v G2 H2 r3 s3 d3 => ?_) h2⟩
  refine ⟨.ref q, List.getElem?_set_self hl, B, G2, ρ2, r3, gi.mono (fun z ρ3 h4 w G3 H3 r4 s4 d4 => ?_) h3⟩
  obtain ⟨n, j, rfl, hi3, hj, hn⟩ := h4
  rw [dv_int d4]
  obtain ⟨_, _, _, hq3, _, _⟩ := gr2_at r4 hi3
  obtain ⟨_, ws, hw, dw⟩ := hq3 (q, ds) (List.mem_of_getElem? hk)
  refine ⟨q, ws, n, j, rfl, rfl, hw, by rw [dvs_len dw]; exact hj, ?_⟩
  exact tWS_then (s1.trans (s3.trans s4)) hn (r4.chg2 hi3 hk (dvs_set j dw (dv_same s4 d3)))
def zN2 (g : Pl2) : Pz := ⟨fun ρ k => g.f ρ fun yss ρ1 => k (.new2 yss) ρ1, fun h => g.mono fun _ _ => h _ _⟩
theorem w_zN2 {g : Pl2} (p : PE X e (tWN2 L g)) : PE X e (tWZ L (zN2 g)) := PE.imp p fun σ H Q ⟨B, G, ρ, r, h⟩ =>
  ⟨B, G, ρ, r, g.mono (fun yss ρ1 h1 p l G1 H1 r1 K s1 => h1 (.ref p) _ G1 H1 r1 s1 ⟨p, l, rfl, rfl, K⟩) h⟩
theorem w_setLc3 {i : Nat} {vs1 : List Nat} {src src2 : Pl} {g g1 : TG} {t t2 : Tg} {c2 : Pt} {el : Px} (hg : SndV L g t vs) (hg1 : SndV L g1 t2 vs1) (hv : ∀ i ∈ vs1, i ∈ vs) (p : PS X st (tAsg (tLc2 (tWI L src) g (tWT L pYes) (tWI L src2) g1 (tWT L c2) (tW L el) vs vs1) (gName i))) : PS X st (tWS L (sSet i (pNL (pLc3N src t src2 t2 c2 el vs vs1)))) :=
  w_set (PS.imp p fun D σ H q => imp_lc3N hg hg1 hv _ _ _ (imp_NL _ _ _ q))
end
end Fw

namespace Dt
abbrev Mx := Nat → Nat → Int
def skip (i a : Nat) : Nat := if a < i then a else a + 1
def sg : Nat → Int
  | 0 => 1
  | i + 1 => -sg i
def sm : Nat → (Nat → Int) → Int
  | 0, _ => 0
  | n + 1, f => sm n f + f n
theorem sm_congr {f g : Nat → Int} : ∀ {n : Nat}, (∀ i, i < n → f i = g i) → sm n f = sm n g
  | 0, _ => rfl
  | n + 1, h => by
    show sm n f + f n = sm n g + g n
    rw [sm_congr fun i hi => h i (Nat.lt_succ_of_lt hi), h n (Nat.lt_succ_self n)]
theorem sm_zero {f : Nat → Int} : ∀ {n : Nat}, (∀ i, i < n → f i = 0) → sm n f = 0
  | 0, _ => rfl
  | n + 1, h => by
    show sm n f + f n = 0
    rw [sm_zero fun i hi => h i (Nat.lt_succ_of_lt hi), h n (Nat.lt_succ_self n)]
    rfl
theorem sm_lin {f g : Nat → Int} (x y : Int) : ∀ {n : Nat}, sm n (fun i => x * f i + y * g i) = x * sm n f + y * sm n g
  | 0 => by simp [sm]
  | n + 1 => by
    show sm n (fun i => x * f i + y * g i) + (x * f n + y * g n) = x * (sm n f + f n) + y * (sm n g + g n)
    rw [sm_lin x y]
    grind
theorem sm_add {f g : Nat → Int} {n : Nat} : sm n (fun i => f i + g i) = sm n f + sm n g := by
  have := sm_lin (f := f) (g := g) 1 1 (n := n)
  simp only [Int.one_mul] at this
  exact this
theorem sm_mul {f : Nat → Int} (x : Int) {n : Nat} : sm n (fun i => x * f i) = x * sm n f := by
  have := sm_lin (f := f) (g := f) x 0 (n := n)
  simp only [Int.zero_mul, Int.add_zero] at this
  exact this
theorem sm_two {f : Nat → Int} {r : Nat} : ∀ {n : Nat}, r + 1 < n → (∀ i, i < n → i ≠ r → i ≠ r + 1 → f i = 0) → sm n f = f r + f (r + 1)
  | 0, h, _ => by omega
  | n + 1, h, z => by
    show sm n f + f n = _
    by_cases e : r + 1 = n
    · subst e
      show sm r f + f r + f (r + 1) = _
      rw [sm_zero fun i hi => z i (by omega) (by omega) (by omega)]
      omega
    · rw [sm_two (n := n) (by omega) fun i hi => z i (by omega), z n (by omega) (by omega) (by omega)]
      omega
theorem sm_front {f : Nat → Int} : ∀ {n : Nat}, sm (n + 1) f = f 0 + sm n fun i => f (i + 1)
  | 0 => by simp [sm]
  | n + 1 => by
    show sm (n + 1) f + f (n + 1) = f 0 + (sm n (fun i => f (i + 1)) + f (n + 1))
    rw [sm_front (n := n)]
    omega
theorem sm_at {f : Nat → Int} {i : Nat} : ∀ {n : Nat}, i < n + 1 → sm (n + 1) f = f i + sm n fun j => f (skip i j)
  | 0, h => by
    have : i = 0 := by omega
    subst this
    simp [sm]
  | n + 1, h => by
    by_cases e : i = n + 1
    · subst e
      show sm (n + 1) f + f (n + 1) = _
      rw [sm_congr (f := fun j => f (skip (n + 1) j)) (g := f) fun j hj => by simp only [skip, if_pos hj]]
      omega
    · show sm (n + 1) f + f (n + 1) = f i + (sm n (fun j => f (skip i j)) + f (skip i n))
      rw [sm_at (n := n) (i := i) (by omega)]
      have : skip i n = n + 1 := by simp only [skip]; rw [if_neg (by omega)]
      rw [this]
      omega
def det : Nat → Mx → Int
  | 0, _ => 1
  | n + 1, M => sm (n + 1) fun i => sg i * M i 0 * det n fun a b => M (skip i a) (b + 1)
theorem det_congr : ∀ {n : Nat} {M N : Mx}, (∀ a b, a < n → b < n → M a b = N a b) → det n M = det n N
  | 0, _, _, _ => rfl
  | n + 1, M, N, h => sm_congr fun i hi => by
    rw [h i 0 hi (by omega), det_congr (n := n) (M := fun a b => M (skip i a) (b + 1)) (N := fun a b => N (skip i a) (b + 1)) fun a b ha hb => h _ _ (by unfold skip; split <;> omega) (by omega)]
def row (M : Mx) (r : Nat) (v : Nat → Int) : Mx := fun a b => if a = r then v b else M a b
theorem row_at (M : Mx) (r : Nat) (v : Nat → Int) (b : Nat) : row M r v r b = v b := if_pos rfl
theorem row_ne {M : Mx} {r a : Nat} (v : Nat → Int) (b : Nat) (h : a ≠ r) : row M r v a b = M a b := if_neg h
theorem row_self (M : Mx) (r : Nat) : row M r (M r) = M := by
  funext a b
  unfold row
  split
  · rename_i h; rw [h]
  · rfl
theorem skip_ne (i a : Nat) : skip i a ≠ i := by unfold skip; split <;> omega
theorem det_lin : ∀ {n : Nat} {M : Mx} {r : Nat} (x y : Int) (u v : Nat → Int), r < n → det n (row M r fun b => x * u b + y * v b) = x * det n (row M r u) + y * det n (row M r v)
  | 0, _, _, _, _, _, _, h => by omega
  | n + 1, M, r, x, y, u, v, h => by
    show sm (n + 1) _ = x * sm (n + 1) _ + y * sm (n + 1) _
    rw [← sm_lin]
    refine sm_congr fun i hi => ?_
    by_cases e : i = r
    · subst e
      have key : ∀ w, det n (fun a b => row M i w (skip i a) (b + 1)) = det n fun a b => M (skip i a) (b + 1) := fun w => det_congr fun a b _ _ => row_ne _ _ (skip_ne i a)
      rw [key, key, key, row_at, row_at, row_at]
      grind
    · have hr : ∃ r', r' < n ∧ (∀ a, skip i a = r ↔ a = r') := by
        by_cases q : r < i
        · exact ⟨r, by omega, fun a => by unfold skip; split <;> omega⟩
        · exact ⟨r - 1, by omega, fun a => by unfold skip; split <;> omega⟩
      obtain ⟨r', l, hr⟩ := hr
      have key : ∀ w : Nat → Int, det n (fun a b => row M r w (skip i a) (b + 1)) = det n (row (fun a b => M (skip i a) (b + 1)) r' fun b => w (b + 1)) := fun w => det_congr fun a b _ _ => by
        by_cases q : a = r'
        · rw [(hr a).mpr q, q, row_at, row_at]
        · rw [row_ne _ _ q, row_ne _ _ fun z => q ((hr a).mp z)]
      rw [key, key, key, det_lin (n := n) x y (fun b => u (b + 1)) (fun b => v (b + 1)) l, row_ne _ _ e, row_ne _ _ e, row_ne _ _ e]
      grind
theorem det_near : ∀ {n : Nat} {M : Mx} {r : Nat}, r + 1 < n → (∀ b, M r b = M (r + 1) b) → det n M = 0
  | 0, _, _, h, _ => by omega
  | n + 1, M, r, h, e => by
    show sm (n + 1) _ = 0
    rw [sm_two (r := r) h fun i hi n1 n2 => ?_]
    · have k : det n (fun a b => M (skip r a) (b + 1)) = det n fun a b => M (skip (r + 1) a) (b + 1) := det_congr fun a b _ _ => by
        by_cases q : a = r
        · subst q
          have e1 : skip a a = a + 1 := by unfold skip; rw [if_neg (by omega)]
          have e2 : skip (a + 1) a = a := by unfold skip; rw [if_pos (by omega)]
          show M (skip a a) (b + 1) = M (skip (a + 1) a) (b + 1)
          rw [e1, e2, e]
        · have : skip r a = skip (r + 1) a := by unfold skip; split <;> split <;> omega
          show M (skip r a) (b + 1) = M (skip (r + 1) a) (b + 1)
          rw [this]
      show sg r * M r 0 * _ + -sg r * M (r + 1) 0 * _ = 0
      rw [k, e 0]
      grind
    · have z : det n (fun a b => M (skip i a) (b + 1)) = 0 := by
        by_cases q : i < r
        · refine det_near (r := r - 1) (by omega) fun b => ?_
          have e1 : skip i (r - 1) = r := by unfold skip; split <;> omega
          have e2 : skip i (r - 1 + 1) = r + 1 := by unfold skip; split <;> omega
          show M (skip i (r - 1)) (b + 1) = M (skip i (r - 1 + 1)) (b + 1)
          rw [e1, e2, e]
        · refine det_near (r := r) (by omega) fun b => ?_
          have e1 : skip i r = r := by unfold skip; split <;> omega
          have e2 : skip i (r + 1) = r + 1 := by unfold skip; split <;> omega
          show M (skip i r) (b + 1) = M (skip i (r + 1)) (b + 1)
          rw [e1, e2, e]
      rw [z, Int.mul_zero]
def swp (M : Mx) (r s : Nat) : Mx := fun a b => if a = r then M s b else if a = s then M r b else M a b
theorem two_lin {n : Nat} {M : Mx} {r s : Nat} (hr : r < n) (hs : s < n) (ne : r ≠ s) (alt : ∀ w : Nat → Int, det n (row (row M r w) s w) = 0) (u v : Nat → Int) : det n (row (row M r u) s v) = -det n (row (row M r v) s u) := by
  have z := alt fun b => u b + v b
  have f : ∀ a b : Nat → Int, row (row M r a) s b = row (row M s b) r a := fun a b => by
    funext x y
    unfold row
    by_cases e1 : x = r
    · rw [if_pos e1, if_pos e1, if_neg (by omega)]
    · rw [if_neg e1, if_neg e1]
  have e1 : det n (row (row M r fun b => u b + v b) s fun b => u b + v b) = det n (row (row M r fun b => u b + v b) s u) + det n (row (row M r fun b => u b + v b) s v) := by
    have := det_lin (M := row M r fun b => u b + v b) 1 1 u v hs
    simp only [Int.one_mul] at this
    exact this
  have e2 : ∀ w, det n (row (row M r fun b => u b + v b) s w) = det n (row (row M r u) s w) + det n (row (row M r v) s w) := fun w => by
    have := det_lin (M := row M s w) 1 1 u v hr
    simp only [Int.one_mul] at this
    rw [f, f, f]
    exact this
  have z1 := alt u
  have z2 := alt v
  rw [e1, e2, e2, z1, z2] at z
  omega
theorem row_row (M : Mx) (r s : Nat) (ne : r ≠ s) : row (row M r (M r)) s (M s) = M := by rw [row_self, row_self]
theorem swp_row (M : Mx) (r s : Nat) (ne : r ≠ s) : row (row M r (M s)) s (M r) = swp M r s := by
  funext a b
  unfold row swp
  by_cases e : a = r
  · rw [if_pos e, if_pos e, if_neg (by omega)]
  · rw [if_neg e, if_neg e]
theorem det_swapN {n : Nat} {M : Mx} {r : Nat} (h : r + 1 < n) : det n (swp M r (r + 1)) = -det n M := by
  have := two_lin (M := M) (r := r) (s := r + 1) (by omega) h (by omega) (fun w => det_near h fun b => by
    rw [row_at, row_ne _ _ (by omega), row_at]) (M (r + 1)) (M r)
  rw [swp_row _ _ _ (by omega), row_row _ _ _ (by omega)] at this
  exact this
theorem det_same {n : Nat} : ∀ {d : Nat} {M : Mx} {r : Nat}, r + d + 1 < n → (∀ b, M r b = M (r + d + 1) b) → det n M = 0
  | 0, _, _, h, e => det_near h e
  | d + 1, M, r, h, e => by
    have k := det_swapN (M := M) (r := r + d + 1) h
    have z : det n (swp M (r + d + 1) (r + d + 1 + 1)) = 0 := det_same (d := d) (r := r) (by omega) fun b => by
      show swp M (r + d + 1) (r + d + 1 + 1) r b = swp M (r + d + 1) (r + d + 1 + 1) (r + d + 1) b
      unfold swp
      rw [if_neg (by omega), if_neg (by omega), if_pos rfl]
      exact e b
    omega
theorem det_alt {n : Nat} {M : Mx} {r s : Nat} (hr : r < n) (hs : s < n) (ne : r ≠ s) (e : ∀ b, M r b = M s b) : det n M = 0 := by
  by_cases q : r < s
  · exact det_same (d := s - r - 1) (r := r) (by omega) fun b => by
      have : r + (s - r - 1) + 1 = s := by omega
      rw [this, e]
  · exact det_same (d := r - s - 1) (r := s) (by omega) fun b => by
      have : s + (r - s - 1) + 1 = r := by omega
      rw [this, e]
theorem det_swp {n : Nat} {M : Mx} {r s : Nat} (hr : r < n) (hs : s < n) (ne : r ≠ s) : det n (swp M r s) = -det n M := by
  have := two_lin (M := M) (r := r) (s := s) hr hs ne (fun w => det_alt hr hs ne fun b => by
    rw [row_at, row_ne _ _ ne, row_at]) (M s) (M r)
  rw [swp_row _ _ _ ne, row_row _ _ _ ne] at this
  exact this
theorem det_comb {n : Nat} {M : Mx} {r s : Nat} (hr : r < n) (hs : s < n) (ne : r ≠ s) (x y : Int) : det n (row M r fun b => x * M r b + y * M s b) = x * det n M := by
  rw [det_lin x y (M r) (M s) hr, row_self, det_alt (M := row M r (M s)) hr hs ne fun b => by rw [row_at, row_ne _ _ (Ne.symm ne)]]
  omega
theorem det_scale {n : Nat} (x : Int) (M : Mx) : ∀ t, t ≤ n → det n (fun a b => if a < t then x * M a b else M a b) = x ^ t * det n M
  | 0, _ => by simp
  | t + 1, h => by
    have e : (fun a b => if a < t + 1 then x * M a b else M a b) = row (fun a b => if a < t then x * M a b else M a b) t fun b => x * M t b + 0 * M t b := by
      funext a b
      unfold row
      by_cases q : a = t
      · subst q
        rw [if_pos (by omega), if_pos rfl]
        simp only []
        omega
      · rw [if_neg q]
        simp only []
        by_cases q2 : a < t
        · rw [if_pos q2, if_pos (by omega)]
        · rw [if_neg q2, if_neg (by omega)]
    have e2 : row (fun a b => if a < t then x * M a b else M a b) t (M t) = fun a b => if a < t then x * M a b else M a b := by
      funext a b
      unfold row
      by_cases q : a = t
      · subst q
        rw [if_pos rfl, if_neg (by omega)]
      · rw [if_neg q]
    rw [e, det_lin x 0 (M t) (M t) (by omega), e2, det_scale x M t (by omega), Int.pow_succ]
    grind
theorem det_mul {n : Nat} (x : Int) (M : Mx) : det n (fun a b => x * M a b) = x ^ n * det n M := by
  rw [← det_scale x M n (Nat.le_refl _)]
  exact det_congr fun a b ha _ => by rw [if_pos ha]
theorem det_clear {m : Nat} (M : Mx) : ∀ t, t ≤ m → det (m + 1) (fun a b => if 0 < a ∧ a < t + 1 then M 0 0 * M a b - M a 0 * M 0 b else M a b) = M 0 0 ^ t * det (m + 1) M
  | 0, _ => by
    rw [Int.pow_zero, Int.one_mul]
    exact det_congr fun a b _ _ => by rw [if_neg (by omega)]
  | t + 1, h => by
    rw [Int.pow_succ, Int.mul_comm (M 0 0 ^ t), Int.mul_assoc, ← det_clear M t (by omega)]
    have := det_comb (n := m + 1) (M := fun a b => if 0 < a ∧ a < t + 1 then M 0 0 * M a b - M a 0 * M 0 b else M a b) (r := t + 1) (s := 0) (by omega) (by omega) (by omega) (M 0 0) (-M (t + 1) 0)
    rw [← this]
    refine det_congr fun a b _ _ => ?_
    unfold row
    by_cases q : a = t + 1
    · subst q
      rw [if_pos (by omega), if_pos rfl]
      simp only []
      rw [if_neg (by omega), if_neg (by omega)]
      grind
    · rw [if_neg q]
      simp only []
      by_cases q2 : 0 < a ∧ a < t + 1
      · rw [if_pos q2, if_pos (by omega)]
      · rw [if_neg q2, if_neg (by omega)]
theorem det_first {m : Nat} {M : Mx} (h : ∀ a, 0 < a → M a 0 = 0) : det (m + 1) M = M 0 0 * det m fun a b => M (a + 1) (b + 1) := by
  show sm (m + 1) _ = _
  rw [sm_front, sm_zero (n := m) fun i _ => ?_]
  · show 1 * M 0 0 * det m (fun a b => M (skip 0 a) (b + 1)) + 0 = _
    have : ∀ a, skip 0 a = a + 1 := fun a => by unfold skip; rw [if_neg (by omega)]
    simp only [this]
    rw [Int.one_mul, Int.add_zero]
  · show sg (i + 1) * M (i + 1) 0 * _ = 0
    rw [h (i + 1) (by omega)]
    simp
theorem chio {m : Nat} (M : Mx) : M 0 0 * det m (fun a b => M 0 0 * M (a + 1) (b + 1) - M (a + 1) 0 * M 0 (b + 1)) = M 0 0 ^ m * det (m + 1) M := by
  have e : det (m + 1) (fun a b => if 0 < a ∧ a < m + 1 then M 0 0 * M a b - M a 0 * M 0 b else M a b) = det (m + 1) (fun a b => if 0 < a then M 0 0 * M a b - M a 0 * M 0 b else M a b) := det_congr fun a b ha _ => by
    by_cases q : 0 < a
    · rw [if_pos (by omega), if_pos q]
    · rw [if_neg (by omega), if_neg q]
  rw [← det_clear M m (Nat.le_refl _), e, det_first (M := fun a b => if 0 < a then M 0 0 * M a b - M a 0 * M 0 b else M a b) fun a ha => ?_]
  · rw [if_neg (by omega)]
    congr 1
  · rw [if_pos ha]
    grind
theorem det_one (M : Mx) : det 1 M = M 0 0 := by
  show 0 + 1 * M 0 0 * 1 = _
  omega
theorem det_two (M : Mx) : det 2 M = M 0 0 * M 1 1 - M 1 0 * M 0 1 := by
  show 0 + 1 * M 0 0 * (0 + 1 * M 1 1 * 1) + -1 * M 1 0 * (0 + 1 * M 0 1 * 1) = _
  grind
theorem det_col0 {m : Nat} {M : Mx} (h : ∀ a, a < m + 1 → M a 0 = 0) : det (m + 1) M = 0 := sm_zero fun i hi => by
  rw [h i hi]
  simp
end Dt

namespace Dt
section
variable {X Y : Type}
def ap (k : Nat) (p f : Nat → X) : Nat → X := fun i => if i < k then p i else f (i - k)
def snoc (k : Nat) (p : Nat → X) (x : X) : Nat → X := fun i => if i < k then p i else x
def cns (x : X) (f : Nat → X) : Nat → X
  | 0 => x
  | i + 1 => f i
theorem ap_snoc (k : Nat) (p f : Nat → X) (x : X) (i : Nat) : ap (k + 1) (snoc k p x) f i = ap k p (cns x f) i := by
  unfold ap snoc
  by_cases h : i < k
  · rw [if_pos (by omega), if_pos h, if_pos h]
  · by_cases e : i = k
    · subst e
      rw [if_pos (by omega), if_neg h, if_neg h, Nat.sub_self]
      rfl
    · rw [if_neg (by omega), if_neg h]
      have : i - k = (i - (k + 1)) + 1 := by omega
      rw [this]
      rfl
structure Rel (b bk : X → Y → Int) (before : Int) (k : Nat) (p : Nat → X) (q : Nat → Y) : Prop where
  ne : before ≠ 0
  bf : before = det k fun i j => b (p i) (q j)
  eq : ∀ (m : Nat) (f : Nat → X) (g : Nat → Y), det (m + 1) (fun i j => bk (f i) (g j)) = before ^ m * det (k + (m + 1)) (fun i j => b (ap k p f i) (ap k q g j))
variable {b bk bk' : X → Y → Int} {before : Int} {k : Nat} {p : Nat → X} {q : Nat → Y}
theorem rel0 (p : Nat → X) (q : Nat → Y) : Rel b b 1 0 p q := by
  refine ⟨by decide, rfl, fun m f g => ?_⟩
  rw [Int.one_pow, Int.one_mul, Nat.zero_add]
  exact det_congr fun i j _ _ => by simp [ap]
theorem Rel.dvd (R : Rel b bk before k p q) (x0 x : X) (y0 y : Y) : ∃ z, bk x0 y0 * bk x y - bk x y0 * bk x0 y = before * z := by
  have := R.eq 1 (cns x0 fun _ => x) (cns y0 fun _ => y)
  rw [det_two] at this
  simp only [cns] at this
  rw [this]
  exact ⟨_, by rw [Int.pow_succ, Int.pow_zero, Int.one_mul]⟩
theorem Rel.next (R : Rel b bk before k p q) {x0 : X} {y0 : Y} (hp : bk x0 y0 ≠ 0) (h : ∀ x y, before * bk' x y = bk x0 y0 * bk x y - bk x y0 * bk x0 y) : Rel b bk' (bk x0 y0) (k + 1) (snoc k p x0) (snoc k q y0) := by
  refine ⟨hp, ?_, fun m f g => ?_⟩
  · have := R.eq 0 (fun _ => x0) (fun _ => y0)
    rw [det_one, Int.pow_zero, Int.one_mul] at this
    rw [this]
    refine det_congr fun i j hi hj => ?_
    unfold ap snoc
    rfl
  · have c : bk x0 y0 * det (m + 1) (fun a b_1 => bk x0 y0 * bk (f a) (g b_1) - bk (f a) y0 * bk x0 (g b_1)) = bk x0 y0 ^ (m + 1) * det (m + 1 + 1) (fun i j => bk (cns x0 f i) (cns y0 g j)) := chio (m := m + 1) (fun i j => bk (cns x0 f i) (cns y0 g j))
    have e : det (m + 1) (fun a b_1 => bk x0 y0 * bk (f a) (g b_1) - bk (f a) y0 * bk x0 (g b_1)) = before ^ (m + 1) * det (m + 1) fun i j => bk' (f i) (g j) := by
      rw [← det_mul]
      exact det_congr fun i j _ _ => by rw [h]
    rw [e, R.eq (m + 1) (cns x0 f) (cns y0 g)] at c
    have e2 : det (k + 1 + (m + 1)) (fun i j => b (ap (k + 1) (snoc k p x0) f i) (ap (k + 1) (snoc k q y0) g j)) = det (k + (m + 1 + 1)) (fun i j => b (ap k p (cns x0 f) i) (ap k q (cns y0 g) j)) := by
      have : k + 1 + (m + 1) = k + (m + 1 + 1) := by omega
      rw [this]
      exact det_congr fun i j _ _ => by rw [ap_snoc, ap_snoc]
    rw [e2]
    have hb : before ^ (m + 1) ≠ 0 := Int.pow_ne_zero R.ne
    have c2 : (bk x0 y0 * before ^ (m + 1)) * det (m + 1) (fun i j => bk' (f i) (g j)) = (bk x0 y0 * before ^ (m + 1)) * (bk x0 y0 ^ m * det (k + (m + 1 + 1)) (fun i j => b (ap k p (cns x0 f) i) (ap k q (cns y0 g) j))) := by
      rw [Int.pow_succ (bk x0 y0)] at c
      grind
    exact Int.eq_of_mul_eq_mul_left (Int.mul_ne_zero hp hb) c2
end
def cyc (k c a : Nat) : Nat := if a < k then a else if a = k then k + c else if a ≤ k + c then a - 1 else a
theorem det_cyc {n k : Nat} : ∀ {c : Nat} {N : Mx}, k + c < n → det n (fun a b => N (cyc k c a) b) = sg c * det n N
  | 0, N, _ => by
    rw [det_congr (N := N) fun a b _ _ => ?_]
    · show _ = 1 * _
      omega
    · have : cyc k 0 a = a := by unfold cyc; split <;> (try split) <;> (try split) <;> omega
      rw [this]
  | c + 1, N, h => by
    have e : det n (fun a b => N (cyc k (c + 1) a) b) = det n (fun a b => swp N (k + c) (k + c + 1) (cyc k c a) b) := det_congr fun a b _ _ => by
      unfold swp cyc
      by_cases h1 : a < k
      · simp only [if_pos h1]
        rw [if_neg (by omega), if_neg (by omega)]
      · simp only [if_neg h1]
        by_cases h2 : a = k
        · simp only [if_pos h2]
          rw [if_pos True.intro]
          rfl
        · simp only [if_neg h2]
          by_cases h3 : a ≤ k + c
          · rw [if_pos (by omega), if_pos h3, if_neg (by omega), if_neg (by omega)]
          · by_cases h4 : a = k + c + 1
            · rw [if_pos (by omega), if_neg h3, if_neg (by omega), if_pos h4, h4]
              rfl
            · rw [if_neg (by omega), if_neg h3, if_neg (by omega), if_neg h4]
    rw [e, det_cyc (c := c) (by omega), det_swapN (by omega)]
    show _ = -sg c * _
    grind
def grm (bk : Nat → Nat → Int) (ord : Nat → Nat) (k m : Nat) : List (List Int) := (List.range m).map fun i => (List.range m).map fun j => bk (ord (k + i)) (k + j)
structure SB (M : Mx) (n k : Nat) (left : List (List Int)) (before s : Int) : Prop where
  le : k ≤ n
  ex : ∃ (ord : Nat → Nat) (bk : Nat → Nat → Int), Rel M bk before k ord (fun j => j) ∧ left = grm bk ord k (n - k) ∧ det n (fun a b => M (ord a) b) = s * det n M
variable {M : Mx} {n k : Nat} {left : List (List Int)} {before s : Int}
theorem SB.len (S : SB M n k left before s) : left.length = n - k := by
  obtain ⟨ord, bk, _, e, _⟩ := S.ex
  rw [e]
  simp [grm]
theorem SB.rows (S : SB M n k left before s) : ∀ r ∈ left, r.length = n - k := by
  obtain ⟨ord, bk, _, e, _⟩ := S.ex
  intro r hr
  rw [e] at hr
  obtain ⟨i, _, rfl⟩ := List.mem_map.mp hr
  simp
def mx (T : List (List Int)) : Mx := fun a b => (T.getD a []).getD b 0
theorem sb0 {T : List (List Int)} (h : ∀ r ∈ T, r.length = T.length) : SB (mx T) T.length 0 T 1 1 := by
  refine ⟨Nat.zero_le _, fun a => a, mx T, rel0 _ _, ?_, by rw [Int.one_mul]⟩
  refine List.ext_getElem (by simp [grm]) fun i h1 h2 => ?_
  have hl := h _ (List.getElem_mem h1)
  refine List.ext_getElem (by simp [grm, hl]) fun j h3 h4 => ?_
  simp [grm, mx, List.getD_eq_getElem?_getD, List.getElem?_eq_getElem h1, List.getElem?_eq_getElem h3]
theorem ap_ord {ord : Nat → Nat} (i : Nat) : ap k ord (fun i => ord (k + i)) i = ord i := by
  unfold ap
  split
  · rfl
  · rename_i h
    show ord (k + (i - k)) = ord i
    rw [Nat.add_sub_cancel' (by omega)]
theorem SB.nil (S : SB M n k left before s) (hs : s ≠ 0) (hk : k < n) (h : ∀ r ∈ left, r.getD 0 0 = 0) : det n M = 0 := by
  obtain ⟨ord, bk, R, e, d⟩ := S.ex
  have z := R.eq (n - k - 1) (fun i => ord (k + i)) (fun j => k + j)
  have e1 : n - k - 1 + 1 = n - k := by omega
  rw [det_col0 (m := n - k - 1) fun a ha => ?_] at z
  · have e2 : det (k + (n - k - 1 + 1)) (fun i j => M (ap k ord (fun i => ord (k + i)) i) (ap k (fun j => j) (fun j => k + j) j)) = det n (fun a b => M (ord a) b) := by
      have : k + (n - k - 1 + 1) = n := by omega
      rw [this]
      exact det_congr fun a b _ _ => by rw [ap_ord, ap_ord (ord := fun j => j)]
    rw [e2, d] at z
    have hb : before ^ (n - k - 1) ≠ 0 := Int.pow_ne_zero R.ne
    rcases Int.mul_eq_zero.mp z.symm with q | q
    · exact absurd q hb
    · rcases Int.mul_eq_zero.mp q with q | q
      · exact absurd q hs
      · exact q
  · have hr : (List.range (n - k)).map (fun j => bk (ord (k + a)) (k + j)) ∈ left := by
      rw [e]
      exact List.mem_map.mpr ⟨a, List.mem_range.mpr (by omega), rfl⟩
    have := h _ hr
    rw [List.getD_eq_getElem?_getD, List.getElem?_map, List.getElem?_range (by omega)] at this
    exact this
theorem SB.fin (S : SB M n n left before s) (hs : s = 1 ∨ s = -1) : det n M = s * before := by
  obtain ⟨ord, bk, R, e, d⟩ := S.ex
  rw [R.bf, d]
  rcases hs with rfl | rfl <;> grind
theorem grm_at {bk : Nat → Nat → Int} {ord : Nat → Nat} {m i : Nat} (h : i < m) : (grm bk ord k m)[i]? = some ((List.range m).map fun j => bk (ord (k + i)) (k + j)) := by
  unfold grm
  rw [List.getElem?_map, List.getElem?_range h]
  rfl
theorem Rel.ord {X Y : Type} {b bk : X → Y → Int} {p p' : Nat → X} {q : Nat → Y} (R : Rel b bk before k p q) (h : ∀ i, i < k → p' i = p i) : Rel b bk before k p' q := by
  refine ⟨R.ne, R.bf.trans (det_congr fun i j hi _ => by rw [h i hi]), fun m f g => (R.eq m f g).trans ?_⟩
  congr 1
  refine det_congr fun i j _ _ => ?_
  have : ap k p' f i = ap k p f i := by
    unfold ap
    split
    · rename_i hi; exact h i hi
    · rfl
  rw [this]
theorem SB.pop (S : SB M n k left before s) {c : Nat} {r : List Int} (hc : left[c]? = some r) : SB M n k (r :: left.eraseIdx c) before (sg c * s) := by
  obtain ⟨ord, bk, R, e, d⟩ := S.ex
  have hl : c < n - k := by
    have := S.len
    have := (List.getElem?_eq_some_iff.mp hc).1
    omega
  have le := S.le
  refine ⟨S.le, fun a => ord (cyc k c a), bk, R.ord fun i hi => by simp [cyc, if_pos hi], ?_, ?_⟩
  · have g : ∀ i, i < n - k → left[i]? = some ((List.range (n - k)).map fun j => bk (ord (k + i)) (k + j)) := fun i hi => by rw [e]; exact grm_at hi
    refine List.ext_getElem? fun i => ?_
    by_cases hi : i < n - k
    · rw [grm_at hi]
      cases i with
      | zero =>
        have hc2 := g c hl
        rw [hc] at hc2
        have : cyc k c (k + 0) = k + c := by unfold cyc; rw [if_neg (by omega), if_pos (by omega)]
        rw [this]
        exact hc2
      | succ i =>
        show (left.eraseIdx c)[i]? = _
        rw [List.getElem?_eraseIdx]
        by_cases q : i < c
        · have : cyc k c (k + (i + 1)) = k + i := by unfold cyc; rw [if_neg (by omega), if_neg (by omega), if_pos (by omega)]; omega
          rw [if_pos q, this]
          exact g i (by omega)
        · have : cyc k c (k + (i + 1)) = k + (i + 1) := by unfold cyc; rw [if_neg (by omega), if_neg (by omega), if_neg (by omega)]
          rw [if_neg q, this]
          exact g (i + 1) hi
    · rw [List.getElem?_eq_none (by rw [List.length_cons, List.length_eraseIdx_of_lt (by rw [S.len]; exact hl), S.len]; omega), List.getElem?_eq_none (by simp [grm]; omega)]
  · rw [det_cyc (N := fun a b => M (ord a) b) (by omega), d, Int.mul_assoc]
theorem SB.swap (S : SB M n k left before s) {c : Nat} {r h : List Int} {t : List (List Int)} (hc : (h :: t)[c]? = some r) (hl : left = h :: t) (c0 : c ≠ 0) : SB M n k (r :: t.set (c - 1) h) before (-s) := by
  obtain ⟨ord, bk, R, e, d⟩ := S.ex
  have len := S.len
  have le := S.le
  have hlt : c < n - k := by
    have := (List.getElem?_eq_some_iff.mp hc).1
    rw [hl] at len
    omega
  refine ⟨S.le, fun a => ord (if a = k then k + c else if a = k + c then k else a), bk, R.ord fun i hi => by rw [if_neg (by omega), if_neg (by omega)], ?_, ?_⟩
  · have g : ∀ i, i < n - k → (h :: t)[i]? = some ((List.range (n - k)).map fun j => bk (ord (k + i)) (k + j)) := fun i hi => by rw [← hl, e]; exact grm_at hi
    refine List.ext_getElem? fun i => ?_
    rw [hl, List.length_cons] at len
    by_cases hi : i < n - k
    · rw [grm_at hi]
      cases i with
      | zero =>
        have hc2 := g c hlt
        rw [hc] at hc2
        rw [if_pos (by omega)]
        exact hc2
      | succ i =>
        show (t.set (c - 1) h)[i]? = _
        rw [if_neg (by omega), List.getElem?_set]
        by_cases q : c - 1 = i
        · rw [if_pos q, if_pos (by omega), if_pos (by omega)]
          exact g 0 (by omega)
        · rw [if_neg q, if_neg (by omega)]
          exact g (i + 1) hi
    · rw [List.getElem?_eq_none (by simp; omega), List.getElem?_eq_none (by simp [grm]; omega)]
  · have := det_swp (n := n) (M := fun a b => M (ord a) b) (r := k) (s := k + c) (by omega) (by omega) (by omega)
    rw [d] at this
    rw [show -s * det n M = -(s * det n M) by grind, ← this]
    refine det_congr fun a b _ _ => ?_
    unfold swp
    simp only []
    by_cases q : a = k
    · rw [if_pos q, if_pos q]
    · rw [if_neg q, if_neg q]
      by_cases q2 : a = k + c
      · rw [if_pos q2, if_pos q2]
      · rw [if_neg q2, if_neg q2]
def clr (pv r0 before : Int) (r h : List Int) : List Int := List.zipWith (fun one other => (pv * one - r0 * other) / before) r h
theorem SB.step {h : List Int} {t : List (List Int)} {pv : Int} (S : SB M n k (h :: t) before s) (hp : h.getD 0 0 = pv) (ne : pv ≠ 0) :
    SB M n (k + 1) (t.map fun r => clr pv (r.getD 0 0) before (r.drop 1) (h.drop 1)) pv s ∧ k < n := by
  obtain ⟨ord, bk, R, e, d⟩ := S.ex
  have len := S.len
  rw [List.length_cons] at len
  have hk : k < n := by omega
  have g : ∀ i, i < n - k → (h :: t)[i]? = some ((List.range (n - k)).map fun j => bk (ord (k + i)) (k + j)) := fun i hi => by rw [e]; exact grm_at hi
  have gh : h = (List.range (n - k)).map fun j => bk (ord (k + 0)) (k + j) := by simpa using g 0 (by omega)
  have at0 : ∀ f : Nat → Int, ((List.range (n - k)).map f).getD 0 0 = f 0 := fun f => by rw [List.getD_eq_getElem?_getD, List.getElem?_map, List.getElem?_range (by omega)]; rfl
  have epv : bk (ord k) k = pv := by rw [← hp, gh, at0]; rfl
  have hb : ∀ x y, before * ((pv * bk x y - bk x k * bk (ord k) y) / before) = pv * bk x y - bk x k * bk (ord k) y := fun x y => by
    obtain ⟨z, hz⟩ := R.dvd (ord k) x k y
    rw [epv] at hz
    rw [hz, Int.mul_ediv_cancel_left _ R.ne]
  have R2 := R.next (bk' := fun x y => (pv * bk x y - bk x k * bk (ord k) y) / before) (x0 := ord k) (y0 := k) (by rw [epv]; exact ne) (fun x y => by rw [hb, epv])
  rw [epv] at R2
  refine ⟨⟨hk, ord, fun x y => (pv * bk x y - bk x k * bk (ord k) y) / before, ?_, ?_, d⟩, hk⟩
  · have e1 : ∀ i, i < k + 1 → ord i = snoc k ord (ord k) i := fun i hi => by
      unfold snoc
      split
      · rfl
      · rw [show i = k by omega]
    have R3 := R2.ord (p' := ord) e1
    refine ⟨R3.ne, R3.bf.trans (det_congr fun i j hi hj => ?_), fun m f g => (R3.eq m f g).trans ?_⟩
    · have : snoc k (fun j => j) k j = j := by
        unfold snoc
        split
        · rfl
        · omega
      rw [this]
    · congr 1
      refine det_congr fun i j _ _ => ?_
      have : ap (k + 1) (snoc k (fun j => j) k) g j = ap (k + 1) (fun j => j) g j := by
        unfold ap
        split
        · show (if j < k then j else k) = j
          split
          · rfl
          · omega
        · rfl
      rw [this]
  · refine List.ext_getElem? fun i => ?_
    by_cases hi : i < n - (k + 1)
    · rw [grm_at hi, List.getElem?_map]
      have gi := g (i + 1) (by omega)
      rw [List.getElem?_cons_succ] at gi
      rw [gi]
      show some (clr pv (((List.range (n - k)).map fun j => bk (ord (k + (i + 1))) (k + j)).getD 0 0) before (((List.range (n - k)).map fun j => bk (ord (k + (i + 1))) (k + j)).drop 1) (h.drop 1)) = some _
      congr 1
      rw [gh, at0]
      unfold clr
      refine List.ext_getElem? fun j => ?_
      by_cases hj : j < n - (k + 1)
      · rw [List.getElem?_zipWith, List.getElem?_drop, List.getElem?_drop, List.getElem?_map, List.getElem?_map, List.getElem?_map, List.getElem?_range (by omega), List.getElem?_range hj]
        show some _ = some _
        have h1 : k + (i + 1) = k + 1 + i := by omega
        have h2 : k + (1 + j) = k + 1 + j := by omega
        rw [h1]
        simp only []
        rw [h2]
        rfl
      · rw [List.getElem?_eq_none (by simp; omega), List.getElem?_eq_none (by simp; omega)]
    · rw [List.getElem?_eq_none (by simp; omega), List.getElem?_eq_none (by simp [grm]; omega)]
end Dt

namespace Dt
def dot (r : Nat) (e c : Nat → Int) : Int := sm r fun i => e i * c i
theorem dot_at {r i : Nat} (e c : Nat → Int) (h : i < r + 1) : dot (r + 1) e c = e i * c i + dot r (fun j => e (skip i j)) (fun j => c (skip i j)) := sm_at (f := fun i => e i * c i) h
def unskip (i : Nat) (x : Int) (c : Nat → Int) : Nat → Int := fun j => if j < i then c j else if j = i then x else c (j - 1)
theorem unskip_at (i : Nat) (x : Int) (c : Nat → Int) : unskip i x c i = x := by unfold unskip; rw [if_neg (by omega), if_pos rfl]
theorem unskip_skip (i : Nat) (x : Int) (c : Nat → Int) (j : Nat) : unskip i x c (skip i j) = c j := by
  unfold unskip skip
  by_cases h : j < i
  · rw [if_pos h, if_pos h]
  · rw [if_neg h, if_neg (by omega), if_neg (by omega)]
    rfl
theorem homog : ∀ (E : List (Nat → Int)) (r : Nat), E.length < r → ∃ c : Nat → Int, (∃ i, i < r ∧ c i ≠ 0) ∧ ∀ e ∈ E, dot r e c = 0
  | [], r, h => ⟨fun _ => 1, ⟨0, h, by decide⟩, fun _ z => by cases z⟩
  | e :: E, r, h => by
    have hE : E.length + 1 < r := h
    by_cases q : ∃ i, i < r ∧ e i ≠ 0
    · obtain ⟨i, hi, ne⟩ := q
      obtain ⟨r', rfl⟩ : ∃ r', r = r' + 1 := ⟨r - 1, by omega⟩
      obtain ⟨c, ⟨j, hj, cj⟩, hc⟩ := homog (E.map fun e' j => e i * e' (skip i j) - e' i * e (skip i j)) r' (by simp; omega)
      have val : ∀ e' : Nat → Int, dot (r' + 1) e' (unskip i (-(dot r' (fun j => e (skip i j)) c)) fun j => e i * c j) = dot r' (fun j => e i * e' (skip i j) - e' i * e (skip i j)) c := fun e' => by
        rw [dot_at e' _ hi, unskip_at]
        unfold dot
        have a1 : sm r' (fun j => e' (skip i j) * unskip i (-(sm r' fun i_1 => e (skip i i_1) * c i_1)) (fun j => e i * c j) (skip i j)) = e i * sm r' (fun j => e' (skip i j) * c j) := by
          rw [← sm_mul]
          exact sm_congr fun j _ => by rw [unskip_skip]; grind
        have a2 : sm r' (fun j => (e i * e' (skip i j) - e' i * e (skip i j)) * c j) = e i * sm r' (fun j => e' (skip i j) * c j) + -(e' i) * sm r' (fun j => e (skip i j) * c j) := by
          rw [← sm_lin]
          exact sm_congr fun j _ => by grind
        rw [a1, a2]
        grind
      refine ⟨unskip i (-(dot r' (fun j => e (skip i j)) c)) (fun j => e i * c j), ⟨skip i j, by unfold skip; split <;> omega, by rw [unskip_skip]; exact Int.mul_ne_zero ne cj⟩, fun e' he => ?_⟩
      rw [val]
      rcases List.mem_cons.mp he with rfl | he
      · exact sm_zero fun j _ => by grind
      · exact hc _ (List.mem_map.mpr ⟨e', he, rfl⟩)
    · obtain ⟨c, hn, hc⟩ := homog E r (by omega)
      refine ⟨c, hn, fun e' he => ?_⟩
      rcases List.mem_cons.mp he with rfl | he
      · exact sm_zero fun j hj => by
          have : e' j = 0 := Decidable.byContradiction fun z => q ⟨j, hj, z⟩
          rw [this, Int.zero_mul]
      · exact hc e' he
abbrev Ve := Nat → Int
def vadd (u v : Ve) : Ve := fun i => u i + v i
def vsmul (x : Int) (u : Ve) : Ve := fun i => x * u i
def vz : Ve := fun _ => 0
structure Lin (l : Ve → Int) : Prop where
  add : ∀ u v, l (vadd u v) = l u + l v
  mul : ∀ x u, l (vsmul x u) = x * l u
theorem Lin.z {l : Ve → Int} (h : Lin l) : l vz = 0 := by
  have := h.mul 0 vz
  rw [Int.zero_mul] at this
  have e : vsmul 0 vz = vz := by funext i; simp [vsmul, vz]
  rw [e] at this
  exact this
def comb : Nat → (Nat → Ve) → (Nat → Int) → Ve
  | 0, _, _ => vz
  | r + 1, p, c => vadd (comb r p c) (vsmul (c r) (p r))
theorem Lin.comb {l : Ve → Int} (h : Lin l) (p : Nat → Ve) (c : Nat → Int) : ∀ r, l (Dt.comb r p c) = dot r (fun i => l (p i)) c
  | 0 => h.z
  | r + 1 => by
    show l (vadd _ _) = sm r _ + _
    rw [h.add, h.mul, h.comb p c r]
    unfold dot
    grind
structure Sq where
  w : Int
  l : Ve → Int
  p : Ve
def sqs (v : Ve) : List Sq → Int
  | [] => 0
  | s :: r => s.w * (s.l v * s.l v) + sqs v r
def pos (L : List Sq) : Nat := (L.filter fun s => decide (0 < s.w)).length
def neg (L : List Sq) : Nat := (L.filter fun s => decide (s.w < 0)).length
inductive Tri : List Sq → Prop
  | nil : Tri []
  | cons {s : Sq} {r : List Sq} : Lin s.l → s.w ≠ 0 → s.l s.p ≠ 0 → (∀ t ∈ r, t.l s.p = 0) → Tri r → Tri (s :: r)
theorem sqs_nn {v : Ve} : ∀ {L : List Sq}, (∀ s ∈ L, s.w < 0 → s.l v = 0) → 0 ≤ sqs v L ∧ (sqs v L = 0 → ∀ s ∈ L, s.w ≠ 0 → s.l v = 0)
  | [], _ => ⟨Int.le_refl _, fun _ _ h => by cases h⟩
  | s :: r, h => by
    obtain ⟨h1, h2⟩ := sqs_nn (v := v) (L := r) fun t ht => h t (List.mem_cons_of_mem _ ht)
    have hs : 0 ≤ s.w * (s.l v * s.l v) ∧ (s.w * (s.l v * s.l v) = 0 → s.w ≠ 0 → s.l v = 0) := by
      by_cases q : s.w < 0
      · rw [h s List.mem_cons_self q]
        simp
      · refine ⟨Int.mul_nonneg (by omega) ?_, fun z n => ?_⟩
        · rcases Int.le_total 0 (s.l v) with t | t
          · exact Int.mul_nonneg t t
          · exact Int.mul_nonneg_of_nonpos_of_nonpos t t
        · rcases Int.mul_eq_zero.mp z with z | z
          · exact absurd z n
          · rcases Int.mul_eq_zero.mp z with z | z <;> exact z
    refine ⟨by show 0 ≤ _ + _; omega, fun z t ht n => ?_⟩
    have z : s.w * (s.l v * s.l v) + sqs v r = 0 := z
    rcases List.mem_cons.mp ht with e | ht
    · subst e
      exact hs.2 (by omega) n
    · exact h2 (by omega) t ht n
def flipS (L : List Sq) : List Sq := L.map fun s => ⟨-s.w, s.l, s.p⟩
theorem sqs_flip {v : Ve} : ∀ {L : List Sq}, sqs v (flipS L) = -sqs v L
  | [] => rfl
  | s :: r => by
    show -s.w * (s.l v * s.l v) + sqs v (flipS r) = -(s.w * (s.l v * s.l v) + sqs v r)
    rw [sqs_flip]
    grind
theorem sqs_np {v : Ve} {L : List Sq} (h : ∀ s ∈ L, 0 < s.w → s.l v = 0) : sqs v L ≤ 0 := by
  have := (sqs_nn (v := v) (L := flipS L) fun s hs n => by
    obtain ⟨t, ht, rfl⟩ := List.mem_map.mp hs
    exact h t ht (by simp only [] at n; omega)).1
  rw [sqs_flip] at this
  omega
theorem tri_at {L : List Sq} (T : Tri L) : ∀ {i j : Nat} {s t : Sq}, L[i]? = some s → L[j]? = some t → i < j → t.l s.p = 0 := by
  induction T with
  | nil => intro i j s t h _ _; simp at h
  | @cons s0 r l w n z T ih =>
    intro i j s t h1 h2 hij
    cases i with
    | zero =>
      simp at h1
      subst h1
      cases j with
      | zero => omega
      | succ j => exact z t (List.mem_of_getElem? (by simpa using h2))
    | succ i =>
      cases j with
      | zero => omega
      | succ j => exact ih (by simpa using h1) (by simpa using h2) (by omega)
theorem tri_own {L : List Sq} (T : Tri L) : ∀ s ∈ L, Lin s.l ∧ s.w ≠ 0 ∧ s.l s.p ≠ 0 := by
  induction T with
  | nil => intro s h; cases h
  | cons l w n z T ih =>
    intro t ht
    rcases List.mem_cons.mp ht with e | ht
    · subst e; exact ⟨l, w, n⟩
    · exact ih t ht
theorem dot_top {e c : Nat → Int} {m : Nat} : ∀ {r : Nat}, m < r → (∀ i, i < m → e i = 0) → (∀ i, m < i → i < r → c i = 0) → dot r e c = e m * c m
  | 0, h, _, _ => by omega
  | r + 1, h, h1, h2 => by
    show dot r e c + e r * c r = _
    by_cases q : m = r
    · subst q
      have : dot m e c = 0 := sm_zero fun i hi => by rw [h1 i hi, Int.zero_mul]
      rw [this, Int.zero_add]
    · rw [h2 r (by omega) (by omega), dot_top (r := r) (by omega) h1 fun i a b => h2 i a (by omega)]
      omega
theorem last_ne {c : Nat → Int} : ∀ {r : Nat}, (∃ i, i < r ∧ c i ≠ 0) → ∃ m, m < r ∧ c m ≠ 0 ∧ ∀ i, m < i → i < r → c i = 0
  | 0, ⟨i, h, _⟩ => by omega
  | r + 1, ⟨i, h, n⟩ => by
    by_cases q : c r = 0
    · have : i ≠ r := fun e => n (by rw [e]; exact q)
      obtain ⟨m, a, b, z⟩ := last_ne (r := r) ⟨i, by omega, n⟩
      refine ⟨m, by omega, b, fun j h1 h2 => ?_⟩
      by_cases e : j = r
      · rw [e]; exact q
      · exact z j h1 (by omega)
    · exact ⟨r, by omega, q, fun j h1 h2 => by omega⟩
theorem pos_neg {L : List Sq} (h : ∀ s ∈ L, s.w ≠ 0) : L.length = pos L + neg L := by
  unfold pos neg
  induction L with
  | nil => rfl
  | cons s r ih =>
    have := ih fun t ht => h t (List.mem_cons_of_mem _ ht)
    have hs := h s List.mem_cons_self
    rw [List.length_cons, this]
    by_cases q : 0 < s.w
    · rw [List.filter_cons_of_pos (by simpa using q), List.filter_cons_of_neg (by simp; omega), List.length_cons]
      omega
    · rw [List.filter_cons_of_neg (by simpa using q), List.filter_cons_of_pos (by simp; omega), List.length_cons]
      omega
theorem inert {Q : Ve → Int} {Su : Ve → Prop} {L N : List Sq} {a b : Int} (T : Tri L) (hN : ∀ s ∈ N, Lin s.l) (ha : 0 < a) (hb : 0 < b) (hS : ∀ c : Nat → Int, Su (comb L.length (fun i => (L.getD i ⟨0, fun _ => 0, vz⟩).p) c)) (hL : ∀ v, Su v → a * Q v = sqs v L) (hN2 : ∀ v, Su v → b * Q v = sqs v N) : pos L ≤ pos N := by
  refine Decidable.byContradiction fun hlt => ?_
  have hlt : pos N < pos L := by omega
  have own := tri_own T
  have hlen := pos_neg fun s hs => (own s hs).2.1
  obtain ⟨pf, hpf⟩ : ∃ pf : Nat → Ve, pf = fun i => (L.getD i ⟨0, fun _ => 0, vz⟩).p := ⟨_, rfl⟩
  obtain ⟨c, hc, z⟩ := homog (((L.filter fun s => decide (s.w < 0)) ++ N.filter fun s => decide (0 < s.w)).map fun s i => s.l (pf i)) L.length (by
    rw [List.length_map, List.length_append]
    show neg L + pos N < _
    omega)
  rw [← hpf] at hS
  have hv := hL _ (hS c)
  obtain ⟨v, ev⟩ : ∃ v, v = comb L.length pf c := ⟨_, rfl⟩
  have zl : ∀ s : Sq, Lin s.l → s ∈ ((L.filter fun s => decide (s.w < 0)) ++ N.filter fun s => decide (0 < s.w)) → s.l v = 0 := fun s hs hm => by
    rw [ev, hs.comb]
    exact z _ (List.mem_map.mpr ⟨s, hm, rfl⟩)
  have n1 : ∀ s ∈ L, s.w < 0 → s.l v = 0 := fun s hs hw => zl s (own s hs).1 (List.mem_append.mpr (.inl (List.mem_filter.mpr ⟨hs, by simpa using hw⟩)))
  have n2 : ∀ s ∈ N, 0 < s.w → s.l v = 0 := fun s hs hw => zl s (hN s hs) (List.mem_append.mpr (.inr (List.mem_filter.mpr ⟨hs, by simpa using hw⟩)))
  have q1 := sqs_nn n1
  have q2 := sqs_np n2
  rw [← ev] at hv
  have hQ := hN2 v (by rw [ev]; exact hS c)
  have Q0 : Q v ≤ 0 := by
    refine Decidable.byContradiction fun h => ?_
    have : 0 < b * Q v := Int.mul_pos hb (by omega)
    omega
  have Q1 : 0 ≤ Q v := by
    refine Decidable.byContradiction fun h => ?_
    have : a * Q v < 0 := Int.mul_neg_of_pos_of_neg ha (by omega)
    omega
  have Qz : Q v = 0 := by omega
  rw [Qz, Int.mul_zero] at hv
  have all := q1.2 hv.symm
  obtain ⟨m, hm, cm, hi⟩ := last_ne hc
  obtain ⟨s, hs⟩ : ∃ s, L[m]? = some s := ⟨L[m], List.getElem?_eq_getElem hm⟩
  have hmem := List.mem_of_getElem? hs
  have e := all s hmem (own s hmem).2.1
  rw [ev, (own s hmem).1.comb, dot_top hm (fun i hi' => ?_) hi] at e
  · rcases Int.mul_eq_zero.mp e with e | e
    · refine (own s hmem).2.2 ?_
      rw [hpf] at e
      simp only [List.getD_eq_getElem?_getD, hs] at e
      exact e
    · exact cm e
  · obtain ⟨t, ht⟩ : ∃ t, L[i]? = some t := ⟨L[i], List.getElem?_eq_getElem (by omega)⟩
    rw [hpf]
    simp only [List.getD_eq_getElem?_getD, ht]
    exact tri_at T ht hs hi'
end Dt

namespace Dt
def Supp (n : Nat) (v : Ve) : Prop := ∀ i, n ≤ i → v i = 0
theorem supp_z (n : Nat) : Supp n vz := fun _ _ => rfl
theorem Supp.add {n : Nat} {u v : Ve} (h : Supp n u) (g : Supp n v) : Supp n (vadd u v) := fun i hi => by unfold vadd; rw [h i hi, g i hi]; rfl
theorem Supp.mul {n : Nat} {u : Ve} (x : Int) (h : Supp n u) : Supp n (vsmul x u) := fun i hi => by unfold vsmul; rw [h i hi, Int.mul_zero]
theorem supp_comb {n : Nat} {p : Nat → Ve} {c : Nat → Int} (h : ∀ i, Supp n (p i)) : ∀ r, Supp n (comb r p c)
  | 0 => supp_z n
  | r + 1 => (supp_comb h r).add ((h r).mul _)
structure DG (n : Nat) (Q : Ve → Int) (L : List Sq) : Prop where
  tri : Tri L
  su : ∀ s ∈ L, Supp n s.p
  eq : ∃ a : Int, 0 < a ∧ ∀ v, Supp n v → a * Q v = sqs v L
variable {n : Nat} {Q : Ve → Int} {L N : List Sq}
theorem DG.cs (D : DG n Q L) (c : Nat → Int) : Supp n (comb L.length (fun i => (L.getD i ⟨0, fun _ => 0, vz⟩).p) c) := supp_comb (fun i => by
  rw [List.getD_eq_getElem?_getD]
  cases h : L[i]? with
  | none => exact supp_z n
  | some s => exact D.su s (List.mem_of_getElem? h)) _
theorem DG.le (D : DG n Q L) (E : DG n Q N) : pos L ≤ pos N := by
  obtain ⟨a, ha, ea⟩ := D.eq
  obtain ⟨b, hb, eb⟩ := E.eq
  exact inert D.tri (fun s hs => (tri_own E.tri s hs).1) ha hb D.cs ea eb
theorem tri_flip (T : Tri L) : Tri (flipS L) := by
  induction T with
  | nil => exact .nil
  | @cons s r l w n z T ih =>
    show Tri (⟨-s.w, s.l, s.p⟩ :: flipS r)
    refine .cons (s := ⟨-s.w, s.l, s.p⟩) l (by show -s.w ≠ 0; omega) n (fun t ht => ?_) ih
    obtain ⟨t', ht', e⟩ := List.mem_map.mp ht
    subst e
    exact z t' ht'
theorem DG.flip (D : DG n Q L) : DG n (fun v => -Q v) (flipS L) := by
  obtain ⟨a, ha, ea⟩ := D.eq
  refine ⟨tri_flip D.tri, fun s hs => ?_, a, ha, fun v hv => ?_⟩
  · obtain ⟨t, ht, rfl⟩ := List.mem_map.mp hs
    exact D.su t ht
  · rw [sqs_flip, ← ea v hv]
    grind
theorem pos_flip : ∀ L : List Sq, pos (flipS L) = neg L := fun L => by
  unfold pos neg flipS
  induction L with
  | nil => rfl
  | cons s r ih =>
    rw [List.map_cons]
    by_cases q : s.w < 0
    · rw [List.filter_cons_of_pos (by simp; omega), List.filter_cons_of_pos (by simpa using q), List.length_cons, List.length_cons, ih]
    · rw [List.filter_cons_of_neg (by simp; omega), List.filter_cons_of_neg (by simpa using q), ih]
theorem DG.one (D : DG n Q L) (E : DG n Q N) : pos L = pos N ∧ neg L = neg N := by
  refine ⟨Nat.le_antisymm (D.le E) (E.le D), ?_⟩
  rw [← pos_flip, ← pos_flip]
  exact Nat.le_antisymm (D.flip.le E.flip) (E.flip.le D.flip)
inductive Spn (S : Ve → Prop) : Ve → Prop
  | z : Spn S vz
  | of {u : Ve} : S u → Spn S u
  | add {u v : Ve} : Spn S u → Spn S v → Spn S (vadd u v)
  | mul {u : Ve} (x : Int) : Spn S u → Spn S (vsmul x u)
theorem Spn.sub {S S' : Ve → Prop} (h : ∀ u, S u → Spn S' u) {v : Ve} (s : Spn S v) : Spn S' v := by
  induction s with
  | z => exact .z
  | of a => exact h _ a
  | add _ _ a b => exact .add a b
  | mul x _ a => exact .mul x a
def grw (bk : Ve → Ve → Int) (W : List Ve) : List (List Int) := W.map fun u => W.map fun v => bk u v
structure SI (n : Nat) (b : Ve → Ve → Int) (W : List Ve) (bk : Ve → Ve → Int) (before : Int) (L : List Sq) : Prop where
  l1 : ∀ v, Lin fun u => bk u v
  sy : ∀ u v, bk u v = bk v u
  rel : ∃ p : Nat → Ve, Rel b bk before L.length p p ∧ ∀ i, i < L.length → ∃ s ∈ L, p i = s.p
  kill : ∀ s ∈ L, ∀ v, bk s.p v = 0
  tri : Tri L
  eq : ∃ a wr : Int, 0 < a ∧ 0 < wr * before ∧ ∀ v, a * b v v = sqs v L + wr * bk v v
  cnt : L.length + W.length = n
  su : (∀ s ∈ L, Supp n s.p) ∧ ∀ u ∈ W, Supp n u
  sp : ∀ v, Supp n v → Spn (fun u => u ∈ W ∨ ∃ s ∈ L, u = s.p) v
def scl (x : Int) (L : List Sq) : List Sq := L.map fun s => ⟨x * s.w, s.l, s.p⟩
theorem sqs_scl {v : Ve} (x : Int) : ∀ L : List Sq, sqs v (scl x L) = x * sqs v L
  | [] => by simp [scl, sqs]
  | s :: r => by
    show x * s.w * (s.l v * s.l v) + sqs v (scl x r) = x * (s.w * (s.l v * s.l v) + sqs v r)
    rw [sqs_scl x r]
    grind
theorem sqs_app {v : Ve} : ∀ L N : List Sq, sqs v (L ++ N) = sqs v L + sqs v N
  | [], N => by simp [sqs]
  | s :: r, N => by
    show s.w * (s.l v * s.l v) + sqs v (r ++ N) = (s.w * (s.l v * s.l v) + sqs v r) + sqs v N
    rw [sqs_app r N]
    omega
theorem tri_scl {x : Int} (hx : x ≠ 0) (T : Tri L) : Tri (scl x L) := by
  induction T with
  | nil => exact .nil
  | @cons s r l w n z T ih =>
    show Tri (⟨x * s.w, s.l, s.p⟩ :: scl x r)
    refine .cons (s := ⟨x * s.w, s.l, s.p⟩) l (Int.mul_ne_zero hx w) n (fun t ht => ?_) ih
    obtain ⟨t', ht', e⟩ := List.mem_map.mp ht
    subst e
    exact z t' ht'
theorem tri_snoc {t : Sq} (h : Lin t.l) (w : t.w ≠ 0) (o : t.l t.p ≠ 0) (T : Tri L) : (∀ s ∈ L, t.l s.p = 0) → Tri (L ++ [t]) := by
  induction T with
  | nil => exact fun _ => .cons h w o (fun _ z => by cases z) .nil
  | @cons s r l w2 n z T ih => exact fun k => .cons l w2 n (fun q hq => by
      rcases List.mem_append.mp hq with hq | hq
      · exact z q hq
      · rw [List.mem_singleton.mp hq]
        exact k s List.mem_cons_self) (ih fun q hq => k q (List.mem_cons_of_mem _ hq))
theorem pos_scl {x : Int} (hx : 0 < x) (L : List Sq) : pos (scl x L) = pos L ∧ neg (scl x L) = neg L := by
  have p : ∀ w : Int, 0 < x * w ↔ 0 < w := fun w => ⟨fun h => Decidable.byContradiction fun q => by
    have := Int.mul_nonpos_of_nonneg_of_nonpos (a := x) (b := w) (by omega) (by omega)
    omega, fun h => Int.mul_pos hx h⟩
  have m : ∀ w : Int, x * w < 0 ↔ w < 0 := fun w => ⟨fun h => Decidable.byContradiction fun q => by
    have := Int.mul_nonneg (a := x) (b := w) (by omega) (by omega)
    omega, fun h => Int.mul_neg_of_pos_of_neg hx h⟩
  unfold pos neg scl
  rw [List.filter_map, List.filter_map, List.length_map, List.length_map]
  constructor
  · congr 1
    refine List.filter_congr fun s _ => ?_
    simp only [Function.comp, p]
  · congr 1
    refine List.filter_congr fun s _ => ?_
    simp only [Function.comp, m]
theorem pos_app (L N : List Sq) : pos (L ++ N) = pos L + pos N ∧ neg (L ++ N) = neg L + neg N := by
  unfold pos neg
  simp [List.filter_append]
theorem int_cancel {a x y : Int} (ha : a ≠ 0) (h : a * x = a * y) : x = y := Int.eq_of_mul_eq_mul_left ha h
theorem sq_pos {x : Int} (h : x ≠ 0) : 0 < x * x := by
  rcases Int.lt_or_gt_of_ne h with t | t
  · exact Int.mul_pos_of_neg_of_neg t t
  · exact Int.mul_pos t t
variable {b bk : Ve → Ve → Int} {W : List Ve} {before : Int}
theorem SI.step (S : SI n b W bk before L) {at_ : Nat} {p : Ve} (hp : W[at_]? = some p) (ne : bk p p ≠ 0) : ∃ w : Int, SI n b (W.eraseIdx at_) (fun u v => (bk p p * bk u v - bk u p * bk p v) / before) (bk p p) (scl (bk p p * bk p p) L ++ [⟨w, fun u => bk u p, p⟩]) ∧
    pos (scl (bk p p * bk p p) L ++ [⟨w, fun u => bk u p, p⟩]) = pos L + (if 0 < w then 1 else 0) ∧ neg (scl (bk p p * bk p p) L ++ [⟨w, fun u => bk u p, p⟩]) = neg L + (if w < 0 then 1 else 0) ∧ (0 < w ↔ (0 < bk p p ↔ 0 < before)) ∧ w ≠ 0 := by
  obtain ⟨pp, R, hpp⟩ := S.rel
  obtain ⟨a, wr, ha, hw, e⟩ := S.eq
  obtain ⟨D, hD⟩ : ∃ D : Ve → Ve → Int, D = fun u v => (bk p p * bk u v - bk u p * bk p v) / before := ⟨_, rfl⟩
  have hb : ∀ u v, before * D u v = bk p p * bk u v - bk u p * bk p v := fun u v => by
    obtain ⟨z, hz⟩ := R.dvd p u p v
    rw [hD]
    simp only []
    rw [hz, Int.mul_ediv_cancel_left _ R.ne]
  have R2 := R.next (bk' := D) ne hb
  have hlt : at_ < W.length := (List.getElem?_eq_some_iff.mp hp).1
  have hpm : p ∈ W := List.mem_of_getElem? hp
  have wn : wr ≠ 0 := fun z => by rw [z, Int.zero_mul] at hw; exact absurd hw (by decide)
  have kill0 : ∀ s ∈ L, ∀ v, bk v s.p = 0 := fun s hs v => by rw [S.sy]; exact S.kill s hs v
  rw [← hD]
  refine ⟨wr * bk p p, ⟨fun v => ⟨fun u u' => int_cancel R.ne ?_, fun x u => int_cancel R.ne ?_⟩, fun u v => int_cancel R.ne ?_, ⟨snoc L.length pp p, by rw [List.length_append, scl, List.length_map]; exact R2, fun i hi => ?_⟩, ?_, ?_, ?_, ?_, ⟨?_, ?_⟩, ?_⟩, ?_, ?_, ?_, Int.mul_ne_zero wn ne⟩
  · have e1 := (S.l1 v).add u u'
    have e2 := (S.l1 p).add u u'
    rw [Int.mul_add, hb, hb, hb, e1, e2]
    grind
  · have e1 := (S.l1 v).mul x u
    have e2 := (S.l1 p).mul x u
    rw [hb, e1, e2]
    have := hb u v
    grind
  · rw [hb, hb, S.sy u v, S.sy u p, S.sy p v]
    grind
  · unfold snoc
    by_cases q : i < L.length
    · obtain ⟨s, hs, e⟩ := hpp i q
      rw [if_pos q]
      exact ⟨⟨bk p p * bk p p * s.w, s.l, s.p⟩, List.mem_append.mpr (.inl (List.mem_map.mpr ⟨s, hs, rfl⟩)), e⟩
    · rw [if_neg q]
      exact ⟨_, List.mem_append.mpr (.inr List.mem_cons_self), rfl⟩
  · intro s hs v
    refine int_cancel R.ne ?_
    rw [hb, Int.mul_zero]
    rcases List.mem_append.mp hs with hs | hs
    · obtain ⟨t, ht, rfl⟩ := List.mem_map.mp hs
      simp only []
      rw [S.kill t ht, S.kill t ht]
      grind
    · rw [List.mem_singleton.mp hs]
      simp only []
      grind
  · refine tri_snoc (S.l1 p) (Int.mul_ne_zero wn ne) ne (tri_scl (Int.mul_ne_zero ne ne) S.tri) fun s hs => ?_
    obtain ⟨t, ht, rfl⟩ := List.mem_map.mp hs
    exact S.kill t ht p
  · refine ⟨a * (bk p p * bk p p), wr * bk p p * before, Int.mul_pos ha (sq_pos ne), ?_, fun v => ?_⟩
    · have := Int.mul_pos hw (sq_pos ne)
      grind
    · rw [sqs_app, sqs_scl]
      show _ = _ + (wr * bk p p * (bk v p * bk v p) + 0) + _
      have e1 := e v
      have e2 := hb v v
      rw [S.sy p v] at e2
      grind
  · rw [List.length_append, List.length_eraseIdx_of_lt hlt]
    have := S.cnt
    simp only [scl, List.length_map, List.length_singleton]
    omega
  · intro s hs
    rcases List.mem_append.mp hs with hs | hs
    · obtain ⟨t, ht, rfl⟩ := List.mem_map.mp hs
      exact S.su.1 t ht
    · rw [List.mem_singleton.mp hs]
      exact S.su.2 p hpm
  · exact fun u hu => S.su.2 u (List.mem_of_mem_eraseIdx hu)
  · intro v hv
    refine (S.sp v hv).sub fun u hu => ?_
    rcases hu with hu | ⟨s, hs, rfl⟩
    · by_cases q : u = p
      · exact .of (.inr ⟨_, List.mem_append.mpr (.inr List.mem_cons_self), q⟩)
      · refine .of (.inl ?_)
        obtain ⟨j, hj⟩ := List.mem_iff_getElem?.mp hu
        refine List.mem_eraseIdx_iff_getElem?.mpr ⟨j, fun z => q ?_, hj⟩
        rw [z, hp] at hj
        cases hj
        rfl
    · exact .of (.inr ⟨_, List.mem_append.mpr (.inl (List.mem_map.mpr ⟨s, hs, rfl⟩)), rfl⟩)
  · rw [(pos_app _ _).1, (pos_scl (sq_pos ne) L).1]
    congr 1
    unfold pos
    by_cases q : 0 < wr * bk p p
    · rw [List.filter_cons_of_pos (by simpa using q), if_pos q]
      rfl
    · rw [List.filter_cons_of_neg (by simpa using q), if_neg q]
      rfl
  · rw [(pos_app _ _).2, (pos_scl (sq_pos ne) L).2]
    congr 1
    unfold neg
    by_cases q : wr * bk p p < 0
    · rw [List.filter_cons_of_pos (by simpa using q), if_pos q]
      rfl
    · rw [List.filter_cons_of_neg (by simpa using q), if_neg q]
      rfl
  · have sgn : ∀ x y : Int, 0 < x * y → (0 < x ↔ 0 < y) := fun x y h => by
      constructor
      · intro hx
        refine Decidable.byContradiction fun q => ?_
        have := Int.mul_nonpos_of_nonneg_of_nonpos (a := x) (b := y) (by omega) (by omega)
        omega
      · intro hy
        refine Decidable.byContradiction fun q => ?_
        have := Int.mul_nonpos_of_nonpos_of_nonneg (a := x) (b := y) (by omega) (by omega)
        omega
    rw [← sgn wr before hw]
    constructor
    · intro h
      exact (sgn wr _ h).symm
    · intro h
      rcases Int.lt_or_gt_of_ne wn with t | t
      · have : bk p p < 0 := by
          have : ¬ 0 < bk p p := fun z => by have := h.mp z; omega
          omega
        exact Int.mul_pos_of_neg_of_neg t this
      · exact Int.mul_pos t (h.mpr t)
theorem SI.mix (S : SI n b W bk before L) {i j : Nat} {u v : Ve} (hi : W[i]? = some u) (hj : W[j]? = some v) (ne : i ≠ j) : SI n b (W.set i (vadd u v)) bk before L := by
  have hlt : i < W.length := (List.getElem?_eq_some_iff.mp hi).1
  refine ⟨S.l1, S.sy, S.rel, S.kill, S.tri, S.eq, by rw [List.length_set]; exact S.cnt, ⟨S.su.1, fun w hw => ?_⟩, fun w hw => (S.sp w hw).sub fun x hx => ?_⟩
  · rcases List.mem_or_eq_of_mem_set hw with h | h
    · exact S.su.2 w h
    · rw [h]
      exact (S.su.2 u (List.mem_of_getElem? hi)).add (S.su.2 v (List.mem_of_getElem? hj))
  · rcases hx with hx | hx
    · obtain ⟨k, hk⟩ := List.mem_iff_getElem?.mp hx
      have hv : v ∈ W.set i (vadd u v) := List.mem_of_getElem? (i := j) (by rw [List.getElem?_set_ne ne]; exact hj)
      by_cases q : i = k
      · subst q
        rw [hi] at hk
        cases hk
        have e : u = vadd (vadd u v) (vsmul (-1) v) := by
          funext t
          unfold vadd vsmul
          omega
        rw [e]
        refine .add (.of (.inl ?_)) (.mul _ (.of (.inl ?_)))
        · rw [← e]
          exact List.mem_of_getElem? (i := i) (by rw [List.getElem?_set_self hlt])
        · rw [← e]
          exact hv
      · exact .of (.inl (List.mem_of_getElem? (i := k) (by rw [List.getElem?_set_ne q]; exact hk)))
    · exact .of (.inr hx)
theorem SI.fin (S : SI n b W bk before L) (h : ∀ u ∈ W, ∀ v ∈ W, bk u v = 0) : DG n (fun v => b v v) L := by
  obtain ⟨a, wr, ha, hw, e⟩ := S.eq
  have z1 : ∀ u ∈ W, ∀ v, Supp n v → bk v u = 0 := fun u hu v hv => by
    have s := S.sp v hv
    clear hv
    induction s with
    | z => exact (S.l1 u).z
    | of q =>
      rcases q with q | ⟨s, hs, rfl⟩
      · exact h _ q u hu
      · exact S.kill s hs u
    | add _ _ a b =>
      have := (S.l1 u).add
      rw [this, a, b]; rfl
    | mul x _ a =>
      have := (S.l1 u).mul
      rw [this, a, Int.mul_zero]
  have z2 : ∀ v, Supp n v → bk v v = 0 := fun v hv => by
    have key : ∀ w, Spn (fun u => u ∈ W ∨ ∃ s ∈ L, u = s.p) w → bk w v = 0 := fun w s => by
      induction s with
      | z => exact (S.l1 v).z
      | of q =>
        rcases q with q | ⟨s, hs, rfl⟩
        · rw [S.sy]; exact z1 _ q v hv
        · exact S.kill s hs v
      | add _ _ a b =>
        have := (S.l1 v).add
        rw [this, a, b]; rfl
      | mul x _ a =>
        have := (S.l1 v).mul
        rw [this, a, Int.mul_zero]
    exact key v (S.sp v hv)
  refine ⟨S.tri, S.su.1, a, ha, fun v hv => ?_⟩
  rw [e v, z2 v hv, Int.mul_zero, Int.add_zero]
end Dt

namespace Fv
open PySem PySem.Spec PyProof.Rows L2 Fr Fw Fs
section
variable {P : Program} {w : World} {L : Ly} {mg : Str → Option Value} {base : Heap} {f : Addr} {fd : FuncData}
def itD : Da → List Da
  | .lst xs => xs
  | .tup xs => xs
  | _ => []
theorem lt_it {d : Da} (h : ltB d = true) : d = .lst (itD d) ∨ d = .tup (itD d) := by
  cases d with
  | lst xs => exact .inl rfl
  | tup xs => exact .inr rfl
  | _ => cases h
def KnI (d : Da) : Prop := Kn d ∧ (itD d).length ≤ 1000 ∧ ∀ x ∈ itD d, Kn x
def lnB (d : Da) : Bool := ltB d && (itD d).all numB
abbrev s_is_list_of_numbers : Stmt := topS 6
theorem sc_is_list_of_numbers : FnScope ["thing", "part"] ["thing"] (C8.fnScope s_is_list_of_numbers) := C8.fnScope_by (by decide +kernel)
def fLN : Pf := ⟨fun xs k => ∃ d, xs = [d] ∧ KnI d ∧ k (.bl (lnB d)), fun h ⟨d, a, b, q⟩ => ⟨d, a, b, h _ q⟩⟩
theorem ok_is_list_of_numbers (Fd : C8.Def L.K mg "is_list_of_numbers" s_is_list_of_numbers f fd) (b : Binds L.K fd ["thing"] []) (B : Bw mg) (Bx : Bx mg) (c_is_list : CalG P w L.K mg base C8.CX0 1 "is_list" (spF L fIsL)) (c_is_number : CalG P w L.K mg base C8.CX0 1 "is_number" (spF L (fB 1 aNum))) :
    CalG P w L.K mg base C8.CX0 2 "is_list_of_numbers" (spF L fLN) := by
  have sc := sc_is_list_of_numbers
  refine calF (n := 1) Fd b sc ?_ (fun vs h => start_eq (by rw [h]; rfl)) fun cdv A outer s H E hr hgu => ?_
  · rintro ds k ⟨d, rfl, _⟩
    rfl
  refine ⟨_, w_one (w_ret (ps_ret (w_andE (pe_and (w_call c_is_list hr (by decide) hgu rfl (w_cons (w_v (pv 0)) w_nil)) (pe_one (w_tCB snd_all (pe_callB (cr_all rfl) (by rfl) Bx.all (by decide +kernel) (w_cons (w_lc (sndv_N (by decide)) (pe_lc (own := [("part", 1)]) (by rfl) sc.nd (w_ilt (pi_list (pv 0)) (pi_tup (pv 0))) (blkOk_by (by kernel_rfl)) (fun _ _ _ _ _ => (pg_name (i := 1) sc.nd rfl (by first | exact Or.inl rfl | exact Or.inr rfl))) (fun _ _ _ _ _ => w_tnil) (fun _ _ _ _ _ => (w_call c_is_number hr (by decide) hgu rfl (w_cons (w_v (pv 1)) w_nil))))) w_nil)))))))), ?_⟩
  rintro ds kk ⟨d, rfl, ⟨h1, h2, h3⟩, k⟩
  unfold lnB at k
  refine ⟨_, rfl, d, rfl, h1, _, rfl, ?_⟩
  cases hb : ltB d with
  | false =>
    rw [hb] at k
    exact k
  | true =>
    rw [hb, Bool.true_and] at k
    have hd := lt_it hb
    refine ⟨itD d, hd.elim (fun e => .inl (by rw [e]; rfl)) (fun e => .inr (by rw [e]; rfl)), ?_⟩
    have key := fun kq (q : _) => lcP_all (t := tgN 1) (el := pF (pK (pV 1) pN) (fB 1 aNum)) (vs := [1]) (k := kq) (ρ := wipeR (ent [d] 1) [1]) (fun x : Da => x) (fun x => Da.bl (numB x)) (src := itD d) (fun x hx2 => ⟨_, rfl, numB x, num_ans (h3 x hx2), rfl, rfl⟩) (Nat.le_trans h2 (by rw [sizeLine_eq]; decide)) q
    rw [List.map_id'] at key
    refine key _ ?_
    exact ⟨(itD d).map numB, by rw [List.map_map]; rfl, by rw [List.all_map]; exact k⟩
theorem cut_from (xs : List Da) (i : Nat) : Fw.cutD xs (some (i : Int)) none = xs.drop i := by
  unfold Fw.cutD
  rw [HT.sIx_nat, HT.sIx_none]
  by_cases h : i ≤ xs.length
  · rw [Nat.min_eq_left h, List.take_of_length_le (by rw [List.length_drop]; exact Nat.le_refl _)]
  · rw [Nat.min_eq_right (by omega), List.drop_of_length_le (Nat.le_refl _), List.drop_of_length_le (by omega), List.take_nil]
theorem cut_to (xs : List Da) (i : Nat) (h : i ≤ xs.length) : Fw.cutD xs none (some (i : Int)) = xs.take i := by
  unfold Fw.cutD
  rw [HT.sIx_nat, HT.sIx_none, Nat.min_eq_left h, List.drop_zero, Nat.sub_zero]
def Sml (x : Int) : Prop := x.natAbs < 2 ^ 4000
theorem sml_mul {x y : Int} (h : Sml x) (g : Sml y) : CMulW x y := wide_mul h g (by decide) (by decide) (by decide)
theorem sml_div {x : Int} (h : Sml x) : x.natAbs.log2 < 9000 := Nat.lt_of_lt_of_le (PySem.Flt.log2_lt_of (by decide) h) (by decide)
abbrev s_cleared : Stmt := topS 11
theorem sc_cleared : FnScope ["row", "step", "before", "first", "pivot", "one", "other"] ["row", "step", "before"] (C8.fnScope s_cleared) := C8.fnScope_by (by decide +kernel)
def fClr1 : Pf := ⟨fun xs k => ∃ (pv r0 bf : Int) (r h : List Int), xs = [li (r0 :: r), li (pv :: h), .int bf] ∧ r.length ≤ 1000 ∧ bf ≠ 0 ∧ Sml bf ∧ Sml pv ∧ Sml r0 ∧ (∀ x ∈ r, Sml x) ∧ (∀ x ∈ h, Sml x) ∧ (∀ z ∈ r.zip h, bf ∣ pv * z.1 - r0 * z.2) ∧ k (li (Dt.clr pv r0 bf r h)),
  fun hk ⟨pv, r0, bf, r, h, a1, a2, a3, a4, a5, a6, a7, a8, a9, z⟩ => ⟨pv, r0, bf, r, h, a1, a2, a3, a4, a5, a6, a7, a8, a9, hk _ z⟩⟩
theorem ok_cleared (Fd : C8.Def L.K mg "_cleared" s_cleared f fd) (b : Binds L.K fd ["row", "step", "before"] []) (B : Bw mg) : CalG P w L.K mg base C8.CX0 1 "_cleared" (spF L fClr1) := by
  have sc := sc_cleared
  refine calF (n := 4) Fd b sc ?_ (fun vs h => start_eq (by rw [h]; rfl)) fun cdv A outer s H E hr hgu => ?_
  · rintro ds k ⟨pv, r0, bf, r, h, rfl, _⟩
    rfl
  refine ⟨_, w_seq (w_set (ps_set (i := 3) sc.nd rfl (by first | exact Or.inl rfl | exact Or.inr rfl) (w_ix ix_list snd_ix (w_v (pv 0)) (w_int (kd := 0) pe_int) (fun _ _ => rfl))))
  (w_seq (w_set (ps_set (i := 4) sc.nd rfl (by first | exact Or.inl rfl | exact Or.inr rfl) (w_ix ix_list snd_ix (w_v (pv 1)) (w_int (kd := 0) pe_int) (fun _ _ => rfl))))
  (w_one (w_ret (ps_ret (w_lc (sndv_tup (n := 2) (sndv_cons (sndv_N (by decide)) (sndv_cons (sndv_N (by decide)) sndv_nil))) (pe_lc (own := [("one", 5), ("other", 6)]) (by rfl) sc.nd (w_iz (pi_zip (by rfl) B.zip (w_cons (w_slice sl_list snd_sl (w_v (pv 0)) (w_poS (w_int (kd := 0) pe_int)) w_poN) (w_cons (w_slice sl_list snd_sl (w_v (pv 1)) (w_poS (w_int (kd := 0) pe_int)) w_poN) w_nil)))) (blkOk_by (by kernel_rfl)) (fun _ _ _ _ _ => (pg_tup (n := 2) (by rfl) (pgs_cons (pg_name (i := 5) sc.nd rfl (by first | exact Or.inl rfl | exact Or.inr rfl)) (pgs_cons (pg_name (i := 6) sc.nd rfl (by first | exact Or.inl rfl | exact Or.inr rfl)) pgs_nil)))) (fun _ _ _ _ _ => w_tnil) (fun _ _ _ _ _ => (w_op op_fdivB snd_fdivB (w_op op_sub snd_sub (w_op op_mulW snd_mulW (w_v (pv 4)) (w_v (pv 5))) (w_op op_mulW snd_mulW (w_v (pv 3)) (w_v (pv 6)))) (w_v (pv 2)))))))))), ?_⟩
  rintro ds kk ⟨pv, r0, bf, r, h, rfl, hl, b0, sb, sp, s0, sr, sh, hd, k⟩
  have a0 : ∀ (x : Int) (xs : List Int), L2.atI ((x :: xs).map Da.int) (0 : Int) = some (.int x) := fun x xs => Fw.atI_nat (j := 0) rfl
  refine ⟨_, rfl, _, (0 : Int), .int r0, rfl, rfl, a0 _ _, ?_⟩
  refine ⟨_, rfl, _, (0 : Int), .int pv, rfl, rfl, a0 _ _, ?_⟩
  refine ⟨_, rfl, (1 : Int), rfl, _, rfl, _, rfl, (1 : Int), rfl, _, rfl, _, _, rfl, ?_⟩
  have c1 : ∀ (x : Int) (xs : List Int), Fw.cutD ((x :: xs).map Da.int) (some 1) none = xs.map Da.int := fun x xs => cut_from _ 1
  show lcP _ _ _ _ _ (zipD (Fw.cutD ((r0 :: r).map Da.int) (some 1) none) (Fw.cutD ((pv :: h).map Da.int) (some 1) none)) [] _
  rw [c1, c1, zip_ints]
  refine lcP_all (fun z : Int × Int => Da.tup [.int z.1, .int z.2]) (fun z => Da.int ((pv * z.1 - r0 * z.2) / bf)) (fun z hz => ?_) ?_ ?_
  · have hm := List.of_mem_zip hz
    refine ⟨_, rfl, rfl, _, _, rfl, _, _, rfl, rfl, ?_⟩
    refine ⟨_, rfl, _, rfl, _, _, rfl, rfl, sml_mul sp (sr _ hm.1), _, rfl, _, rfl, _, _, rfl, rfl, sml_mul s0 (sh _ hm.2), _, _, rfl, rfl, trivial, _, rfl, _, _, rfl, rfl, ⟨b0, sml_div sb⟩, ?_, rfl⟩
    exact congrArg Da.int (Int.fdiv_eq_ediv_of_dvd (hd z hz))
  · rw [List.length_zip]
    exact Nat.le_trans (Nat.min_le_left _ _) (Nat.le_trans hl (by rw [sizeLine_eq]; decide))
  · have e : Da.lst ((r.zip h).map fun z => Da.int ((pv * z.1 - r0 * z.2) / bf)) = li (Dt.clr pv r0 bf r h) := by
      rw [Dt.clr, li, List.map_zipWith, List.map_zip_eq_zipWith]
      rfl
    rw [e]
    exact k
def rwE (b : Bool) (r : List Int) : Da := if b then ti r else li r
def tbD (b c : Bool) (T : List (List Int)) : Da := if c then Da.tup (T.map (rwE b)) else Da.lst (T.map (rwE b))
abbrev ll (T : List (List Int)) : Da := .lst (T.map li)
def KnT (d : Da) : Prop := Kn d ∧ (itD d).length ≤ 1000 ∧ ∀ x ∈ itD d, KnI x
def sqB (d : Da) : Bool := ltB d && (itD d).all fun r => lnB r && decide ((itD r).length = (itD d).length)
theorem rwE_it (b : Bool) (r : List Int) : itD (rwE b r) = r.map Da.int ∧ ltB (rwE b r) = true ∧ (rwE b r = .lst (r.map Da.int) ∨ rwE b r = .tup (r.map Da.int)) := by
  cases b
  · exact ⟨rfl, rfl, .inl rfl⟩
  · exact ⟨rfl, rfl, .inr rfl⟩
theorem tbD_it (b c : Bool) (T : List (List Int)) : itD (tbD b c T) = T.map (rwE b) ∧ ltB (tbD b c T) = true ∧ (tbD b c T = .lst (T.map (rwE b)) ∨ tbD b c T = .tup (T.map (rwE b))) := by
  cases c
  · exact ⟨rfl, rfl, .inl rfl⟩
  · exact ⟨rfl, rfl, .inr rfl⟩
theorem kn_int (i : Int) : Kn (.int i) := ⟨_, rfl⟩
theorem rwE_lnB (b : Bool) (r : List Int) : lnB (rwE b r) = true := by
  unfold lnB
  rw [(rwE_it b r).2.1, (rwE_it b r).1, Bool.true_and, List.all_map]
  exact List.all_eq_true.mpr fun _ _ => rfl
theorem sqB_tb {b c : Bool} {T : List (List Int)} (h : ∀ r ∈ T, r.length = T.length) : sqB (tbD b c T) = true := by
  unfold sqB
  rw [(tbD_it b c T).2.1, (tbD_it b c T).1, Bool.true_and, List.all_map]
  refine List.all_eq_true.mpr fun r hr => ?_
  show (lnB (rwE b r) && decide ((itD (rwE b r)).length = (T.map (rwE b)).length)) = true
  rw [rwE_lnB, (rwE_it b r).1, List.length_map, List.length_map, h r hr]
  simp
theorem knT_tab {b c : Bool} {T : List (List Int)} (hl : T.length ≤ 1000) (h : ∀ r ∈ T, r.length ≤ 1000) : KnT (tbD b c T) := by
  refine ⟨?_, ?_, ?_⟩
  · cases c <;> exact ⟨_, rfl⟩
  · rw [(tbD_it b c T).1, List.length_map]
    exact hl
  · intro x hx
    rw [(tbD_it b c T).1] at hx
    obtain ⟨r, hr, rfl⟩ := List.mem_map.mp hx
    refine ⟨?_, ?_, ?_⟩
    · cases b <;> exact ⟨_, rfl⟩
    · rw [(rwE_it b r).1, List.length_map]
      exact h r hr
    · intro y hy
      rw [(rwE_it b r).1] at hy
      obtain ⟨i, _, rfl⟩ := List.mem_map.mp hy
      exact kn_int i
abbrev s_is_square : Stmt := topS 12
theorem sc_is_square : FnScope ["table", "row"] ["table"] (C8.fnScope s_is_square) := C8.fnScope_by (by decide +kernel)
def fSqr : Pf := ⟨fun xs k => ∃ d, xs = [d] ∧ KnT d ∧ k (.bl (sqB d)), fun h ⟨d, a, b, q⟩ => ⟨d, a, b, h _ q⟩⟩
theorem ok_is_square (Fd : C8.Def L.K mg "_is_square" s_is_square f fd) (b : Binds L.K fd ["table"] []) (B : Bw mg) (Bx : Bx mg) (c_is_list : CalG P w L.K mg base C8.CX0 1 "is_list" (spF L fIsL)) (c_is_list_of_numbers : CalG P w L.K mg base C8.CX0 2 "is_list_of_numbers" (spF L fLN)) :
    CalG P w L.K mg base C8.CX0 3 "_is_square" (spF L fSqr) := by
  have sc := sc_is_square
  refine calF (n := 1) Fd b sc ?_ (fun vs h => start_eq (by rw [h]; rfl)) fun cdv A outer s H E hr hgu => ?_
  · rintro ds k ⟨d, rfl, _⟩
    rfl
  refine ⟨_, w_seq (w_if (ps_if (w_notT (pt_not (w_val (pt_val (w_call c_is_list hr (by decide) hgu rfl (w_cons (w_v (pv 0)) w_nil))))))
   (w_one (w_ret (ps_ret (w_bl pe_bl))))
   (w_snil pss_nil)))
  (w_one (w_ret (ps_ret (w_tCB snd_all (pe_callB (cr_all rfl) (by rfl) Bx.all (by decide +kernel) (w_cons (w_lc (sndv_N (by decide)) (pe_lc (own := [("row", 1)]) (by rfl) sc.nd (w_ilt (pi_list (pv 0)) (pi_tup (pv 0))) (blkOk_by (by kernel_rfl)) (fun _ _ _ _ _ => (pg_name (i := 1) sc.nd rfl (by first | exact Or.inl rfl | exact Or.inr rfl))) (fun _ _ _ _ _ => w_tnil) (fun _ _ _ _ _ => (w_andE (pe_and (w_call c_is_list_of_numbers hr (by decide) hgu rfl (w_cons (w_v (pv 1)) w_nil)) (pe_one (w_cmp (op_eqD hr.units) snd_eq (w_tCB snd_len (pe_callB call_len_seq (by rfl) B.len (by decide +kernel) (w_cons (w_v (pv 1)) w_nil))) (w_tCB snd_len (pe_callB call_len_seq (by rfl) B.len (by decide +kernel) (w_cons (w_v (pv 0)) w_nil))) (nomark _)))))))) w_nil)))))), ?_⟩
  rintro ds kk ⟨d, rfl, ⟨h1, h2, h3⟩, k⟩
  unfold sqB at k
  refine ⟨_, rfl, d, rfl, h1, _, rfl, ?_⟩
  cases hb : ltB d with
  | false =>
    rw [hb] at k
    exact k
  | true =>
    rw [hb, Bool.true_and] at k
    have hd := lt_it hb
    refine ⟨itD d, hd.elim (fun e => .inl (by rw [e]; rfl)) (fun e => .inr (by rw [e]; rfl)), ?_⟩
    have key := fun kq (q : _) => lcP_all (t := tgN 1) (el := pAndE (pF (pK (pV 1) pN) fLN) (p2 (p1 (pK (pV 1) pN) Fw.rLen) (p1 (pK (pV 0) pN) Fw.rLen) rEqP)) (vs := [1]) (k := kq) (ρ := wipeR (ent [d] 1) [1]) (fun x : Da => x) (fun x => Da.bl (lnB x && decide ((itD x).length = (itD d).length))) (src := itD d) (fun x hx2 => by
      refine ⟨_, rfl, x, rfl, h3 x hx2, _, rfl, ?_⟩
      cases hx : lnB x with
      | false => exact ⟨rfl, rfl⟩
      | true =>
        have hx1 : ltB x = true := by
          unfold lnB at hx
          rw [Bool.and_eq_true] at hx
          exact hx.1
        have hxd := lt_it hx1
        refine ⟨_, rfl, itD x, hxd.imp (congrArg fun z => [z]) (congrArg fun z => [z]), _, rfl, itD d, hd.imp (congrArg fun z => [z]) (congrArg fun z => [z]), .int ((itD x).length : Nat), .int ((itD d).length : Nat), rfl, rfl, rfl, rfl, ?_, rfl⟩
        rw [eqv_nat]
        rfl) (Nat.le_trans h2 (by rw [sizeLine_eq]; decide)) q
    rw [List.map_id'] at key
    refine key _ ?_
    exact ⟨(itD d).map fun r => lnB r && decide ((itD r).length = (itD d).length), by rw [List.map_map]; rfl, by rw [List.all_map]; exact k⟩
end
end Fv

namespace Fw
open PySem PySem.Spec PyProof.Rows L2 Fr
theorem lcP3_src {α β : Type} {t : Tg} {src2 : Pl} {t2 : Tg} {c2 : Pt} {el : Px} {vs vs1 : List Nat} {k : List Da → En → Prop} {ρ : En} (emb : α → Da) (inn : α → List β) (emb2 : β → Da) (p : α → β → Bool) (out : α → β → Da) (m : Nat) : ∀ {src : List α} {acc : List Da},
    (∀ a ∈ src, (inn a).length ≤ m ∧ t.f (emb a) ρ fun ρ2 => src2.f ρ2 fun ds ρ3 => ds = (inn a).map emb2 ∧ ∃ ρa, wipeR ρ3 vs1 = ρa ∧ wipeR ρa vs = ρ ∧ ∀ b ∈ inn a, t2.f (emb2 b) ρa fun ρ4 => c2.f ρ4 fun bb ρ5 => bb = p a b ∧ (p a b = true → el.f ρ5 fun y ρ6 => y = out a b ∧ wipeR ρ6 vs1 = ρa) ∧ (p a b = false → wipeR ρ5 vs1 = ρa)) →
    acc.length + src.length * m ≤ sizeLine → k (acc ++ src.flatMap fun a => ((inn a).filter (p a)).map (out a)) ρ → lcP3 t src2 t2 c2 el vs vs1 k (src.map emb) acc ρ
  | [], acc, _, _, h => by
    show k acc ρ
    simpa using h
  | x :: r, acc, hx, hl, h => by
    obtain ⟨hm, hx1⟩ := hx x List.mem_cons_self
    refine t.mono (fun ρ2 h2 => src2.mono ?_ h2) hx1
    rintro ds ρ3 ⟨rfl, ρa, e1, e2, h3⟩
    rw [e1]
    have hl' : acc.length + (r.length + 1) * m ≤ sizeLine := hl
    rw [Nat.add_mul, Nat.one_mul] at hl'
    refine lcP_src emb2 (p x) (out x) h3 (by omega) ?_
    show lcP3 _ _ _ _ _ _ _ _ (r.map emb) _ (wipeR ρa vs)
    rw [e2]
    refine lcP3_src emb inn emb2 p out m (fun u hu => hx u (List.mem_cons_of_mem _ hu)) ?_ ?_
    · rw [List.length_append, List.length_map]
      have := List.length_filter_le (p x) (inn x)
      omega
    · rw [List.flatMap_cons] at h
      rw [List.append_assoc]
      exact h
end Fw
namespace Fv
open PySem PySem.Spec PyProof.Rows L2 Fr Fw Fs
abbrev pli (ns : List Int) : PyData := .list (ns.map PyData.int)
theorem eqv_li (a b : List Int) : PyData.eqv (pli a) (pli b) = decide (a = b) := by
  simp only [pli, PyData.eqv, eqvAll_ints]
theorem eqvAll_lis : ∀ a b : List (List Int), PyData.eqvAll (a.map pli) (b.map pli) = decide (a = b)
  | [], [] => by simp [PyData.eqvAll]
  | [], _ :: _ => by simp [PyData.eqvAll]
  | _ :: _, [] => by simp [PyData.eqvAll]
  | x :: a, y :: b => by
    have h := eqvAll_lis a b
    simp only [List.map_cons, PyData.eqvAll, eqv_li, h]
    by_cases h1 : x = y <;> by_cases h2 : a = b <;> simp [h1, h2]
theorem eqv_ll2 (a b : List (List Int)) : PyData.eqv (.list (a.map pli)) (.list (b.map pli)) = decide (a = b) := by
  simp only [PyData.eqv, eqvAll_lis]
theorem pys_lis : ∀ ts : List (List Int), pys (ts.map li) = some (ts.map pli)
  | [] => rfl
  | n :: ns => by
    simp only [List.map_cons, pys, py_li, pys_lis ns, Option.bind_some, Option.map_some]
theorem py_lls (ts : List (List Int)) : py (ll ts) = some (.list (ts.map pli)) := by
  simp only [ll, py, pys_lis, Option.map_some]
theorem depth_lis (ts : List (List Int)) : PyData.depthAll (ts.map pli) ≤ 2 := by
  induction ts with
  | nil => simp [PyData.depthAll]
  | cons n r ih =>
    have := depth_ints n
    simp only [List.map, PyData.depthAll, PyData.depth]
    omega
theorem lay_lis (ts : List (List Int)) : PyData.canLayAll0 (ts.map pli) = true := by
  induction ts with
  | nil => simp [PyData.canLayAll0]
  | cons n r ih => simp only [List.map, PyData.canLayAll0, PyData.canLay0, ih, lay_ints, Bool.and_self]
theorem shaped_lls (ts : List (List Int)) : SeqAt.shaped (.list (ts.map pli)) = true := by
  unfold SeqAt.shaped
  rw [Bool.and_eq_true]
  refine ⟨by simp only [PyData.canLay0, lay_lis], decide_eq_true ?_⟩
  have := depth_lis ts
  simp only [PyData.depth]
  omega
section
variable {P : Program} {w : World} {L : Ly} {mg : Str → Option Value} {base : Heap} {f : Addr} {fd : FuncData}
def tpo (T : List (List Int)) : List (List Int) := (List.range T.length).map fun j => T.map fun r => r.getD j 0
abbrev s_is_mirrored : Stmt := topS 13
theorem sc_is_mirrored : FnScope ["table", "row"] ["table"] (C8.fnScope s_is_mirrored) := C8.fnScope_by (by decide +kernel)
def fMir : Pf := ⟨fun xs k => ∃ (b c : Bool) (T : List (List Int)), xs = [tbD b c T] ∧ T.length ≤ 7 ∧ (∀ r ∈ T, r.length = T.length) ∧ k (.bl (decide (T = tpo T))), fun h ⟨b, c, T, a1, a2, a3, q⟩ => ⟨b, c, T, a1, a2, a3, h _ q⟩⟩
theorem ok_is_mirrored (Fd : C8.Def L.K mg "_is_mirrored" s_is_mirrored f fd) (b : Binds L.K fd ["table"] []) (B : Bw mg) : CalG P w L.K mg base C8.CX0 1 "_is_mirrored" (spF L fMir) := by
  have sc := sc_is_mirrored
  refine calF (n := 1) Fd b sc ?_ (fun vs h => start_eq (by rw [h]; rfl)) fun cdv A outer s H E hr hgu => ?_
  · rintro ds k ⟨b, c, T, rfl, _⟩
    rfl
  refine ⟨_, w_one (w_ret (ps_ret (w_cmp (op_eqD hr.units) snd_eq (w_lc (sndv_N (by decide)) (pe_lc (own := [("row", 1)]) (by rfl) sc.nd (w_ilt (pi_list (pv 0)) (pi_tup (pv 0))) (blkOk_by (by kernel_rfl)) (fun _ _ _ _ _ => (pg_name (i := 1) sc.nd rfl (by first | exact Or.inl rfl | exact Or.inr rfl))) (fun _ _ _ _ _ => w_tnil) (fun _ _ _ _ _ => (w_tCB snd_listOf (pe_callTy call_list_of (by rfl) B.list (by decide +kernel) (w_cons (w_v (pv 1)) w_nil)))))) (w_lc (sndv_N (by decide)) (pe_lc (own := [("row", 1)]) (by rfl) sc.nd (Zn.w_izS (Zn.pi_zipS (by rfl) B.zip (w_v (pv 0)))) (blkOk_by (by kernel_rfl)) (fun _ _ _ _ _ => (pg_name (i := 1) sc.nd rfl (by first | exact Or.inl rfl | exact Or.inr rfl))) (fun _ _ _ _ _ => w_tnil) (fun _ _ _ _ _ => (w_tCB snd_listOf (pe_callTy call_list_of (by rfl) B.list (by decide +kernel) (w_cons (w_v (pv 1)) w_nil)))))) (nomark _)))), ?_⟩
  rintro ds kk ⟨bb, c, T, rfl, hl, hn, k⟩
  have hd := (tbD_it bb c T).2.2
  refine ⟨T.map (rwE bb), hd.elim (fun e => .inl (by rw [← e]; rfl)) (fun e => .inr (by rw [← e]; rfl)), ?_⟩
  refine lcP_all (rwE bb) li (fun r hr => ⟨_, rfl, r.map Da.int, (rwE_it bb r).2.2.imp (congrArg fun z => [z]) (congrArg fun z => [z]), rfl, rfl⟩) (by rw [sizeLine_eq]; omega) ?_
  have er : Zn.rowsD bb (T.map fun r => r.map Da.int) = T.map (rwE bb) := by
    unfold Zn.rowsD
    rw [List.map_map]
    cases bb <;> rfl
  refine ⟨_, rfl, bb, T.length, T.map fun r => r.map Da.int, hd.imp (fun e => by rw [er]; exact e) (fun e => by rw [er]; exact e), by rw [List.length_map]; exact hl, fun e => by
    have := List.map_eq_nil_iff.mp e
    rw [this]; rfl, fun r hr => by
    obtain ⟨r', h1, rfl⟩ := List.mem_map.mp hr
    rw [List.length_map]
    exact hn r' h1, ?_⟩
  have ec : Zn.colD T.length (T.map fun r => r.map Da.int) = (tpo T).map ti := by
    unfold Zn.colD tpo
    rw [List.map_map]
    refine List.map_congr_left fun j hj => ?_
    have hj := List.mem_range.mp hj
    show Da.tup _ = Da.tup _
    rw [List.map_map, List.map_map]
    congr 1
    refine List.map_congr_left fun r hr => ?_
    show (r.map Da.int).getD j .non = .int (r.getD j 0)
    have hlt : j < r.length := by rw [hn r hr]; exact hj
    rw [List.getD_eq_getElem?_getD, List.getD_eq_getElem?_getD, List.getElem?_map, List.getElem?_eq_getElem hlt]
    rfl
  rw [ec]
  refine lcP_all ti li (fun r hr => ⟨_, rfl, r.map Da.int, .inr rfl, rfl, rfl⟩) (by unfold tpo; rw [List.length_map, List.length_range, sizeLine_eq]; omega) ?_
  refine ⟨_, _, py_lls T, py_lls (tpo T), shaped_lls _, shaped_lls _, ?_⟩
  rw [eqv_ll2]
  exact k
def atT (T : List (List Int)) (i j : Nat) : Int := (T.getD i []).getD j 0
theorem enum_lis (T : List (List Int)) : enumD (T.map li) = (List.range T.length).map fun i : Nat => Da.tup [.int (i : Nat), li (T.getD i [])] := by
  unfold enumD
  rw [List.length_map]
  refine List.map_congr_left fun i hi => ?_
  have hi := List.mem_range.mp hi
  rw [List.getD_eq_getElem?_getD, List.getD_eq_getElem?_getD, List.getElem?_map, List.getElem?_eq_getElem hi]
  rfl
theorem int_at {r : List Int} {j : Nat} (h : j < r.length) : L2.atI (r.map Da.int) (j : Int) = some (.int (r.getD j 0)) := Fw.atI_nat (by rw [List.getElem?_map, List.getElem?_eq_getElem h, List.getD_eq_getElem?_getD, List.getElem?_eq_getElem h]; rfl)
theorem li_at {T : List (List Int)} {j : Nat} (h : j < T.length) : L2.atI (T.map li) (j : Int) = some (li (T.getD j [])) := Fw.atI_nat (by rw [List.getElem?_map, List.getElem?_eq_getElem h, List.getD_eq_getElem?_getD, List.getElem?_eq_getElem h]; rfl)
def Sq (T : List (List Int)) : Prop := ∀ r ∈ T, r.length = T.length
theorem Sq.len {T : List (List Int)} (h : Sq T) {i : Nat} (hi : i < T.length) : (T.getD i []).length = T.length := by
  rw [List.getD_eq_getElem?_getD, List.getElem?_eq_getElem hi]
  exact h _ (List.getElem_mem hi)
abbrev s_pivot_at : Stmt := topS 14
theorem sc_pivot_at : FnScope ["left", "at", "row"] ["left"] (C8.fnScope s_pivot_at) := C8.fnScope_by (by decide +kernel)
def fPiv : Pf := ⟨fun xs k => ∃ T : List (List Int), xs = [ll T] ∧ T.length ≤ 8 ∧ Sq T ∧ (∀ i : Nat, i < T.length → atT T i i ≠ 0 → k (.int (i : Nat))) ∧ ((∀ i, i < T.length → atT T i i = 0) → k .non), fun h ⟨T, a1, a2, a3, q1, q2⟩ => ⟨T, a1, a2, a3, fun i x y => h _ (q1 i x y), fun x => h _ (q2 x)⟩⟩
theorem ok_pivot_at (Fd : C8.Def L.K mg "_pivot_at" s_pivot_at f fd) (b : Binds L.K fd ["left"] []) (B : Bw mg) : CalG P w L.K mg base C8.CX0 1 "_pivot_at" (spF L fPiv) := by
  have sc := sc_pivot_at
  refine calF (n := 2) Fd b sc ?_ (fun vs h => start_eq (by rw [h]; rfl)) fun cdv A outer s H E hr hgu => ?_
  · rintro ds k ⟨T, rfl, _⟩
    rfl
  refine ⟨_, w_seq (w_forI (snd_tgTup (n := 2) (snd_tgCons snd_tgN (snd_tgCons snd_tgN snd_tgNil))) (ps_for PassesOwn.never rfl (w_ie (pi_enum (by rfl) B.enumerate (w_cons (w_v (pv 0)) w_nil))) (pg_tup (n := 2) (by rfl) (pgs_cons (pg_name (i := 1) sc.nd rfl (by first | exact Or.inl rfl | exact Or.inr rfl)) (pgs_cons (pg_name (i := 2) sc.nd rfl (by first | exact Or.inl rfl | exact Or.inr rfl)) pgs_nil)))
   (w_one (w_if (ps_if (w_cmpT (op_neD hr.units) snd_ne (w_ix ix_list snd_ix (w_v (pv 2)) (w_v (pv 1)) (fun _ _ => rfl)) (w_int (kd := 0) pe_int) (nomark _))
     (w_one (w_ret (ps_ret (w_v (pv 1)))))
     (w_snil pss_nil))))))
  (w_one (w_ret (ps_ret (w_non pe_non)))), ?_⟩
  rintro ds kk ⟨T, rfl, hl, hn, k1, k2⟩
  refine ⟨_, rfl, _, rfl, ?_⟩
  rw [enum_lis]
  refine loopF_inv (fun j ρ => ∃ x1 x2 : Option Sl, ρ = [some (.dat (ll T)), x1, x2] ∧ ∀ i, i < j → atT T i i = 0) ⟨none, none, rfl, fun i h => absurd h (Nat.not_lt_zero i)⟩ ?_ ?_
  · rintro j x ρ hj ⟨x1, x2, rfl, hz⟩
    have hlt : j < T.length := by
      have := (List.getElem?_eq_some_iff.mp hj).1
      rw [List.length_map, List.length_range] at this
      exact this
    rw [List.getElem?_map, List.getElem?_range hlt] at hj
    cases hj
    refine ⟨_, rfl, rfl, _, _, rfl, _, _, rfl, rfl, ?_⟩
    have hr2 := hn.len hlt
    refine ⟨_, rfl, _, rfl, _, (j : Int), .int ((T.getD j []).getD j 0), rfl, rfl, int_at (by rw [hr2]; exact hlt), .int ((T.getD j []).getD j 0), .int 0, rfl, rfl, rfl, rfl, _, rfl, bite (fun h => ?_) fun h => ?_⟩
    · refine ⟨_, rfl, k1 j hlt fun e => ?_⟩
      unfold atT at e
      rw [e] at h
      exact absurd h (by decide)
    · refine ⟨_, _, rfl, fun i hi => ?_⟩
      by_cases e : i = j
      · subst e
        have h : (!((T.getD i []).getD i 0 == 0)) = false := h
        simpa [atT] using h
      · exact hz i (by omega)
  · rintro ρ ⟨x1, x2, rfl, hz⟩
    rw [List.length_map, List.length_range] at hz
    exact k2 hz
end
end Fv

namespace Fv
open PySem PySem.Spec PyProof.Rows L2 Fr Fw Fs
section
variable {P : Program} {w : World} {L : Ly} {mg : Str → Option Value} {base : Heap} {f : Addr} {fd : FuncData}
def putN (r : List Int) (i : Nat) (x : Int) : List Int := r.take i ++ x :: r.drop (i + 1)
def putR (T : List (List Int)) (i : Nat) (x : List Int) : List (List Int) := T.take i ++ x :: T.drop (i + 1)
def wpF (T : List (List Int)) (i j : Nat) : List (List Int) := (putR T i (List.zipWith (· + ·) (T.getD i []) (T.getD j []))).map fun r => putN r i (r.getD i 0 + r.getD j 0)
theorem putR_mem {T : List (List Int)} {i : Nat} {x : List Int} {n : Nat} (h : ∀ r ∈ T, r.length = n) (hx : x.length = n) : ∀ r ∈ putR T i x, r.length = n := by
  intro r hr
  unfold putR at hr
  rcases List.mem_append.mp hr with hr | hr
  · exact h r (List.mem_of_mem_take hr)
  · rcases List.mem_cons.mp hr with e | hr
    · rw [e]; exact hx
    · exact h r (List.mem_of_mem_drop hr)
theorem putR_len {T : List (List Int)} {i : Nat} {x : List Int} (h : i < T.length) : (putR T i x).length = T.length := by
  unfold putR
  rw [List.length_append, List.length_take, List.length_cons, List.length_drop]
  omega
def inn (T : List (List Int)) (i : Nat) : List (Nat × Int) := (List.range T.length).map fun j => (j, atT T i j)
def plc (T : List (List Int)) : List (Nat × Nat) := (List.range T.length).flatMap fun a => ((inn T a).filter fun b => decide (b.2 ≠ 0)).map fun b => (a, b.1)
theorem plc_mem {T : List (List Int)} {i j : Nat} : (i, j) ∈ plc T ↔ i < T.length ∧ j < T.length ∧ atT T i j ≠ 0 := by
  unfold plc inn
  constructor
  · intro h
    obtain ⟨a, ha, h⟩ := List.mem_flatMap.mp h
    obtain ⟨b, hb, e⟩ := List.mem_map.mp h
    cases e
    obtain ⟨h1, h2⟩ := List.mem_filter.mp hb
    obtain ⟨c, hc, e⟩ := List.mem_map.mp h1
    subst e
    exact ⟨List.mem_range.mp ha, List.mem_range.mp hc, of_decide_eq_true h2⟩
  · rintro ⟨h1, h2, h3⟩
    exact List.mem_flatMap.mpr ⟨i, List.mem_range.mpr h1, List.mem_map.mpr ⟨(j, atT T i j), List.mem_filter.mpr ⟨List.mem_map.mpr ⟨j, List.mem_range.mpr h2, rfl⟩, decide_eq_true h3⟩, rfl⟩⟩
theorem neq0 (x : Int) : (!(x == 0)) = decide (x ≠ 0) := ne0 x
abbrev s_with_pivot : Stmt := topS 15
theorem sc_with_pivot : FnScope ["left", "places", "at", "row", "to", "number", "added", "one", "other", "rows"] ["left"] (C8.fnScope s_with_pivot) := C8.fnScope_by (by decide +kernel)
def fWp : Pf := ⟨fun xs k => ∃ T : List (List Int), xs = [ll T] ∧ T.length ≤ 8 ∧ Sq T ∧ (∃ i j, i < T.length ∧ j < T.length ∧ atT T i j ≠ 0) ∧ ∀ i j : Nat, i < T.length → j < T.length → atT T i j ≠ 0 → k (ll (wpF T i j)), fun h ⟨T, a1, a2, a3, a4, q1⟩ => ⟨T, a1, a2, a3, a4, fun i j x y z => h _ (q1 i j x y z)⟩⟩
theorem ok_with_pivot (Fd : C8.Def L.K mg "_with_pivot" s_with_pivot f fd) (b : Binds L.K fd ["left"] []) (B : Bw mg) : CalG P w L.K mg base C8.CX0 1 "_with_pivot" (spF L fWp) := by
  have sc := sc_with_pivot
  refine calF (n := 9) Fd b sc ?_ (fun vs h => start_eq (by rw [h]; rfl)) fun cdv A outer s H E hr hgu => ?_
  · rintro ds k ⟨T, rfl, _⟩
    rfl
  refine ⟨_, w_seq (w_setLc3 (sndv_tup (n := 2) (sndv_cons (sndv_N (by decide)) (sndv_cons (sndv_N (by decide)) sndv_nil))) (sndv_tup (n := 2) (sndv_cons (sndv_N (by decide)) (sndv_cons (sndv_N (by decide)) sndv_nil))) (by decide) (ps_setLc2 (i := 1) (own := [("at", 2), ("row", 3), ("to", 4), ("number", 5)]) (vs1 := [4, 5]) (by rfl) sc.nd rfl (by rfl) (sw_true rfl (by rfl) rfl (by decide +kernel)) (w_ie (pi_enum (by rfl) B.enumerate (w_cons (w_v (pv 0)) w_nil))) (blkOk_by (by kernel_rfl)) (by decide) (fun _ _ _ _ _ => (pg_tup (n := 2) (by rfl) (pgs_cons (pg_name (i := 2) sc.nd rfl (by first | exact Or.inl rfl | exact Or.inr rfl)) (pgs_cons (pg_name (i := 3) sc.nd rfl (by first | exact Or.inl rfl | exact Or.inr rfl)) pgs_nil)))) (fun _ _ _ _ _ => w_tnil) (fun _ _ _ _ _ => (w_ie (pi_enum (by rfl) B.enumerate (w_cons (w_v (pv 3)) w_nil)))) (fun _ _ _ _ _ => (pg_tup (n := 2) (by rfl) (pgs_cons (pg_name (i := 4) sc.nd rfl (by first | exact Or.inl rfl | exact Or.inr rfl)) (pgs_cons (pg_name (i := 5) sc.nd rfl (by first | exact Or.inl rfl | exact Or.inr rfl)) pgs_nil)))) (fun _ _ _ _ _ => w_tone (w_cmpT (op_neD hr.units) snd_ne (w_v (pv 5)) (w_int (kd := 0) pe_int) (nomark _))) (fun _ _ _ _ _ => (w_tup (w_cons (w_v (pv 2)) (w_cons (w_v (pv 4)) w_nil))))))
  (w_seq (w_asg (snd_tgTup (n := 2) (snd_tgCons snd_tgN (snd_tgCons snd_tgN snd_tgNil))) (ps_asg (w_ix ix_list snd_ix (w_v (pv 1)) (w_int (kd := 0) pe_int) (fun _ _ => rfl)) (pg_tup (n := 2) (by rfl) (pgs_cons (pg_name (i := 2) sc.nd rfl (by first | exact Or.inl rfl | exact Or.inr rfl)) (pgs_cons (pg_name (i := 4) sc.nd rfl (by first | exact Or.inl rfl | exact Or.inr rfl)) pgs_nil)))))
  (w_seq (w_setLc (sndv_tup (n := 2) (sndv_cons (sndv_N (by decide)) (sndv_cons (sndv_N (by decide)) sndv_nil))) (ps_setLc (i := 6) (own := [("one", 7), ("other", 8)]) (by rfl) sc.nd rfl (by rfl) (sw_true rfl (by rfl) rfl (by decide +kernel)) (w_iz (pi_zip (by rfl) B.zip (w_cons (w_ix ix_list snd_ix (w_v (pv 0)) (w_v (pv 2)) (fun _ _ => rfl)) (w_cons (w_ix ix_list snd_ix (w_v (pv 0)) (w_v (pv 4)) (fun _ _ => rfl)) w_nil)))) (blkOk_by (by kernel_rfl)) (fun _ _ _ _ _ => (pg_tup (n := 2) (by rfl) (pgs_cons (pg_name (i := 7) sc.nd rfl (by first | exact Or.inl rfl | exact Or.inr rfl)) (pgs_cons (pg_name (i := 8) sc.nd rfl (by first | exact Or.inl rfl | exact Or.inr rfl)) pgs_nil)))) (fun _ _ _ _ _ => w_tnil) (fun _ _ _ _ _ => (w_op op_add snd_add (w_v (pv 7)) (w_v (pv 8))))))
  (w_seq (w_set (ps_set (i := 9) sc.nd rfl (by first | exact Or.inl rfl | exact Or.inr rfl) (w_lst (Mn.w_starL (w_slice sl_list snd_sl (w_v (pv 0)) w_poN (w_poS (w_v (pv 2)))) (w_cons (w_v (pv 6)) (Mn.w_starL (w_slice sl_list snd_sl (w_v (pv 0)) (w_poS (w_op op_add snd_add (w_v (pv 2)) (w_int (kd := 0) pe_int))) w_poN) w_nil))))))
  (w_one (w_ret (ps_ret (w_lc (sndv_N (by decide)) (pe_lc (own := [("row", 3)]) (by rfl) sc.nd (w_il (pi_list (w_v (pv 9)))) (blkOk_by (by kernel_rfl)) (fun _ _ _ _ _ => (pg_name (i := 3) sc.nd rfl (by first | exact Or.inl rfl | exact Or.inr rfl))) (fun _ _ _ _ _ => w_tnil) (fun _ _ _ _ _ => (w_lst (Mn.w_starL (w_slice sl_list snd_sl (w_v (pv 3)) w_poN (w_poS (w_v (pv 2)))) (w_cons (w_op op_add snd_add (w_ix ix_list snd_ix (w_v (pv 3)) (w_v (pv 2)) (fun _ _ => rfl)) (w_ix ix_list snd_ix (w_v (pv 3)) (w_v (pv 4)) (fun _ _ => rfl))) (Mn.w_starL (w_slice sl_list snd_sl (w_v (pv 3)) (w_poS (w_op op_add snd_add (w_v (pv 2)) (w_int (kd := 0) pe_int))) w_poN) w_nil))))))))))))), ?_⟩
  rintro ds kk ⟨T, rfl, hl, hn, ⟨i0, j0, hi0, hj0, h0⟩, k⟩
  refine ⟨_, rfl, _, rfl, ?_⟩
  rw [enum_lis]
  refine lcP3_src (fun i : Nat => Da.tup [.int (i : Nat), li (T.getD i [])]) (inn T) (fun b : Nat × Int => Da.tup [.int (b.1 : Nat), .int b.2]) (fun _ b => decide (b.2 ≠ 0)) (fun i b => Da.tup [.int (i : Nat), .int (b.1 : Nat)]) T.length (fun i hi => ?_) ?_ ?_
  · have hi := List.mem_range.mp hi
    refine ⟨by simp [inn], _, rfl, rfl, _, _, rfl, _, _, rfl, rfl, ?_⟩
    refine ⟨_, rfl, _, rfl, ?_, _, rfl, rfl, ?_⟩
    · rw [enum_ints, hn.len hi]
      unfold inn
      rw [List.map_map]
      rfl
    · rintro ⟨j, x⟩ hb
      refine ⟨_, rfl, rfl, _, _, rfl, _, _, rfl, rfl, ?_⟩
      refine ⟨_, rfl, .int x, .int 0, rfl, rfl, rfl, rfl, _, rfl, ?_⟩
      refine ⟨neq0 x, fun h => ⟨_, rfl, _, rfl, (by show 2 ≤ sizeLine; decide), rfl, rfl⟩, fun _ => rfl⟩
  · rw [List.length_range, sizeLine_eq]
    have : T.length * T.length ≤ 8 * 8 := Nat.mul_le_mul hl hl
    simp only [List.length_nil]
    omega
  have ep : ([] ++ (List.range T.length).flatMap fun a => ((inn T a).filter fun b => decide (b.2 ≠ 0)).map fun b => Da.tup [.int (a : Nat), .int (b.1 : Nat)]) = (plc T).map fun q => Da.tup [.int (q.1 : Nat), .int (q.2 : Nat)] := by
    unfold plc
    rw [List.nil_append, List.map_flatMap]
    congr 1
    funext a
    rw [List.map_map]
    rfl
  rw [ep]
  obtain ⟨⟨at', to⟩, tl, hp⟩ : ∃ q tl, plc T = q :: tl := by
    have := plc_mem.mpr ⟨hi0, hj0, h0⟩
    cases h : plc T with
    | nil => rw [h] at this; cases this
    | cons q tl => exact ⟨q, tl, rfl⟩
  obtain ⟨ha, ht, hz⟩ := plc_mem.mp (show (at', to) ∈ plc T by rw [hp]; exact List.mem_cons_self)
  rw [hp]
  refine ⟨_, rfl, _, (0 : Int), .tup [.int (at' : Nat), .int (to : Nat)], rfl, rfl, Fw.atI_nat (j := 0) rfl, _, rfl, rfl, _, _, rfl, _, _, rfl, rfl, ?_⟩
  refine ⟨_, rfl, _, rfl, _, (at' : Int), _, rfl, rfl, li_at ha, _, rfl, _, rfl, _, (to : Int), _, rfl, rfl, li_at ht, _, _, rfl, ?_⟩
  rw [zip_ints]
  refine lcP_all (fun z : Int × Int => Da.tup [.int z.1, .int z.2]) (fun z => Da.int (z.1 + z.2)) (fun z _ => ⟨_, rfl, rfl, _, _, rfl, _, _, rfl, rfl, _, rfl, _, rfl, _, _, rfl, rfl, trivial, rfl, rfl⟩) (by rw [List.length_zip, hn.len ha, hn.len ht, sizeLine_eq]; omega) ?_
  have ea : Da.lst (((T.getD at' []).zip (T.getD to [])).map fun z => Da.int (z.1 + z.2)) = li (List.zipWith (· + ·) (T.getD at' []) (T.getD to [])) := by
    rw [li, List.map_zipWith, List.map_zip_eq_zipWith]
    rfl
  rw [ea]
  have a1 : ((at' : Nat) : Int) + 1 = ((at' + 1 : Nat) : Int) := by omega
  refine ⟨_, rfl, _, rfl, (at' : Int), rfl, _, rfl, _, rfl, _, rfl, _, rfl, _, rfl, _, _, rfl, rfl, trivial, _, rfl, _, rfl, _, rfl, ?_⟩
  obtain ⟨ad, ead⟩ : ∃ ad, ad = List.zipWith (fun x1 x2 : Int => x1 + x2) (T.getD at' []) (T.getD to []) := ⟨_, rfl⟩
  have lad : ad.length = T.length := by
    rw [ead, List.length_zipWith, hn.len ha, hn.len ht, Nat.min_self]
  rw [← ead]
  have er : Fw.cutD (T.map li) none (some (at' : Int)) ++ (li ad :: (Fw.cutD (T.map li) (some ((at' : Int) + 1)) none ++ [])) = (putR T at' ad).map li := by
    rw [cut_to _ _ (by rw [List.length_map]; omega), a1, cut_from, List.append_nil]
    unfold putR
    rw [List.map_append, List.map_cons, List.map_take, List.map_drop]
  show (Fw.cutD (T.map li) none (some (at' : Int)) ++ (li ad :: (Fw.cutD (T.map li) (some ((at' : Int) + 1)) none ++ []))).length ≤ sizeLine ∧ _
  rw [er]
  refine ⟨by rw [List.length_map, putR_len ha, sizeLine_eq]; omega, ?_⟩
  refine ⟨_, rfl, (putR T at' ad).map li, rfl, ?_⟩
  refine lcP_all li (fun r => li (putN r at' (r.getD at' 0 + r.getD to 0))) (fun r hr => ?_) (by rw [putR_len ha, sizeLine_eq]; omega) ?_
  · have hr := putR_mem hn lad r hr
    refine ⟨_, rfl, _, rfl, (at' : Int), rfl, _, rfl, _, rfl, ?_⟩
    refine ⟨_, rfl, _, rfl, _, (at' : Int), .int (r.getD at' 0), rfl, rfl, int_at (by rw [hr]; exact ha), _, rfl, _, rfl, _, (to : Int), .int (r.getD to 0), rfl, rfl, int_at (by rw [hr]; exact ht), _, _, rfl, rfl, trivial, ?_⟩
    refine ⟨_, rfl, _, rfl, _, _, rfl, rfl, trivial, _, rfl, _, rfl, _, rfl, ?_⟩
    have e2 : Fw.cutD (r.map Da.int) none (some (at' : Int)) ++ (Da.int (r.getD at' 0 + r.getD to 0) :: (Fw.cutD (r.map Da.int) (some ((at' : Int) + 1)) none ++ [])) = (putN r at' (r.getD at' 0 + r.getD to 0)).map Da.int := by
      rw [cut_to _ _ (by rw [List.length_map, hr]; omega), a1, cut_from, List.append_nil]
      unfold putN
      rw [List.map_append, List.map_cons, List.map_take, List.map_drop]
    show (Fw.cutD (r.map Da.int) none (some (at' : Int)) ++ (Da.int (r.getD at' 0 + r.getD to 0) :: (Fw.cutD (r.map Da.int) (some ((at' : Int) + 1)) none ++ []))).length ≤ sizeLine ∧ _
    rw [e2]
    refine ⟨?_, rfl, rfl⟩
    rw [List.length_map, sizeLine_eq]
    unfold putN
    rw [List.length_append, List.length_take, List.length_cons, List.length_drop]
    omega
  · have k := k at' to ha ht hz
    unfold wpF at k
    rw [ll, List.map_map, ← ead] at k
    exact k
theorem rng_era {α β : Type} (g : α → β) (d : α) : ∀ (T : List α) (i : Nat), ((List.range T.length).filter fun j => decide (j ≠ i)).map (fun j => g (T.getD j d)) = (T.eraseIdx i).map g
  | [], i => rfl
  | x :: r, 0 => by
    rw [List.length_cons, List.range_succ_eq_map, List.filter_cons_of_neg (by simp), List.filter_map, List.map_map]
    have e : (List.range r.length).filter ((fun j => decide (j ≠ 0)) ∘ Nat.succ) = List.range r.length := List.filter_eq_self.mpr fun _ _ => by simp
    rw [e]
    show (List.range r.length).map (fun j => g (r.getD j d)) = r.map g
    refine List.ext_getElem (by simp) fun j h1 h2 => ?_
    rw [List.getElem_map, List.getElem_range, List.getElem_map, List.getD_eq_getElem?_getD, List.getElem?_eq_getElem]
    rfl
  | x :: r, i + 1 => by
    rw [List.length_cons, List.range_succ_eq_map, List.filter_cons_of_pos (by simp), List.filter_map, List.map_cons, List.map_map]
    have e : (List.range r.length).filter ((fun j => decide (j ≠ i + 1)) ∘ Nat.succ) = (List.range r.length).filter fun j => decide (j ≠ i) := List.filter_congr fun j _ => by simp
    rw [e]
    show g x :: _ = g x :: _
    congr 1
    exact rng_era g d r i
def woF (T : List (List Int)) (i : Nat) (bf : Int) : List (List Int) := (T.eraseIdx i).map fun r => (Dt.clr (atT T i i) (r.getD i 0) bf r (T.getD i [])).eraseIdx i
abbrev s_without : Stmt := topS 16
theorem sc_without : FnScope ["left", "at", "before", "pivot", "others", "to", "row", "cleared"] ["left", "at", "before"] (C8.fnScope s_without) := C8.fnScope_by (by decide +kernel)
def fWo : Pf := ⟨fun xs k => ∃ (T : List (List Int)) (i : Nat) (bf : Int), xs = [ll T, .int (i : Nat), .int bf] ∧ T.length ≤ 8 ∧ Sq T ∧ i < T.length ∧ bf ≠ 0 ∧ Sml bf ∧ (∀ r ∈ T, ∀ x ∈ r, Sml x) ∧ (∀ r ∈ T, ∀ z ∈ r.zip (T.getD i []), bf ∣ atT T i i * z.1 - r.getD i 0 * z.2) ∧ k (ll (woF T i bf)),
  fun h ⟨T, i, bf, a1, a2, a3, a4, a5, a6, a7, a8, q1⟩ => ⟨T, i, bf, a1, a2, a3, a4, a5, a6, a7, a8, h _ q1⟩⟩
theorem ok_without (Fd : C8.Def L.K mg "_without" s_without f fd) (b : Binds L.K fd ["left", "at", "before"] []) (B : Bw mg) (c_cleared : CalG P w L.K mg base C8.CX0 1 "_cleared" (spF L fClr1)) : CalG P w L.K mg base C8.CX0 2 "_without" (spF L fWo) := by
  have sc := sc_without
  refine calF (n := 5) Fd b sc ?_ (fun vs h => start_eq (by rw [h]; rfl)) fun cdv A outer s H E hr hgu => ?_
  · rintro ds k ⟨T, i, bf, rfl, _⟩
    rfl
  refine ⟨_, w_seq (w_set (ps_set (i := 3) sc.nd rfl (by first | exact Or.inl rfl | exact Or.inr rfl) (w_ix ix_list snd_ix (w_v (pv 0)) (w_v (pv 1)) (fun _ _ => rfl))))
  (w_seq (w_setLc (sndv_tup (n := 2) (sndv_cons (sndv_N (by decide)) (sndv_cons (sndv_N (by decide)) sndv_nil))) (ps_setLc (i := 4) (own := [("to", 5), ("row", 6)]) (by rfl) sc.nd rfl (by rfl) (sw_true rfl (by rfl) rfl (by decide +kernel)) (w_ie (pi_enum (by rfl) B.enumerate (w_cons (w_v (pv 0)) w_nil))) (blkOk_by (by kernel_rfl)) (fun _ _ _ _ _ => (pg_tup (n := 2) (by rfl) (pgs_cons (pg_name (i := 5) sc.nd rfl (by first | exact Or.inl rfl | exact Or.inr rfl)) (pgs_cons (pg_name (i := 6) sc.nd rfl (by first | exact Or.inl rfl | exact Or.inr rfl)) pgs_nil)))) (fun _ _ _ _ _ => w_tone (w_cmpT (op_neD hr.units) snd_ne (w_v (pv 5)) (w_v (pv 1)) (nomark _))) (fun _ _ _ _ _ => (w_v (pv 6)))))
  (w_seq (w_setLc (sndv_N (by decide)) (ps_setLc (i := 7) (own := [("row", 6)]) (by rfl) sc.nd rfl (by rfl) (sw_true rfl (by rfl) rfl (by decide +kernel)) (w_il (pi_list (w_v (pv 4)))) (blkOk_by (by kernel_rfl)) (fun _ _ _ _ _ => (pg_name (i := 6) sc.nd rfl (by first | exact Or.inl rfl | exact Or.inr rfl))) (fun _ _ _ _ _ => w_tnil) (fun _ _ _ _ _ => (w_call c_cleared hr (by decide) hgu rfl (w_cons (w_lst (w_cons (w_ix ix_list snd_ix (w_v (pv 6)) (w_v (pv 1)) (fun _ _ => rfl)) (Mn.w_starL (w_v (pv 6)) w_nil))) (w_cons (w_lst (w_cons (w_ix ix_list snd_ix (w_v (pv 3)) (w_v (pv 1)) (fun _ _ => rfl)) (Mn.w_starL (w_v (pv 3)) w_nil))) (w_cons (w_v (pv 2)) w_nil)))))))
  (w_one (w_ret (ps_ret (w_lc (sndv_N (by decide)) (pe_lc (own := [("row", 6)]) (by rfl) sc.nd (w_il (pi_list (w_v (pv 7)))) (blkOk_by (by kernel_rfl)) (fun _ _ _ _ _ => (pg_name (i := 6) sc.nd rfl (by first | exact Or.inl rfl | exact Or.inr rfl))) (fun _ _ _ _ _ => w_tnil) (fun _ _ _ _ _ => (w_lst (Mn.w_starL (w_slice sl_list snd_sl (w_v (pv 6)) w_poN (w_poS (w_v (pv 1)))) (Mn.w_starL (w_slice sl_list snd_sl (w_v (pv 6)) (w_poS (w_op op_add snd_add (w_v (pv 1)) (w_int (kd := 0) pe_int))) w_poN) w_nil))))))))))), ?_⟩
  rintro ds kk ⟨T, i, bf, rfl, hl, hn, hi, b0, sb, st, hd, k⟩
  have a1 : ((i : Nat) : Int) + 1 = ((i + 1 : Nat) : Int) := by omega
  refine ⟨_, rfl, _, rfl, _, (i : Int), _, rfl, rfl, li_at hi, ?_⟩
  refine ⟨_, rfl, _, rfl, ?_⟩
  rw [enum_lis]
  refine lcP_src (fun j : Nat => Da.tup [.int (j : Nat), li (T.getD j [])]) (fun j => decide (j ≠ i)) (fun j => li (T.getD j [])) (fun j hj => ?_) (by simp only [List.length_nil, List.length_range]; rw [sizeLine_eq]; omega) ?_
  · refine ⟨_, rfl, rfl, _, _, rfl, _, _, rfl, rfl, ?_⟩
    refine ⟨_, rfl, _, rfl, .int (j : Nat), .int (i : Nat), rfl, rfl, rfl, rfl, _, rfl, ?_⟩
    refine ⟨?_, fun h => ⟨_, rfl, rfl, rfl⟩, fun _ => rfl⟩
    rw [eqv_nat]
    by_cases e : j = i <;> simp [e]
  have eo : ([] ++ ((List.range T.length).filter fun j => decide (j ≠ i)).map fun j => li (T.getD j [])) = (T.eraseIdx i).map li := by
    rw [List.nil_append]
    exact rng_era li [] T i
  rw [eo]
  refine ⟨_, rfl, (T.eraseIdx i).map li, rfl, ?_⟩
  have hnr : ∀ r ∈ T.eraseIdx i, r.length = T.length := fun r hr => hn r (List.mem_of_mem_eraseIdx hr)
  have mem_i : T.getD i [] ∈ T := by
    rw [List.getD_eq_getElem?_getD, List.getElem?_eq_getElem hi]
    exact List.getElem_mem hi
  have sat : ∀ r ∈ T, Sml (r.getD i 0) := fun r hr => st r hr _ (by
    have : i < r.length := by rw [hn r hr]; exact hi
    rw [List.getD_eq_getElem?_getD, List.getElem?_eq_getElem this]
    exact List.getElem_mem this)
  refine lcP_all li (fun r => li (Dt.clr (atT T i i) (r.getD i 0) bf r (T.getD i []))) (fun r hr => ?_) (by rw [List.length_eraseIdx_of_lt hi, sizeLine_eq]; omega) ?_
  · have hl2 := hnr r hr
    have hrm := List.mem_of_mem_eraseIdx hr
    refine ⟨_, rfl, _, rfl, _, (i : Int), .int (r.getD i 0), rfl, rfl, int_at (by rw [hl2]; exact hi), _, rfl, _, rfl, ?_⟩
    have e1 : ∀ (x : Int) (q : List Int), Da.int x :: (q.map Da.int ++ []) = (x :: q).map Da.int := fun x q => by rw [List.append_nil]; rfl
    show (Da.int (r.getD i 0) :: (r.map Da.int ++ [])).length ≤ sizeLine ∧ _
    rw [e1]
    refine ⟨by rw [List.length_map, List.length_cons, hl2, sizeLine_eq]; omega, ?_⟩
    refine ⟨_, rfl, _, rfl, _, (i : Int), .int ((T.getD i []).getD i 0), rfl, rfl, int_at (by rw [hn.len hi]; exact hi), _, rfl, _, rfl, ?_⟩
    show (Da.int ((T.getD i []).getD i 0) :: ((T.getD i []).map Da.int ++ [])).length ≤ sizeLine ∧ _
    rw [e1]
    refine ⟨by rw [List.length_map, List.length_cons, hn.len hi, sizeLine_eq]; omega, ?_⟩
    exact ⟨_, rfl, (T.getD i []).getD i 0, r.getD i 0, bf, r, T.getD i [], rfl, by rw [hl2]; omega, b0, sb, sat _ mem_i, sat _ hrm, st _ hrm, st _ mem_i, hd _ hrm, rfl, rfl⟩
  refine ⟨_, rfl, ((T.eraseIdx i).map fun r => Dt.clr (atT T i i) (r.getD i 0) bf r (T.getD i [])).map li, by rw [List.map_map]; rfl, ?_⟩
  refine lcP_all li (fun q => li (q.eraseIdx i)) (fun q hq => ?_) (by rw [List.length_map, List.length_eraseIdx_of_lt hi, sizeLine_eq]; omega) ?_
  · obtain ⟨r, hr, rfl⟩ := List.mem_map.mp hq
    have hl2 := hnr r hr
    have lq : (Dt.clr (atT T i i) (r.getD i 0) bf r (T.getD i [])).length = T.length := by
      rw [Dt.clr, List.length_zipWith, hl2, hn.len hi, Nat.min_self]
    generalize Dt.clr (atT T i i) (r.getD i 0) bf r (T.getD i []) = q at lq ⊢
    refine ⟨_, rfl, _, rfl, (i : Int), rfl, _, rfl, _, rfl, ?_⟩
    refine ⟨_, rfl, _, rfl, _, _, rfl, rfl, trivial, _, rfl, _, rfl, _, rfl, ?_⟩
    have e2 : Fw.cutD (q.map Da.int) none (some (i : Int)) ++ (Fw.cutD (q.map Da.int) (some ((i : Int) + 1)) none ++ []) = (q.eraseIdx i).map Da.int := by
      rw [cut_to _ _ (by rw [List.length_map, lq]; omega), a1, cut_from, List.append_nil, List.eraseIdx_eq_take_drop_succ, List.map_append, List.map_take, List.map_drop]
    show (Fw.cutD (q.map Da.int) none (some (i : Int)) ++ (Fw.cutD (q.map Da.int) (some ((i : Int) + 1)) none ++ [])).length ≤ sizeLine ∧ _
    rw [e2]
    refine ⟨?_, rfl, rfl⟩
    rw [List.length_map, List.length_eraseIdx_of_lt (by rw [lq]; exact hi), lq, sizeLine_eq]
    omega
  · have k := k
    unfold woF at k
    rw [ll, List.map_map] at k
    rw [List.map_map]
    exact k
end
end Fv

namespace Dt
def fac : Nat → Nat
  | 0 => 1
  | n + 1 => (n + 1) * fac n
theorem sm_bd {f : Nat → Int} {C : Nat} : ∀ {n : Nat}, (∀ i, i < n → (f i).natAbs ≤ C) → (sm n f).natAbs ≤ n * C
  | 0, _ => by simp [sm]
  | n + 1, h => by
    have h1 := sm_bd (f := f) (C := C) (n := n) fun i hi => h i (by omega)
    have h2 := h n (by omega)
    show (sm n f + f n).natAbs ≤ _
    have := Int.natAbs_add_le (sm n f) (f n)
    rw [Nat.add_mul, Nat.one_mul]
    omega
theorem sg_abs : ∀ i, (sg i).natAbs = 1
  | 0 => rfl
  | i + 1 => by
    show (-sg i).natAbs = 1
    rw [Int.natAbs_neg, sg_abs i]
theorem det_bd {C : Nat} : ∀ {n : Nat} {M : Mx}, (∀ a b, (M a b).natAbs ≤ C) → (det n M).natAbs ≤ fac n * C ^ n
  | 0, _, _ => by simp [det, fac]
  | n + 1, M, h => by
    show (sm (n + 1) _).natAbs ≤ _
    refine Nat.le_trans (sm_bd (C := C * (fac n * C ^ n)) fun i _ => ?_) ?_
    · rw [Int.natAbs_mul, Int.natAbs_mul, sg_abs, Nat.one_mul]
      exact Nat.mul_le_mul (h i 0) (det_bd fun a b => h _ _)
    · rw [Nat.pow_succ]
      show (n + 1) * (C * (fac n * C ^ n)) ≤ (n + 1) * fac n * (C ^ n * C)
      exact Nat.le_of_eq (by rw [Nat.mul_assoc, Nat.mul_left_comm C, Nat.mul_comm C])
theorem det_lt {n : Nat} {M : Mx} (hn : n ≤ 8) (h : ∀ a b, (M a b).natAbs ≤ 2 ^ 200) : (det n M).natAbs < 2 ^ 4000 := by
  have h1 := det_bd h (n := n)
  have h2 : fac n ≤ 40320 := by
    have : n = 0 ∨ n = 1 ∨ n = 2 ∨ n = 3 ∨ n = 4 ∨ n = 5 ∨ n = 6 ∨ n = 7 ∨ n = 8 := by omega
    rcases this with rfl | rfl | rfl | rfl | rfl | rfl | rfl | rfl | rfl <;> decide
  have h3 : (2 ^ 200) ^ n ≤ (2 ^ 200) ^ 8 := Nat.pow_le_pow_right (Nat.pos_of_ne_zero (by simp)) hn
  have h4 := Nat.mul_le_mul h2 h3
  have h5 : 40320 * (2 ^ 200) ^ 8 < 2 ^ 4000 := by decide +kernel
  omega
variable {M : Mx} {n k : Nat} {left : List (List Int)} {before s : Int}
theorem SB.bn (S : SB M n k left before s) : before ≠ 0 := by
  obtain ⟨ord, bk, R, _⟩ := S.ex
  exact R.ne
theorem SB.sml (S : SB M n k left before s) (hn : n ≤ 8) (h : ∀ a b, (M a b).natAbs ≤ 2 ^ 200) : before.natAbs < 2 ^ 4000 ∧ ∀ r ∈ left, ∀ x ∈ r, x.natAbs < 2 ^ 4000 := by
  obtain ⟨ord, bk, R, e, d⟩ := S.ex
  have le := S.le
  refine ⟨by rw [R.bf]; exact det_lt (by omega) fun a b => h _ _, fun r hr x hx => ?_⟩
  rw [e] at hr
  obtain ⟨i, hi, rfl⟩ := List.mem_map.mp hr
  obtain ⟨j, hj, rfl⟩ := List.mem_map.mp hx
  have hi := List.mem_range.mp hi
  have := R.eq 0 (fun _ => ord (k + i)) (fun _ => k + j)
  rw [det_one, Int.pow_zero, Int.one_mul] at this
  rw [this]
  exact det_lt (by omega) fun a b => h _ _
theorem SB.dvd {h : List Int} {t : List (List Int)} {pv : Int} (S : SB M n k (h :: t) before s) (hp : h.getD 0 0 = pv) : ∀ r ∈ t, ∀ z ∈ (r.drop 1).zip (h.drop 1), before ∣ pv * z.1 - r.getD 0 0 * z.2 := by
  obtain ⟨ord, bk, R, e, d⟩ := S.ex
  have len := S.len
  rw [List.length_cons] at len
  have g : ∀ i, i < n - k → (h :: t)[i]? = some ((List.range (n - k)).map fun j => bk (ord (k + i)) (k + j)) := fun i hi => by rw [e]; exact grm_at hi
  have gh : h = (List.range (n - k)).map fun j => bk (ord (k + 0)) (k + j) := by simpa using g 0 (by omega)
  have at0 : ∀ f : Nat → Int, ((List.range (n - k)).map f).getD 0 0 = f 0 := fun f => by rw [List.getD_eq_getElem?_getD, List.getElem?_map, List.getElem?_range (by omega)]; rfl
  intro r hr z hz
  obtain ⟨i, hi⟩ := List.mem_iff_getElem?.mp hr
  have hlt := (List.getElem?_eq_some_iff.mp hi).1
  have gi := g (i + 1) (by omega)
  rw [List.getElem?_cons_succ, hi] at gi
  have er := Option.some.inj gi
  obtain ⟨j, hj⟩ := List.mem_iff_getElem?.mp hz
  rw [List.getElem?_zip_eq_some] at hj
  obtain ⟨h1, h2⟩ := hj
  rw [List.getElem?_drop, er] at h1
  rw [List.getElem?_drop, gh] at h2
  have hj' : 1 + j < n - k := by
    have := (List.getElem?_eq_some_iff.mp h1).1
    simpa using this
  rw [List.getElem?_map, List.getElem?_range hj'] at h1 h2
  obtain ⟨q, hq⟩ := R.dvd (ord (k + 0)) (ord (k + (i + 1))) (k + 0) (k + (1 + j))
  refine ⟨q, ?_⟩
  rw [← hq, ← hp, er, at0, ← Option.some.inj h1, ← Option.some.inj h2]
  rw [gh, at0]
end Dt

namespace Fw
open PySem PySem.Spec PyProof.Rows L2 Fr
section
variable {X : Cx} {L : Ly} {B : Bs} {G H : Hp} {σ : L2.St} {ρ : En} {st : Stmt} {e : Expr}
mutual
def plB : Da → Bool
  | .lst xs => plBs xs
  | .tup xs => plBs xs
  | .obj _ _ => false
  | _ => true
def plBs : List Da → Bool
  | [] => true
  | x :: r => plB x && plBs r
end
mutual
theorem dv_plain {G G' : Hp} {p : Addr} {od : Obj} {kvs : List (Key × V)} (hp : G p = some (.frz od (.dK kvs))) (ne : ∀ b, b ≠ p → G' b = G b) : ∀ {v : V} {d : Da}, plB d = true → Dv L G v d → Dv L G' v d
  | _, _, _, .non => .non
  | _, _, _, .bl b => .bl b
  | _, _, _, .int i => .int i
  | _, _, _, .str x => .str x
  | _, _, q, .lst (a := a) h t => .lst (by
      rw [ne a (fun z => by rw [z, hp] at h; cases h)]
      exact h) (dvs_plain hp ne q t)
  | _, _, q, .tup (a := a) h t => .tup (by
      rcases h with (h | ⟨o, h⟩) | h
      · exact .inl (.inl (by rw [ne a (fun z => by rw [z, hp] at h; cases h)]; exact h))
      · exact .inl (.inr ⟨o, by rw [ne a (fun z => by rw [z, hp] at h; cases h)]; exact h⟩)
      · exact .inr h) (dvs_plain hp ne q t)
theorem dvs_plain {G G' : Hp} {p : Addr} {od : Obj} {kvs : List (Key × V)} (hp : G p = some (.frz od (.dK kvs))) (ne : ∀ b, b ≠ p → G' b = G b) : ∀ {vs : List V} {ds : List Da}, plBs ds = true → DvAll L G vs ds → DvAll L G' vs ds
  | _, _, _, .nil => .nil
  | _, _, q, .cons h t => by
    have q' : (plB _ && plBs _) = true := q
    rw [Bool.and_eq_true] at q'
    exact .cons (dv_plain hp ne q'.1 h) (dvs_plain hp ne q'.2 t)
end
end
end Fw

namespace Fw
open PySem PySem.Spec PyProof.Rows L2 Fr
section
variable {X : Cx} {L : Ly} {B : Bs} {G H : Hp} {σ : L2.St} {ρ : En} {st : Stmt} {e : Expr}
end
end Fw

namespace Fw
open PySem PySem.Spec PyProof.Rows L2 Fr
section
variable {X : Cx} {L : Ly} {B : Bs} {G H : Hp} {σ : L2.St} {ρ : En} {st : Stmt} {e : Expr}
def rSumP : R1p := ⟨fun xs k => ∃ ns : List Int, xs = [.lst (ns.map Da.int)] ∧ k (.int ns.sum), fun h ⟨ns, a, q⟩ => ⟨ns, a, h _ q⟩⟩
end
end Fw

namespace Fw
open PySem PySem.Spec PyProof.Rows L2 Fr
section
variable {L : Ly} {B : Bs} {G H G' H' : Hp} {σ : L2.St} {ρ : En} {d l cc : Addr}
end
section
variable {P : Program} {w : World} {L : Ly} {T : Xt} {mg : Str → Option Value} {base : Heap} {f c d l cc : Addr} {G0 : Hp} {N cs : List Str} {qual : Str} {params : Arguments} {scope : Scope} {cl : List (Str × Addr)} {n k n8 : Nat} {p pos : Pos} {gg : Pl} {F : Pe} {x : Str} {e1 : PySem.Expr} {es : List PySem.Expr}
end
section
variable {X : Cx} {L : Ly} {er : Ed}
end
end Fw
namespace Fv
open PySem PySem.Spec PyProof.Rows L2 Fr Fw Fs
section
variable {P : Program} {w : World} {L : Ly} {T : Xt} {mg : Str → Option Value} {base : Heap} {f g d l cc : Addr} {fd : FuncData} {cF : Addr} {G0 : Hp} {n8 : Nat}
end
end Fv

namespace Fw
open PySem PySem.Spec PyProof.Rows L2 Fr
section
variable {X : Cx} {L : Ly} {B : Bs} {G H : Hp} {σ : L2.St} {ρ : En} {st : Stmt} {ss : List Stmt} {e : PySem.Expr} {vs : List Nat}
def pTruL (g : Px) : Pt := ⟨fun ρ k => g.f ρ fun d ρ1 => ∃ ds, (d = .lst ds ∨ d = .tup ds) ∧ k (!ds.isEmpty) ρ1, fun h => g.mono fun _ _ ⟨ds, a, q⟩ => ⟨ds, a, h _ _ q⟩⟩
theorem w_truL (hK : X.K = L.K) {g : Px} (p : PT X e fun σ H Q => tW L g σ H fun x H' => ∃ k, TruV X.K x H' k ∧ Q k H') : PT X e (tWT L (pTruL g)) := PT.imp p fun σ H Q ⟨B, G, ρ, r, h⟩ =>
  ⟨B, G, ρ, r, g.mono (fun d ρ1 ⟨ds, e, h1⟩ v G1 H1 r1 s1 d1 => by
    rcases e with rfl | rfl
    · obtain ⟨a, us, rfl, hu, dv⟩ := dv_lst d1
      refine ⟨!us.isEmpty, .inl ⟨us, .inl (.inl (r1.gh _ _ hu)), rfl⟩, ?_⟩
      rw [dvs_emp dv]
      exact h1 _ _ r1 s1
    · obtain ⟨a, us, rfl, hu, dv⟩ := dv_tup d1
      refine ⟨!us.isEmpty, .inr (.inl ⟨us, by rw [hK]; exact same_sqt r1.gh hu, rfl⟩), ?_⟩
      rw [dvs_emp dv]
      exact h1 _ _ r1 s1) h⟩
theorem snd_sum : Snd1 L (rSum L.K) rSumP := by
  rintro B G H σ ρ vs xs Q r dv ⟨ns, rfl, k⟩
  cases dv with
  | cons d t =>
    cases t
    cases d with
    | @lst a ys _ hs ha =>
      have e := dv_intsI ha
      subst e
      exact ⟨a, ns, rfl, .inl (.inl (r.gh _ _ hs)), k _ G H r (Same.refl _) (.int _)⟩
end
end Fw
namespace Fw
open PySem PySem.Spec PyProof.Rows L2 Fr
section
variable {L : Ly}
def rAnyB : R1p := ⟨fun xs k => ∃ bs : List Bool, xs = [.lst (bs.map Da.bl)] ∧ k (.bl (bs.any id)), fun h ⟨bs, e, q⟩ => ⟨bs, e, h _ q⟩⟩
theorem snd_any : Snd1 L (rAny L.K) rAnyB := by
  rintro B G H σ ρ vs xs Q r dv ⟨bs, rfl, k⟩
  cases dv with
  | cons d t =>
    cases t
    cases d with
    | @lst a ys _ hs ha =>
      have e := dv_bls ha
      subst e
      exact ⟨a, bs, rfl, .inl (.inl (r.gh _ _ hs)), k _ G H r (Same.refl _) (.bl _)⟩
end
structure By (mg : Str → Option Value) : Prop where
  any : mg "any" = none
end Fw

namespace Fw
open PySem PySem.Spec PyProof.Rows L2 Fr
theorem lcPg_src {α : Type} {i : Nat} {p : Addr} {ds0 : List Da} {t : Tg} {c : Pt} {el : Px} {vs : List Nat} {k : List Da → En → Prop} {ρ : En} (hi : ρ[i]? = some (some (.gro p ds0))) (emb : α → Da) (pr : α → Bool) (out : α → Da) : ∀ {src : List α} {acc : List Da},
    (∀ a ∈ src, t.f (emb a) ρ fun ρ2 => c.f ρ2 fun b ρ3 => b = pr a ∧ (pr a = true → el.f ρ3 fun y ρ4 => y = out a ∧ wipeR ρ4 vs = ρ) ∧ (pr a = false → wipeR ρ3 vs = ρ)) →
    acc.length + src.length ≤ sizeLine → k (acc ++ (src.filter pr).map out) ρ → lcPg i p ds0 t c el vs k (src.map emb) acc ρ
  | [], acc, _, _, h => ⟨hi, by simpa using h⟩
  | x :: r, acc, hx, hl, h => ⟨hi, t.mono (fun ρ2 h2 => c.mono (fun b ρ3 z => by
      have hl' : acc.length + (r.length + 1) ≤ sizeLine := hl
      obtain ⟨e, z1, z2⟩ := z
      subst e
      by_cases hb : pr x = true
      · rw [if_pos hb]
        refine el.mono (fun y ρ4 ⟨e1, e2⟩ => ⟨by omega, ?_⟩) (z1 hb)
        show lcPg i p ds0 t c el vs k (r.map emb) _ _
        rw [e2, e1]
        refine lcPg_src hi emb pr out (fun u hu => hx u (List.mem_cons_of_mem _ hu)) (by rw [List.length_append]; simp only [List.length_singleton]; omega) ?_
        rw [List.filter_cons_of_pos hb, List.map_cons] at h
        rw [List.append_assoc]
        exact h
      · rw [if_neg hb]
        show lcPg i p ds0 t c el vs k (r.map emb) _ _
        rw [z2 (by simpa using hb)]
        refine lcPg_src hi emb pr out (fun u hu => hx u (List.mem_cons_of_mem _ hu)) (by omega) ?_
        rw [List.filter_cons_of_neg hb] at h
        exact h) h2) (hx x List.mem_cons_self)⟩
theorem sSeq_cut {g R : Ps} {ρ : En} {nx : En → Prop} {rt : Da → En → Prop} {br ct : En → Prop} (I : En → Prop) (h1 : g.f ρ I rt br ct) (h2 : ∀ ρ', I ρ' → R.f ρ' nx rt br ct) : (sSeq g R).f ρ nx rt br ct :=
  g.mono (fun r h => h2 r h) (fun _ _ z => z) (fun _ z => z) (fun _ z => z) h1
end Fw
namespace Fv
open PySem PySem.Spec PyProof.Rows L2 Fr Fw Fs
section
variable {P : Program} {w : World} {L : Ly} {mg : Str → Option Value} {base : Heap} {f : Addr} {fd : FuncData}
def detL (T : List (List Int)) : Int := Dt.det T.length (Dt.mx T)
def Bd (T : List (List Int)) : Prop := ∀ r ∈ T, ∀ x ∈ r, x.natAbs ≤ 2 ^ 200
theorem Bd.mx {T : List (List Int)} (h : Bd T) (a b : Nat) : (Dt.mx T a b).natAbs ≤ 2 ^ 200 := by
  have key : ∀ (r : List Int), (∀ x ∈ r, x.natAbs ≤ 2 ^ 200) → (r.getD b 0).natAbs ≤ 2 ^ 200 := fun r hr => by
    rw [List.getD_eq_getElem?_getD]
    cases e : r[b]? with
    | none => exact Nat.zero_le _
    | some x => exact hr x (List.mem_of_getElem? e)
  unfold Dt.mx
  refine key _ ?_
  rw [List.getD_eq_getElem?_getD]
  cases e : T[a]? with
  | none => exact fun x hx => by cases hx
  | some r => exact h r (List.mem_of_getElem? e)
def StepOk (T : List (List Int)) (steps : List (List Int)) (sign : Int) : Prop := (sign = 0 ∨ sign = 1 ∨ sign = -1) ∧ (steps = [] → sign = detL T) ∧ ∀ s, steps.getLast? = some s → ∃ x r, s = x :: r ∧ sign * x = detL T
theorem sg_cases (i : Nat) : Dt.sg i = if i % 2 = 1 then -1 else 1 := by
  induction i with
  | zero => rfl
  | succ i ih =>
    show -Dt.sg i = _
    rw [ih]
    by_cases h : i % 2 = 1
    · rw [if_pos h, if_neg (by omega)]; rfl
    · rw [if_neg h, if_pos (by omega)]
theorem and1 (c : Nat) (h : c < 8) : (Builtin.bitAnd (c : Int) 1 != 0) = decide (c % 2 = 1) := by
  have : c = 0 ∨ c = 1 ∨ c = 2 ∨ c = 3 ∨ c = 4 ∨ c = 5 ∨ c = 6 ∨ c = 7 := by omega
  rcases this with rfl | rfl | rfl | rfl | rfl | rfl | rfl | rfl <;> decide
abbrev s_stepped : Stmt := topS 10
theorem sc_stepped : FnScope ["rows", "left", "row", "steps", "sign", "before", "places", "at", "step"] ["rows"] (C8.fnScope s_stepped) := C8.fnScope_by (by decide +kernel)
def fSte : Pf := ⟨fun xs k => ∃ (b c : Bool) (T : List (List Int)), xs = [tbD b c T] ∧ T.length ≤ 7 ∧ Sq T ∧ Bd T ∧ ∀ steps sign, StepOk T steps sign → k (.tup [ll steps, .int sign]), fun h ⟨b, c, T, a1, a2, a3, a4, q⟩ => ⟨b, c, T, a1, a2, a3, a4, fun x y z => h _ (q x y z)⟩⟩
theorem ok_stepped (Fd : C8.Def L.K mg "stepped" s_stepped f fd) (b : Binds L.K fd ["rows"] []) (B : Bw mg) (c_cleared : CalG P w L.K mg base C8.CX0 1 "_cleared" (spF L fClr1)) : CalG P w L.K mg base C8.CX0 2 "stepped" (spF L fSte) := by
  have sc := sc_stepped
  refine calF (n := 8) Fd b sc ?_ (fun vs h => start_eq (by rw [h]; rfl)) fun cdv A outer s H E hr hgu => ?_
  · rintro ds k ⟨b, c, T, rfl, _⟩
    rfl
  refine ⟨_, w_seq (w_setLcN (sndv_N (by decide)) (ps_setLc (i := 1) (own := [("row", 2)]) (by rfl) sc.nd rfl (by rfl) (sw_true rfl (by rfl) rfl (by decide +kernel)) (w_ilt (pi_list (pv 0)) (pi_tup (pv 0))) (blkOk_by (by kernel_rfl)) (fun _ _ _ _ _ => (pg_name (i := 2) sc.nd rfl (by first | exact Or.inl rfl | exact Or.inr rfl))) (fun _ _ _ _ _ => w_tnil) (fun _ _ _ _ _ => (w_tCB snd_listOf (pe_callTy call_list_of (by rfl) B.list (by decide +kernel) (w_cons (w_v (pv 2)) w_nil))))))
  (w_seq (w_setZ (ps_set (i := 3) sc.nd rfl (by first | exact Or.inl rfl | exact Or.inr rfl) (w_zN (w_nlst w_nil))))
  (w_seq (w_set (ps_set (i := 4) sc.nd rfl (by first | exact Or.inl rfl | exact Or.inr rfl) (w_int (kd := 0) pe_int)))
  (w_seq (w_set (ps_set (i := 5) sc.nd rfl (by first | exact Or.inl rfl | exact Or.inr rfl) (w_int (kd := 0) pe_int)))
  (w_seq (w_while (ps_while PassesOwn.never (w_truG (pt_truth (pv 1) (fun _ => rfl)))
   (w_seq (w_setLcG (i := 1) (sndv_tup (n := 2) (sndv_cons (sndv_N (by decide)) (sndv_cons (sndv_N (by decide)) sndv_nil))) (ps_setLc (i := 6) (own := [("at", 7), ("row", 2)]) (by rfl) sc.nd rfl (by rfl) (sw_true rfl (by rfl) rfl (by decide +kernel)) (pi_enum (by rfl) B.enumerate (pa_cons (pv 1) pa_nil)) (blkOk_by (by kernel_rfl)) (fun _ _ _ _ _ => (pg_tup (n := 2) (by rfl) (pgs_cons (pg_name (i := 7) sc.nd rfl (by first | exact Or.inl rfl | exact Or.inr rfl)) (pgs_cons (pg_name (i := 2) sc.nd rfl (by first | exact Or.inl rfl | exact Or.inr rfl)) pgs_nil)))) (fun _ _ _ _ _ => w_tone (w_cmpT (op_neD hr.units) snd_ne (w_ix ix_list snd_ix (w_v (pv 2)) (w_int (kd := 0) pe_int) (fun _ _ => rfl)) (w_int (kd := 0) pe_int) (nomark _))) (fun _ _ _ _ _ => (w_v (pv 7)))))
    (w_seq (w_if (ps_if (w_notT (pt_not (w_truL rfl (pt_truth (w_v (pv 6)) (fun _ => rfl)))))
     (w_one (w_ret (ps_ret (w_tup (w_cons (w_frz (pv 3)) (w_cons (w_int (kd := 0) pe_int) w_nil))))))
     (w_snil pss_nil)))
    (w_seq (w_set (ps_set (i := 8) sc.nd rfl (by first | exact Or.inl rfl | exact Or.inr rfl) (w_popG (pe_bm PySem.F.plainAttrs_list PySem.F.slot_list_pop PySem.F.type_list_pop mt_popAt (pv 1) (pa_cons (w_ix ix_list snd_ix (w_v (pv 6)) (w_int (kd := 0) pe_int) (fun _ _ => rfl)) pa_nil)))))
    (w_seq (w_if (ps_if (w_truI (pt_truth (w_op op_and snd_andI (w_ix ix_list snd_ix (w_v (pv 6)) (w_int (kd := 0) pe_int) (fun _ _ => rfl)) (w_int (kd := 0) pe_int)) (fun _ => rfl)))
     (w_one (w_set (ps_set (i := 4) sc.nd rfl (by first | exact Or.inl rfl | exact Or.inr rfl) (w_neg (pe_un un_neg (w_v (pv 4)))))))
     (w_snil pss_nil)))
    (w_seq (w_setLcN (sndv_N (by decide)) (ps_setLc (i := 1) (own := [("row", 2)]) (by rfl) sc.nd rfl (by rfl) (sw_true rfl (by rfl) rfl (by decide +kernel)) (w_il (pi_list (w_frz (pv 1)))) (blkOk_by (by kernel_rfl)) (fun _ _ _ _ _ => (pg_name (i := 2) sc.nd rfl (by first | exact Or.inl rfl | exact Or.inr rfl))) (fun _ _ _ _ _ => w_tnil) (fun _ _ _ _ _ => (w_call c_cleared hr (by decide) hgu rfl (w_cons (w_v (pv 2)) (w_cons (w_v (pv 8)) (w_cons (w_v (pv 5)) w_nil)))))))
    (w_seq (w_set (ps_set (i := 5) sc.nd rfl (by first | exact Or.inl rfl | exact Or.inr rfl) (w_ix ix_list snd_ix (w_v (pv 8)) (w_int (kd := 0) pe_int) (fun _ _ => rfl))))
    (w_one (w_app (ps_expr (pe_bm PySem.F.plainAttrs_list PySem.F.slot_list_append PySem.F.type_list_append mt_append (pv 3) (pa_cons (w_v (pv 8)) pa_nil)))))))))))))
  (w_one (w_ret (ps_ret (w_tup (w_cons (w_frz (pv 3)) (w_cons (w_v (pv 4)) w_nil)))))))))), ?_⟩
  rintro ds kk ⟨bb, c, T, rfl, hl, hn, hB, k⟩
  have hd := (tbD_it bb c T).2.2
  refine ⟨T.map (rwE bb), hd.elim (fun e => .inl (by rw [← e]; rfl)) (fun e => .inr (by rw [← e]; rfl)), ?_⟩
  refine lcP_all (rwE bb) li (fun r hr => ⟨_, rfl, r.map Da.int, (rwE_it bb r).2.2.imp (congrArg fun z => [z]) (congrArg fun z => [z]), rfl, rfl⟩) (by rw [sizeLine_eq]; omega) ?_
  intro p hp
  refine ⟨by decide, fun q hq => ?_⟩
  have at0 : ∀ (x : Int) (xs : List Int), L2.atI ((x :: xs).map Da.int) (0 : Int) = some (.int x) := fun x xs => Fw.atI_nat (j := 0) rfl
  refine ⟨fun m ρ => ∃ (p q : Addr) (left steps : List (List Int)) (s bf : Int) (k : Nat) (x2 x6 x7 x8 : Option Sl), ρ = [some (.dat (tbD bb c T)), some (.gro p (left.map li)), x2, some (.gro q (steps.map li)), some (.dat (.int s)), some (.dat (.int bf)), x6, x7, x8] ∧
    m = left.length ∧ Dt.SB (Dt.mx T) T.length k left bf s ∧ (s = 1 ∨ s = -1) ∧ steps.length = k ∧ ∀ st, steps.getLast? = some st → ∃ r, st = bf :: r, ⟨T.length, p, q, T, [], 1, 1, 0, none, none, none, none, rfl, rfl, Dt.sb0 hn, .inl rfl, rfl, fun st h => by cases h⟩, ?_⟩
  rintro m ρ ⟨p, q, left, steps, s, bf, k0, x2, x6, x7, x8, rfl, rfl, S, hs, hst, hlast⟩
  have s0 : s ≠ 0 := by rcases hs with rfl | rfl <;> decide
  have hk0 := S.le
  have hlen := S.len
  have hrows := S.rows
  obtain ⟨sbf, sml⟩ := S.sml (by omega) hB.mx
  refine ⟨p, _, rfl, bite (fun hb => ?_) fun hb => ?_⟩
  · have hne : left ≠ [] := fun e => by subst e; cases hb
    have hpos : 0 < left.length := List.length_pos_iff.mpr hne
    refine ⟨p, _, rfl, ?_⟩
    rw [enum_lis]
    refine lcPg_src rfl (fun i : Nat => Da.tup [.int (i : Nat), li (left.getD i [])]) (fun i => decide ((left.getD i []).getD 0 0 ≠ 0)) (fun i => .int (i : Nat)) (fun i hi => ?_) (by simp only [List.length_nil, List.length_range]; rw [sizeLine_eq]; omega) ?_
    · have hi := List.mem_range.mp hi
      have hr : (left.getD i []).length = T.length - k0 := by
        rw [List.getD_eq_getElem?_getD, List.getElem?_eq_getElem hi]
        exact hrows _ (List.getElem_mem hi)
      refine ⟨_, rfl, rfl, _, _, rfl, _, _, rfl, rfl, ?_⟩
      refine ⟨_, rfl, _, (0 : Int), .int ((left.getD i []).getD 0 0), rfl, rfl, int_at (j := 0) (by clear sbf sml; omega), .int ((left.getD i []).getD 0 0), .int 0, rfl, rfl, rfl, rfl, _, rfl, ?_⟩
      exact ⟨neq0 _, fun _ => ⟨_, rfl, rfl, rfl⟩, fun _ => rfl⟩
    rw [List.nil_append]
    obtain ⟨pl, hpl⟩ : ∃ pl, pl = (List.range left.length).filter fun i => decide ((left.getD i []).getD 0 0 ≠ 0) := ⟨_, rfl⟩
    rw [← hpl]
    refine ⟨_, rfl, _, .inl rfl, bite (fun he => ?_) fun he => ?_⟩
    · have e0 : pl = [] := by
        cases pl with
        | nil => rfl
        | cons a r => cases he
      have all0 : ∀ r ∈ left, r.getD 0 0 = 0 := fun r hr => by
        obtain ⟨i, hi⟩ := List.mem_iff_getElem?.mp hr
        have hlt := (List.getElem?_eq_some_iff.mp hi).1
        have : i ∉ pl := by rw [e0]; exact fun h => by cases h
        rw [hpl, List.mem_filter] at this
        have e : left.getD i [] = r := by rw [List.getD_eq_getElem?_getD, hi]; rfl
        rw [e] at this
        refine Decidable.byContradiction fun z => this ⟨List.mem_range.mpr hlt, decide_eq_true z⟩
      have z := S.nil s0 (by omega) all0
      refine ⟨q, _, rfl, by show 2 ≤ sizeLine; decide, ?_⟩
      refine k steps 0 ⟨.inl rfl, fun _ => z.symm, fun st h => ?_⟩
      obtain ⟨r, e⟩ := hlast st h
      exact ⟨bf, r, e, by rw [Int.zero_mul]; exact z.symm⟩
    · obtain ⟨c0, tl, e0⟩ : ∃ c0 tl, pl = c0 :: tl := by
        cases pl with
        | nil => cases he
        | cons a r => exact ⟨a, r, rfl⟩
      have hc : c0 ∈ pl := by rw [e0]; exact List.mem_cons_self
      rw [hpl, List.mem_filter, List.mem_range, decide_eq_true_eq] at hc
      obtain ⟨hc1, hc2⟩ := hc
      obtain ⟨st, hst0⟩ : ∃ st, left[c0]? = some st := ⟨left[c0], List.getElem?_eq_getElem hc1⟩
      have est : left.getD c0 [] = st := by rw [List.getD_eq_getElem?_getD, hst0]; rfl
      rw [est] at hc2
      have lst := hrows st (List.mem_of_getElem? hst0)
      have c8 : c0 < 8 := by clear sbf sml; omega
      obtain ⟨pv, sr, rfl⟩ : ∃ pv sr, st = pv :: sr := by
        cases st with
        | nil =>
          simp only [List.length_nil] at lst
          omega
        | cons a r => exact ⟨a, r, rfl⟩
      have hpv : pv ≠ 0 := hc2
      have S1 := S.pop hst0
      obtain ⟨S2, hkn⟩ := S1.step rfl hpv
      rw [e0]
      refine ⟨p, _, rfl, _, rfl, _, (0 : Int), .int (c0 : Nat), rfl, rfl, Fw.atI_nat (j := 0) rfl, left.map li, (c0 : Int), c0, li (pv :: sr), rfl, rfl, by omega, by omega, ?_, by rw [List.getElem?_map, hst0]; rfl, ?_⟩
      · rw [List.length_map]
        exact PyProof.Rows.seqIndex_at (Int.natCast_nonneg c0) (by omega)
      obtain ⟨s', es'⟩ : ∃ s', s' = Dt.sg c0 * s := ⟨_, rfl⟩
      have hs' : s' = 1 ∨ s' = -1 := by
        rw [es', sg_cases]
        rcases hs with rfl | rfl <;> split <;> decide
      rw [← es'] at S2
      refine sSeq_cut (I := fun ρ => ρ = [some (.dat (tbD bb c T)), some (.gro p ((left.eraseIdx c0).map li)), none, some (.gro q (steps.map li)), some (.dat (.int s')), some (.dat (.int bf)), some (.dat (.lst ((c0 :: tl).map fun i : Nat => Da.int (i : Nat)))), none, some (.dat (li (pv :: sr)))]) ?_ ?_
      · refine ⟨_, rfl, _, (0 : Int), .int (c0 : Nat), rfl, rfl, Fw.atI_nat (j := 0) rfl, _, _, rfl, rfl, trivial, _, rfl, ?_⟩
        rw [and1 c0 c8]
        have em : (left.map li).eraseIdx c0 = (left.eraseIdx c0).map li := by simp only [List.eraseIdx_eq_take_drop_succ, List.map_append, List.map_take, List.map_drop]
        rw [em]
        refine bite (fun ho => ?_) fun ho => ?_
        · have es : s' = -s := by
            rw [es', sg_cases, if_pos (of_decide_eq_true ho)]
            omega
          rw [es]
          exact ⟨_, rfl, _, rfl, rfl⟩
        · have es : s' = s := by
            rw [es', sg_cases, if_neg (of_decide_eq_false ho)]
            omega
          rw [es]
          rfl
      rintro _ rfl
      have pvs : Sml pv := sml _ (List.mem_of_getElem? hst0) pv List.mem_cons_self
      have srs : ∀ x ∈ sr, Sml x := fun x hx => sml _ (List.mem_of_getElem? hst0) x (List.mem_cons_of_mem _ hx)
      refine ⟨p, _, rfl, _, rfl, ?_⟩
      refine lcP_all li (fun r => li (Dt.clr pv (r.getD 0 0) bf (r.drop 1) sr)) (fun r hr => ?_) (by have := List.length_eraseIdx_le left c0; rw [sizeLine_eq]; omega) ?_
      · have hrm := List.mem_of_mem_eraseIdx hr
        have lr := hrows r hrm
        obtain ⟨r0, r', rfl⟩ : ∃ r0 r', r = r0 :: r' := by
          cases r with
          | nil =>
            simp only [List.length_nil] at lr
            clear sbf sml
            omega
          | cons a r => exact ⟨a, r, rfl⟩
        have dv := S1.dvd rfl _ hr
        refine ⟨_, rfl, _, rfl, _, rfl, pv, r0, bf, r', sr, rfl, ?_, S.bn, sbf, pvs, sml _ hrm r0 List.mem_cons_self, fun x hx => sml _ hrm x (List.mem_cons_of_mem _ hx), srs, dv, rfl, rfl⟩
        rw [List.length_cons] at lr
        clear sbf sml
        omega
      intro p2 hp2
      refine ⟨_, rfl, _, (0 : Int), .int pv, rfl, rfl, at0 _ _, q, _, rfl, _, rfl, _, rfl, by rw [List.length_map, hst, sizeLine_eq]; clear sbf sml; omega, ?_⟩
      refine ⟨left.length - 1, by omega, p2, q, (left.eraseIdx c0).map fun r => Dt.clr pv (r.getD 0 0) bf (r.drop 1) sr, steps ++ [pv :: sr], s', pv, k0 + 1, none, some (.dat (.lst ((c0 :: tl).map fun i : Nat => Da.int (i : Nat)))), none, some (.dat (li (pv :: sr))), ?_, ?_, S2, hs', ?_, ?_⟩
      · rw [List.map_append, List.map_map]
        rfl
      · rw [List.length_map, List.length_eraseIdx_of_lt hc1]
      · rw [List.length_append, hst]
        rfl
      · intro st h
        rw [List.getLast?_append] at h
        simp at h
        exact ⟨sr, h.symm⟩
  · have e0 : left = [] := by
      cases left with
      | nil => rfl
      | cons a r => cases hb
    subst e0
    have ek : k0 = T.length := by
      have hlen : 0 = T.length - k0 := hlen
      omega
    subst ek
    refine ⟨q, _, rfl, _, rfl, by show 2 ≤ sizeLine; decide, ?_⟩
    have z := S.fin hs
    refine k steps s ⟨.inr hs, fun e => ?_, fun st h => ?_⟩
    · rw [e] at hst
      have h0 : T = [] := List.length_eq_zero_iff.mp hst.symm
      subst h0
      obtain ⟨ord, bk, R, _, _⟩ := S.ex
      have ebf : bf = 1 := R.bf
      rw [ebf, Int.mul_one] at z
      exact z.symm
    · obtain ⟨r, e⟩ := hlast st h
      exact ⟨bf, r, e, z.symm⟩
end
end Fv

namespace Fv
open PySem PySem.Spec PyProof.Rows L2 Fr Fw Fs
structure ErTb (P : Program) (w : World) (K : Frag) (mg : Str → Option Value) (base : Heap) (T : Xt) (c9 : Addr) : Prop where
  t9 : T 9 = (c9, none)
  g9 : mg "BadTable" = some (.ref c9)
  k9 : PySem.W.keepIn K (.ref c9) = true
  q9 : PySem.W.excIn K c9 [.type "ValueError", .type "Exception", .type "BaseException", .type "object"] "ValueError.__new__" = true
  b9 : PySem.W.subIn K (.ref c9) (.type "BaseException") = some true
  y9 : PySem.W.typeIn K (.ref c9) = some (.type "type")
section
variable {P : Program} {w : World} {L : Ly} {T : Xt} {mg : Str → Option Value} {base : Heap} {f : Addr} {fd : FuncData} {c9 : Addr}
def eTb : Ed := ⟨9, []⟩
abbrev s_determinant : Stmt := topS 8
theorem sc_determinant : FnScope ["table", "steps", "sign"] ["table"] (C8.fnScope s_determinant) := C8.fnScope_by (by decide +kernel)
def fDet : Pe := ⟨fun xs k x => ∃ d, xs = [d] ∧ KnT d ∧ (sqB d = false → x eTb) ∧ (sqB d = true → ∃ b c T, d = tbD b c T ∧ T.length ≤ 7 ∧ Sq T ∧ Bd T ∧ k (.dat (.int (detL T)))), by
  rintro xs k k' x x' hk hx ⟨d, a1, a2, a3, a4⟩
  exact ⟨d, a1, a2, fun e => hx _ (a3 e), fun e => let ⟨b, c, T, b1, b2, b3, b4, b5⟩ := a4 e; ⟨b, c, T, b1, b2, b3, b4, hk _ b5⟩⟩⟩
theorem ok_determinant (Fd : C8.Def L.K mg "determinant" s_determinant f fd) (b : Binds L.K fd ["table"] []) (B : Bw mg) (TN : ErTb P w L.K mg base T c9) (c_is_square : CalG P w L.K mg base C8.CX0 3 "_is_square" (spF L fSqr)) (c_stepped : CalG P w L.K mg base C8.CX0 2 "stepped" (spF L fSte)) :
    CalG P w L.K mg base (L2.CX P w) 4 "determinant" (spE L T fDet) := by
  have sc := sc_determinant
  refine calE (n := 2) Fd b sc ?_ (fun vs h => start_eq (by rw [h]; rfl)) fun cdv A outer s G H E hr hgu tk => ?_
  · rintro ds k x ⟨d, rfl, _⟩
    rfl
  refine ⟨_, x_seq (x_if (ps_if (w_notT (pt_not (w_val (pt_val (w_call c_is_square hr (by decide) hgu rfl (w_cons (w_v (pv 0)) w_nil))))))
   (x_one (x_raise0 (n := 9) (by rw [TN.t9]) (by rw [show (T 9).1 = _ from congrArg Prod.fst TN.t9]; exact ps_raise rfl tk (pmk_own PySem.F.excBase_ValueError TN.q9 TN.g9 TN.k9 (raises_own TN.b9 TN.y9) rfl))))
   (x_nil pss_nil)))
  (x_seq (x_up (w_asg (snd_tgTup (n := 2) (snd_tgCons snd_tgN (snd_tgCons snd_tgN snd_tgNil))) (ps_asg (w_call c_stepped hr (by decide) hgu rfl (w_cons (w_v (pv 0)) w_nil)) (pg_tup (n := 2) (by rfl) (pgs_cons (pg_name (i := 1) sc.nd rfl (by first | exact Or.inl rfl | exact Or.inr rfl)) (pgs_cons (pg_name (i := 2) sc.nd rfl (by first | exact Or.inl rfl | exact Or.inr rfl)) pgs_nil))))))
  (x_seq (x_up (w_if (ps_if (w_notT (pt_not (w_truL rfl (pt_truth (w_v (pv 1)) (fun _ => rfl)))))
    (w_one (w_ret (ps_ret (w_v (pv 2)))))
    (w_snil pss_nil))))
  (x_one (x_up (w_ret (ps_ret (w_op op_mul snd_mul (w_v (pv 2)) (w_ix ix_list snd_ix (w_ix ix_list snd_ix (w_v (pv 1)) (w_neg (pe_un un_neg (w_int (kd := 0) pe_int))) (fun _ _ => rfl)) (w_int (kd := 0) pe_int) (fun _ _ => rfl))))))))), ?_⟩
  rintro ds kk xx ⟨d, rfl, hk, h1, h2⟩
  refine ⟨_, rfl, d, rfl, hk, _, rfl, bite (fun z => h1 (by simpa using z)) fun z => ?_⟩
  obtain ⟨bb, c, T, rfl, hl, hn, hB, k⟩ := h2 (by simpa using z)
  refine ⟨_, rfl, bb, c, T, rfl, hl, hn, hB, fun steps sign hs => ?_⟩
  obtain ⟨s0, s1, s2⟩ := hs
  refine ⟨_, rfl, rfl, _, _, rfl, _, _, rfl, rfl, ?_⟩
  refine ⟨_, rfl, _, .inl rfl, bite (fun he => ?_) fun he => ?_⟩
  · have e0 : steps = [] := by
      cases steps with
      | nil => rfl
      | cons a r => cases he
    refine ⟨_, rfl, ?_⟩
    rw [s1 e0]
    exact k
  · have hne : steps ≠ [] := fun e => by subst e; cases he
    obtain ⟨st, hst⟩ : ∃ st, steps.getLast? = some st := ⟨steps.getLast hne, List.getLast?_eq_some_getLast hne⟩
    obtain ⟨x, r, rfl, hx⟩ := s2 st hst
    have hp : 0 < steps.length := List.length_pos_iff.mpr hne
    have il : ixN (steps.map li).length (-1) = some (steps.length - 1) := by
      rw [List.length_map]
      unfold ixN
      rw [if_neg (by decide), if_pos (by omega)]
      congr 1
      omega
    have al : L2.atI (steps.map li) (-1) = some (li (x :: r)) := by
      unfold L2.atI
      rw [il]
      show (steps.map li)[steps.length - 1]? = _
      rw [List.getElem?_map, ← List.getLast?_eq_getElem?, hst]
      rfl
    refine ⟨_, rfl, _, rfl, _, rfl, _, (-1 : Int), li (x :: r), rfl, rfl, al, _, (0 : Int), .int x, rfl, rfl, Fw.atI_nat (j := 0) rfl, _, _, rfl, rfl, .inl ?_, ?_⟩
    · rcases s0 with rfl | rfl | rfl <;> exact ⟨by decide, by decide⟩
    · show kk (.dat (.int (sign * x)))
      rw [hx]
      exact k
end
end Fv

namespace Dt
variable {n : Nat} {b bk : Ve → Ve → Int} {W : List Ve} {before : Int} {L : List Sq} {C : Nat}
def inPW (W : List Ve) (L : List Sq) (u : Ve) : Prop := u ∈ W ∨ ∃ s ∈ L, u = s.p
structure SJ (n : Nat) (b : Ve → Ve → Int) (W : List Ve) (bk : Ve → Ve → Int) (before : Int) (L : List Sq) (C : Nat) : Prop where
  si : SI n b W bk before L
  bl : (∀ v, Lin fun u => b u v) ∧ ∀ u v, b u v = b v u
  bd : ∀ u v, inPW W L u → inPW W L v → (b u v).natAbs ≤ C
theorem grw_at {i j : Nat} {u v : Ve} (hi : W[i]? = some u) (hj : W[j]? = some v) : ((grw bk W).getD i []).getD j 0 = bk u v := by
  unfold grw
  rw [List.getD_eq_getElem?_getD, List.getD_eq_getElem?_getD, List.getElem?_map, hi]
  show ((W.map fun v => bk u v)[j]?).getD 0 = _
  rw [List.getElem?_map, hj]
  rfl
theorem grw_len : (grw bk W).length = W.length := by simp [grw]
theorem grw_sq : ∀ r ∈ grw bk W, r.length = (grw bk W).length := by
  intro r hr
  obtain ⟨u, _, rfl⟩ := List.mem_map.mp hr
  simp [grw]
theorem SJ.val (S : SJ n b W bk before L C) (hn : n ≤ 7) (hC : C ≤ 2 ^ 200) {u v : Ve} (hu : u ∈ W) (hv : v ∈ W) : (bk u v).natAbs < 2 ^ 4000 := by
  obtain ⟨p, R, hp⟩ := S.si.rel
  have := R.eq 0 (fun _ => u) (fun _ => v)
  rw [det_one, Int.pow_zero, Int.one_mul] at this
  rw [this]
  have hc := S.si.cnt
  refine det_lt (n := L.length + (0 + 1)) (by omega) fun i j => Nat.le_trans (S.bd _ _ ?_ ?_) hC
  · unfold ap
    split
    · rename_i h
      obtain ⟨s, h1, h2⟩ := hp i h
      exact .inr ⟨s, h1, h2⟩
    · exact .inl hu
  · unfold ap
    split
    · rename_i h
      obtain ⟨s, h1, h2⟩ := hp j h
      exact .inr ⟨s, h1, h2⟩
    · exact .inl hv
theorem SJ.bef (S : SJ n b W bk before L C) (hn : n ≤ 7) (hC : C ≤ 2 ^ 200) : before ≠ 0 ∧ before.natAbs < 2 ^ 4000 := by
  obtain ⟨p, R, hp⟩ := S.si.rel
  refine ⟨R.ne, ?_⟩
  rw [R.bf]
  have hc := S.si.cnt
  have e : det L.length (fun i j => b (p i) (p j)) = det L.length fun i j => if i < L.length ∧ j < L.length then b (p i) (p j) else 0 := det_congr fun i j hi hj => by rw [if_pos ⟨hi, hj⟩]
  rw [e]
  refine det_lt (by omega) fun i j => ?_
  split
  · rename_i h
    obtain ⟨s, h1, h2⟩ := hp i h.1
    obtain ⟨t, h3, h4⟩ := hp j h.2
    exact Nat.le_trans (S.bd _ _ (.inr ⟨s, h1, h2⟩) (.inr ⟨t, h3, h4⟩)) hC
  · exact Nat.zero_le _
theorem SJ.dvd (S : SJ n b W bk before L C) (p u v : Ve) : before ∣ bk p p * bk u v - bk u p * bk p v := by
  obtain ⟨pp, R, _⟩ := S.si.rel
  obtain ⟨z, hz⟩ := R.dvd p u p v
  exact ⟨z, hz⟩
theorem SJ.step (S : SJ n b W bk before L C) {i : Nat} {p : Ve} (hp : W[i]? = some p) (ne : bk p p ≠ 0) : ∃ L' : List Sq, SJ n b (W.eraseIdx i) (fun u v => (bk p p * bk u v - bk u p * bk p v) / before) (bk p p) L' C ∧
    pos L' = pos L + (if (0 < bk p p ↔ 0 < before) then 1 else 0) ∧ neg L' = neg L + (if (0 < bk p p ↔ 0 < before) then 0 else 1) := by
  obtain ⟨w, S2, h1, h2, h3, h4⟩ := S.si.step hp ne
  have hlt : i < W.length := (List.getElem?_eq_some_iff.mp hp).1
  have hpm : p ∈ W := List.mem_of_getElem? hp
  have inn : ∀ u, inPW (W.eraseIdx i) (scl (bk p p * bk p p) L ++ [⟨w, fun u => bk u p, p⟩]) u → inPW W L u := fun u hu => by
    rcases hu with hu | ⟨s, hs, e⟩
    · exact .inl (List.mem_of_mem_eraseIdx hu)
    · rcases List.mem_append.mp hs with hs | hs
      · obtain ⟨t, ht, e2⟩ := List.mem_map.mp hs
        subst e2
        exact .inr ⟨t, ht, e⟩
      · rw [List.mem_singleton.mp hs] at e
        exact .inl (by rw [e]; exact hpm)
  refine ⟨_, ⟨S2, S.bl, fun u v hu hv => S.bd u v (inn u hu) (inn v hv)⟩, ?_, ?_⟩
  · rw [h1]
    congr 1
    by_cases q : 0 < w
    · rw [if_pos q, if_pos (h3.mp q)]
    · rw [if_neg q, if_neg fun z => q (h3.mpr z)]
  · rw [h2]
    congr 1
    by_cases q : 0 < w
    · rw [if_neg (by omega), if_pos (h3.mp q)]
    · rw [if_pos (by omega), if_neg fun z => q (h3.mpr z)]
theorem SJ.mix (S : SJ n b W bk before L C) {i j : Nat} {u v : Ve} (hi : W[i]? = some u) (hj : W[j]? = some v) (ne : i ≠ j) : SJ n b (W.set i (vadd u v)) bk before L (4 * C) := by
  have um := List.mem_of_getElem? hi
  have vm := List.mem_of_getElem? hj
  have inn : ∀ x, inPW (W.set i (vadd u v)) L x → inPW W L x ∨ x = vadd u v := fun x hx => by
    rcases hx with hx | h
    · exact (List.mem_or_eq_of_mem_set hx).imp .inl id
    · exact .inl (.inr h)
  have add1 : ∀ x y z, b (vadd x y) z = b x z + b y z := fun x y z => (S.bl.1 z).add x y
  have add2 : ∀ x y z, b z (vadd x y) = b z x + b z y := fun x y z => by rw [S.bl.2, add1, S.bl.2 x, S.bl.2 y]
  refine ⟨S.si.mix hi hj ne, S.bl, fun x y hx hy => ?_⟩
  rcases inn x hx with hx | rfl <;> rcases inn y hy with hy | rfl
  · have := S.bd x y hx hy
    omega
  · rw [add2]
    have a1 := S.bd x u hx (.inl um)
    have a2 := S.bd x v hx (.inl vm)
    have := Int.natAbs_add_le (b x u) (b x v)
    omega
  · rw [add1]
    have a1 := S.bd u y (.inl um) hy
    have a2 := S.bd v y (.inl vm) hy
    have := Int.natAbs_add_le (b u y) (b v y)
    omega
  · rw [add1, add2, add2]
    have a1 := S.bd u u (.inl um) (.inl um)
    have a2 := S.bd u v (.inl um) (.inl vm)
    have a3 := S.bd v u (.inl vm) (.inl um)
    have a4 := S.bd v v (.inl vm) (.inl vm)
    have b1 := Int.natAbs_add_le (b u u) (b u v)
    have b2 := Int.natAbs_add_le (b v u) (b v v)
    have b3 := Int.natAbs_add_le (b u u + b u v) (b v u + b v v)
    omega
def frm (n : Nat) (M : Mx) (u v : Ve) : Int := sm n fun i => u i * sm n fun j => M i j * v j
def unit (i : Nat) : Ve := fun j => if j = i then 1 else 0
theorem sm_pick {n i : Nat} {f : Nat → Int} (h : i < n) : sm n (fun j => (if j = i then 1 else 0) * f j) = f i := by
  induction n with
  | zero => omega
  | succ n ih =>
    show sm n _ + _ = _
    by_cases q : i = n
    · subst q
      rw [sm_zero fun j hj => by rw [if_neg (by omega), Int.zero_mul]]
      simp only [if_pos]
      omega
    · rw [ih (by omega)]
      simp only []
      rw [if_neg (by omega)]
      omega
theorem frm_unit {M : Mx} {n i j : Nat} (hi : i < n) (hj : j < n) : frm n M (unit i) (unit j) = M i j := by
  unfold frm unit
  rw [sm_pick (f := fun a => sm n fun b => M a b * if b = j then 1 else 0) hi]
  have e : sm n (fun b => M i b * if b = j then 1 else 0) = sm n fun b => (if b = j then 1 else 0) * M i b := sm_congr fun b _ => by rw [Int.mul_comm]
  rw [e, sm_pick hj]
theorem frm_lin (n : Nat) (M : Mx) (v : Ve) : Lin fun u => frm n M u v := by
  refine ⟨fun u u' => ?_, fun x u => ?_⟩
  · unfold frm vadd
    rw [← sm_add]
    exact sm_congr fun i _ => by rw [Int.add_mul]
  · unfold frm vsmul
    rw [← sm_mul]
    exact sm_congr fun i _ => by rw [Int.mul_assoc]
theorem sm_swap {f : Nat → Nat → Int} : ∀ {n m : Nat}, sm n (fun i => sm m fun j => f i j) = sm m fun j => sm n fun i => f i j
  | 0, m => (sm_zero fun _ _ => rfl).symm
  | n + 1, m => by
    show sm n _ + sm m (fun j => f n j) = sm m fun j => sm n (fun i => f i j) + f n j
    rw [sm_swap (n := n), ← sm_add]
theorem frm_sym {n : Nat} {M : Mx} (h : ∀ i j, i < n → j < n → M i j = M j i) (u v : Ve) : frm n M u v = frm n M v u := by
  have e : ∀ u v, frm n M u v = sm n fun i => sm n fun j => u i * (M i j * v j) := fun u v => sm_congr fun i _ => (sm_mul (u i)).symm
  rw [e, e, sm_swap]
  exact sm_congr fun i hi => sm_congr fun j hj => by rw [h j i hj hi]; grind
theorem si0 {n : Nat} {M : Mx} (h : ∀ i j, i < n → j < n → M i j = M j i) : SI n (frm n M) ((List.range n).map unit) (frm n M) 1 [] := by
  refine ⟨frm_lin n M, frm_sym h, ⟨fun _ => vz, rel0 _ _, fun i hi => absurd hi (Nat.not_lt_zero i)⟩, fun s hs => (by cases hs), .nil, ⟨1, 1, by decide, by decide, fun v => by simp [sqs]⟩, by simp, ⟨fun s hs => (by cases hs), fun u hu => ?_⟩, fun v hv => ?_⟩
  · obtain ⟨i, hi, rfl⟩ := List.mem_map.mp hu
    have hi := List.mem_range.mp hi
    intro j hj
    unfold unit
    rw [if_neg (by omega)]
  · have key : ∀ m, m ≤ n → Spn (fun u => u ∈ (List.range n).map unit ∨ ∃ s ∈ ([] : List Sq), u = s.p) (fun i => if i < m then v i else 0) := by
      intro m
      induction m with
      | zero => intro _; exact (show (fun i => if i < 0 then v i else 0) = vz by funext i; simp [vz]) ▸ Spn.z
      | succ m ih =>
        intro hm
        have e : (fun i => if i < m + 1 then v i else 0) = vadd (fun i => if i < m then v i else 0) (vsmul (v m) (unit m)) := by
          funext i
          show (if i < m + 1 then v i else 0) = (if i < m then v i else 0) + v m * (if i = m then 1 else 0)
          by_cases q : i = m
          · subst q
            rw [if_pos (by omega), if_neg (by omega), if_pos rfl]
            omega
          · by_cases q2 : i < m
            · rw [if_pos (by omega), if_pos q2, if_neg q]
              omega
            · rw [if_neg (by omega), if_neg q2, if_neg q]
              omega
        rw [e]
        exact .add (ih (by omega)) (.mul _ (.of (.inl (List.mem_map.mpr ⟨m, List.mem_range.mpr (by omega), rfl⟩))))
    have e : v = fun i => if i < n then v i else 0 := by
      funext i
      split
      · rfl
      · exact hv i (by omega)
    rw [e]
    exact key n (Nat.le_refl _)
theorem sj0 {T : List (List Int)} (hn : T.length ≤ 7) (hs : ∀ r ∈ T, r.length = T.length) (h : ∀ i j, i < T.length → j < T.length → mx T i j = mx T j i) (hb : ∀ a b, (mx T a b).natAbs ≤ 2 ^ 180) :
    SJ T.length (frm T.length (mx T)) ((List.range T.length).map unit) (frm T.length (mx T)) 1 [] (2 ^ 180) ∧ grw (frm T.length (mx T)) ((List.range T.length).map unit) = T := by
  refine ⟨⟨si0 h, ⟨frm_lin _ _, frm_sym h⟩, fun u v hu hv => ?_⟩, ?_⟩
  · rcases hu with hu | ⟨s, hs, _⟩
    · rcases hv with hv | ⟨s, hs, _⟩
      · obtain ⟨i, hi, rfl⟩ := List.mem_map.mp hu
        obtain ⟨j, hj, rfl⟩ := List.mem_map.mp hv
        rw [frm_unit (List.mem_range.mp hi) (List.mem_range.mp hj)]
        exact hb i j
      · cases hs
    · cases hs
  · unfold grw
    rw [List.map_map]
    refine List.ext_getElem (by simp) fun i h1 h2 => ?_
    have hl := hs _ (List.getElem_mem h2)
    rw [List.getElem_map, List.getElem_range]
    refine List.ext_getElem (by simp [hl]) fun j h3 h4 => ?_
    have hj : j < T.length := by rw [← hl]; exact h4
    show ((List.map (fun v => frm T.length (mx T) (unit i) v) ((List.range T.length).map unit)))[j] = _
    rw [List.getElem_map, List.getElem_map, List.getElem_range, frm_unit h2 hj]
    unfold mx
    rw [List.getD_eq_getElem?_getD, List.getD_eq_getElem?_getD, List.getElem?_eq_getElem h2]
    show (T[i][j]?).getD 0 = _
    rw [List.getElem?_eq_getElem h4]
    rfl
end Dt

namespace Fw
open PySem PySem.Spec PyProof.Rows L2 Fr
theorem sSeq_cut2 {g h R : Ps} {ρ : En} {nx : En → Prop} {rt : Da → En → Prop} {br ct : En → Prop} (I : En → Prop) (h1 : g.f ρ (fun r => h.f r I rt br ct) rt br ct) (h2 : ∀ ρ', I ρ' → R.f ρ' nx rt br ct) : (sSeq g (sSeq h R)).f ρ nx rt br ct :=
  g.mono (fun r q => h.mono (fun r' h' => h2 r' h') (fun _ _ z => z) (fun _ z => z) (fun _ z => z) q) (fun _ _ z => z) (fun _ z => z) (fun _ z => z) h1
end Fw
namespace Fv
open PySem PySem.Spec PyProof.Rows L2 Fr Fw Fs
theorem putR_set {T : List (List Int)} {i : Nat} {x : List Int} (h : i < T.length) : putR T i x = T.set i x := by
  unfold putR
  rw [List.set_eq_take_append_cons_drop, if_pos h]
theorem putN_set {r : List Int} {i : Nat} {x : Int} (h : i < r.length) : putN r i x = r.set i x := by
  unfold putN
  rw [List.set_eq_take_append_cons_drop, if_pos h]
theorem mapD {α β : Type} {W : List α} {f : α → β} {i : Nat} {u : α} {d : β} (h : W[i]? = some u) : (W.map f).getD i d = f u := by
  rw [List.getD_eq_getElem?_getD, List.getElem?_map, h]
  rfl
theorem map_era {α β : Type} (f : α → β) (W : List α) (i : Nat) : (W.map f).eraseIdx i = (W.eraseIdx i).map f := by
  simp only [List.eraseIdx_eq_take_drop_succ, List.map_append, List.map_take, List.map_drop]
theorem gw_wp {bk : Dt.Ve → Dt.Ve → Int} {W : List Dt.Ve} {i j : Nat} {u v : Dt.Ve} (h1 : ∀ c, Dt.Lin fun a => bk a c) (h2 : ∀ a c, bk a c = bk c a) (hi : W[i]? = some u) (hj : W[j]? = some v) : wpF (Dt.grw bk W) i j = Dt.grw bk (W.set i (Dt.vadd u v)) := by
  have hlt := (List.getElem?_eq_some_iff.mp hi).1
  unfold wpF Dt.grw
  rw [mapD hi, mapD hj]
  have e1 : List.zipWith (· + ·) (W.map fun c => bk u c) (W.map fun c => bk v c) = W.map fun c => bk (Dt.vadd u v) c := by
    rw [List.zipWith_map, List.zipWith_self]
    refine List.map_congr_left fun c _ => ?_
    exact ((h1 c).add u v).symm
  rw [e1, putR_set (by rw [List.length_map]; exact hlt), ← List.map_set (f := fun a => W.map fun c => bk a c), List.map_map]
  refine List.map_congr_left fun a _ => ?_
  show putN (W.map fun c => bk a c) i ((W.map fun c => bk a c).getD i 0 + (W.map fun c => bk a c).getD j 0) = _
  rw [mapD hi, mapD hj, putN_set (by rw [List.length_map]; exact hlt), List.map_set]
  congr 1
  rw [h2 a u, h2 a v, h2 a (Dt.vadd u v)]
  exact ((h1 a).add u v).symm
theorem gw_wo {bk : Dt.Ve → Dt.Ve → Int} {W : List Dt.Ve} {i : Nat} {p : Dt.Ve} {bf : Int} (hi : W[i]? = some p) : woF (Dt.grw bk W) i bf = Dt.grw (fun u v => (bk p p * bk u v - bk u p * bk p v) / bf) (W.eraseIdx i) := by
  unfold woF atT Dt.grw
  rw [map_era, List.map_map, mapD hi, mapD hi]
  refine List.map_congr_left fun a _ => ?_
  show (Dt.clr (bk p p) ((W.map fun c => bk a c).getD i 0) bf (W.map fun c => bk a c) (W.map fun c => bk p c)).eraseIdx i = _
  rw [mapD hi, ← map_era]
  congr 1
  unfold Dt.clr
  rw [List.zipWith_map, List.zipWith_self]
theorem atW {bk : Dt.Ve → Dt.Ve → Int} {W : List Dt.Ve} {i j : Nat} {u v : Dt.Ve} (hi : W[i]? = some u) (hj : W[j]? = some v) : atT (Dt.grw bk W) i j = bk u v := Dt.grw_at hi hj
theorem eqv_bb (a b : Bool) : PyData.eqv (.bool a) (.bool b) = (a == b) := by
  cases a <;> cases b <;> simp [PyData.eqv]
theorem iff_bb {p q : Prop} [Decidable p] [Decidable q] : (decide p == decide q) = decide (p ↔ q) := by
  by_cases h1 : p <;> by_cases h2 : q <;> simp [h1, h2]
section
variable {P : Program} {w : World} {L : Ly} {T : Xt} {mg : Str → Option Value} {base : Heap} {f : Addr} {fd : FuncData} {c9 : Addr}
def qf (T : List (List Int)) (v : Dt.Ve) : Int := Dt.frm T.length (Dt.mx T) v v
def Bd2 (T : List (List Int)) : Prop := ∀ r ∈ T, ∀ x ∈ r, x.natAbs ≤ 2 ^ 180
theorem Bd2.mx {T : List (List Int)} (h : Bd2 T) (a b : Nat) : (Dt.mx T a b).natAbs ≤ 2 ^ 180 := by
  have key : ∀ (r : List Int), (∀ x ∈ r, x.natAbs ≤ 2 ^ 180) → (r.getD b 0).natAbs ≤ 2 ^ 180 := fun r hr => by
    rw [List.getD_eq_getElem?_getD]
    cases e : r[b]? with
    | none => exact Nat.zero_le _
    | some x => exact hr x (List.mem_of_getElem? e)
  unfold Dt.mx
  refine key _ ?_
  rw [List.getD_eq_getElem?_getD]
  cases e : T[a]? with
  | none => exact fun x hx => by cases hx
  | some r => exact h r (List.mem_of_getElem? e)
theorem tpo_mx {T : List (List Int)} (hn : Sq T) (h : T = tpo T) {i j : Nat} (hi : i < T.length) (hj : j < T.length) : Dt.mx T i j = Dt.mx T j i := by
  have e : Dt.mx T j i = Dt.mx (tpo T) j i := by rw [← h]
  rw [e]
  unfold tpo Dt.mx
  have h1 : (List.range T.length)[j]? = some j := List.getElem?_range hj
  rw [mapD (f := fun j => T.map fun r => r.getD j 0) h1]
  have h2 : T[i]? = some (T.getD i []) := by rw [List.getD_eq_getElem?_getD, List.getElem?_eq_getElem hi]; rfl
  rw [mapD (f := fun r : List Int => r.getD j 0) h2]
abbrev s_sign_counts : Stmt := topS 9
theorem sc_sign_counts : FnScope ["table", "left", "row", "plus", "minus", "before", "at", "pivot"] ["table"] (C8.fnScope s_sign_counts) := C8.fnScope_by (by decide +kernel)
def fSgn : Pe := ⟨fun xs k x => ∃ d, xs = [d] ∧ KnT d ∧ (sqB d = false → x eTb) ∧ (sqB d = true → ∃ b c T, d = tbD b c T ∧ T.length ≤ 7 ∧ Sq T ∧ (T ≠ tpo T → x eTb) ∧ (T = tpo T → Bd2 T ∧ ∀ Ls, Dt.DG T.length (qf T) Ls → k (.dat (.tup [.int (Dt.pos Ls : Nat), .int (Dt.neg Ls : Nat), .int ((T.length - Ls.length : Nat) : Nat)])))), by
  rintro xs k k' x x' hk hx ⟨d, a1, a2, a3, a4⟩
  exact ⟨d, a1, a2, fun e => hx _ (a3 e), fun e => let ⟨b, c, T, b1, b2, b3, b4, b5⟩ := a4 e; ⟨b, c, T, b1, b2, b3, fun z => hx _ (b4 z), fun z => ⟨(b5 z).1, fun Ls q => hk _ ((b5 z).2 Ls q)⟩⟩⟩⟩
theorem fn_sign_counts (Fd : C8.Def L.K mg "sign_counts" s_sign_counts f fd) (b : Binds L.K fd ["table"] []) (B : Bw mg) (By : By mg) (hany : mg "any" = none) (TN : ErTb P w L.K mg base T c9) (c_is_square : CalG P w L.K mg base C8.CX0 3 "_is_square" (spF L fSqr)) (c_is_mirrored : CalG P w L.K mg base C8.CX0 1 "_is_mirrored" (spF L fMir))
    (c_pivot_at : CalG P w L.K mg base C8.CX0 1 "_pivot_at" (spF L fPiv)) (c_with_pivot : CalG P w L.K mg base C8.CX0 1 "_with_pivot" (spF L fWp)) (c_without : CalG P w L.K mg base C8.CX0 2 "_without" (spF L fWo)) :
    FnG P w L.K mg base (L2.CX P w) 4 f fd ["table"] (spE L T fSgn) := by
  have sc := sc_sign_counts
  refine fnE (n := 7) Fd sc ?_ (fun vs h => start_eq (by rw [h]; rfl)) fun cdv A outer s G H E hr hgu tk => ?_
  · rintro ds k x ⟨d, rfl, _⟩
    rfl
  refine ⟨_, x_seq (x_if (ps_if (w_pt (w_or (pw_or (w_notT (pt_not (w_val (pt_val (w_call c_is_square hr (by decide) hgu rfl (w_cons (w_v (pv 0)) w_nil)))))) (pw_or1 (w_notT (pt_not (w_val (pt_val (w_call c_is_mirrored hr (by decide) hgu rfl (w_cons (w_v (pv 0)) w_nil))))))))))
   (x_one (x_raise0 (n := 9) (by rw [TN.t9]) (by rw [show (T 9).1 = _ from congrArg Prod.fst TN.t9]; exact ps_raise rfl tk (pmk_own PySem.F.excBase_ValueError TN.q9 TN.g9 TN.k9 (raises_own TN.b9 TN.y9) rfl))))
   (x_nil pss_nil)))
  (x_seq (x_up (w_setLc (sndv_N (by decide)) (ps_setLc (i := 1) (own := [("row", 2)]) (by rfl) sc.nd rfl (by rfl) (sw_true rfl (by rfl) rfl (by decide +kernel)) (w_ilt (pi_list (pv 0)) (pi_tup (pv 0))) (blkOk_by (by kernel_rfl)) (fun _ _ _ _ _ => (pg_name (i := 2) sc.nd rfl (by first | exact Or.inl rfl | exact Or.inr rfl))) (fun _ _ _ _ _ => w_tnil) (fun _ _ _ _ _ => (w_tCB snd_listOf (pe_callTy call_list_of (by rfl) B.list (by decide +kernel) (w_cons (w_v (pv 2)) w_nil)))))))
  (x_seq (x_up (w_set (ps_set (i := 3) sc.nd rfl (by first | exact Or.inl rfl | exact Or.inr rfl) (w_int (kd := 0) pe_int))))
  (x_seq (x_up (w_set (ps_set (i := 4) sc.nd rfl (by first | exact Or.inl rfl | exact Or.inr rfl) (w_int (kd := 0) pe_int))))
  (x_seq (x_up (w_set (ps_set (i := 5) sc.nd rfl (by first | exact Or.inl rfl | exact Or.inr rfl) (w_int (kd := 0) pe_int))))
  (x_seq (x_up (w_while (ps_while (passes_of rfl) (w_val (pt_val (w_tCB snd_any (pe_callB (cr_any rfl) (by rfl) By.any (by decide +kernel) (w_cons (w_lc (sndv_N (by decide)) (pe_lc (own := [("row", 2)]) (by rfl) sc.nd (w_il (pi_list (w_v (pv 1)))) (blkOk_by (by kernel_rfl)) (fun _ _ _ _ _ => (pg_name (i := 2) sc.nd rfl (by first | exact Or.inl rfl | exact Or.inr rfl))) (fun _ _ _ _ _ => w_tnil) (fun _ _ _ _ _ => (w_tCB snd_anyI (pe_callB (cr_anyI rfl) (by rfl) hany (by decide +kernel) (w_cons (w_v (pv 2)) w_nil)))))) w_nil)))))
    (w_seq (w_set (ps_set (i := 6) sc.nd rfl (by first | exact Or.inl rfl | exact Or.inr rfl) (w_call c_pivot_at hr (by decide) hgu rfl (w_cons (w_v (pv 1)) w_nil))))
     (w_seq (w_if (ps_if (w_cmpT op_isN snd_isN (w_v (pv 6)) (w_non pe_non) (nomark _))
      (w_seq (w_set (ps_set (i := 1) sc.nd rfl (by first | exact Or.inl rfl | exact Or.inr rfl) (w_call c_with_pivot hr (by decide) hgu rfl (w_cons (w_v (pv 1)) w_nil))))
       (w_one (w_set (ps_set (i := 6) sc.nd rfl (by first | exact Or.inl rfl | exact Or.inr rfl) (w_call c_pivot_at hr (by decide) hgu rfl (w_cons (w_v (pv 1)) w_nil))))))
      (w_snil pss_nil)))
     (w_seq (w_set (ps_set (i := 7) sc.nd rfl (by first | exact Or.inl rfl | exact Or.inr rfl) (w_ix ix_list snd_ix (w_ix ix_list snd_ix (w_v (pv 1)) (w_v (pv 6)) (fun _ _ => rfl)) (w_v (pv 6)) (fun _ _ => rfl))))
     (w_seq (w_aug snd_add (ps_aug (i := 3) sc.nd rfl (by first | exact Or.inl rfl | exact Or.inr rfl) (w_ifExp (w_cmpT (op_eqD hr.units) snd_eq (w_cmp op_gt snd_gt (w_v (pv 7)) (w_int (kd := 0) pe_int) (nomark _)) (w_cmp op_gt snd_gt (w_v (pv 5)) (w_int (kd := 0) pe_int) (nomark _)) (nomark _)) (w_int (kd := 0) pe_int) (w_int (kd := 0) pe_int)) iop_add))
     (w_seq (w_aug snd_add (ps_aug (i := 4) sc.nd rfl (by first | exact Or.inl rfl | exact Or.inr rfl) (w_ifExp (w_cmpT (op_neD hr.units) snd_ne (w_cmp op_gt snd_gt (w_v (pv 7)) (w_int (kd := 0) pe_int) (nomark _)) (w_cmp op_gt snd_gt (w_v (pv 5)) (w_int (kd := 0) pe_int) (nomark _)) (nomark _)) (w_int (kd := 0) pe_int) (w_int (kd := 0) pe_int)) iop_add))
     (w_seq (w_set (ps_set (i := 1) sc.nd rfl (by first | exact Or.inl rfl | exact Or.inr rfl) (w_call c_without hr (by decide) hgu rfl (w_cons (w_v (pv 1)) (w_cons (w_v (pv 6)) (w_cons (w_v (pv 5)) w_nil))))))
     (w_one (w_set (ps_set (i := 5) sc.nd rfl (by first | exact Or.inl rfl | exact Or.inr rfl) (w_v (pv 7))))))))))))))
  (x_one (x_up (w_ret (ps_ret (w_tup (w_cons (w_v (pv 3)) (w_cons (w_v (pv 4)) (w_cons (w_tCB snd_len (pe_callB call_len_seq (by rfl) B.len (by decide +kernel) (w_cons (w_v (pv 1)) w_nil))) w_nil))))))))))))), ?_⟩
  rintro ds kk xx ⟨d, rfl, hk, h1, h2⟩
  refine ⟨_, rfl, d, rfl, hk, _, rfl, ?_⟩
  cases hq : sqB d with
  | false => exact h1 hq
  | true =>
  obtain ⟨bb, c, T, rfl, hl, hn, hm1, hm2⟩ := h2 hq
  have kk := kk
  refine ⟨_, rfl, bb, c, T, rfl, hl, hn, _, rfl, ?_⟩
  by_cases hm : T = tpo T
  case neg =>
    rw [decide_eq_false hm]
    exact hm1 hm
  rw [decide_eq_true hm]
  obtain ⟨hB, k⟩ := hm2 hm
  have hd := (tbD_it bb c T).2.2
  refine ⟨T.map (rwE bb), hd.elim (fun e => .inl (by rw [← e]; rfl)) (fun e => .inr (by rw [← e]; rfl)), ?_⟩
  refine lcP_all (rwE bb) li (fun r hr => ⟨_, rfl, r.map Da.int, (rwE_it bb r).2.2.imp (congrArg fun z => [z]) (congrArg fun z => [z]), rfl, rfl⟩) (by rw [sizeLine_eq]; omega) ?_
  obtain ⟨S0, e0⟩ := Dt.sj0 hl hn (fun i j hi hj => tpo_mx hn hm hi hj) hB.mx
  have hC0 : 2 ^ 180 * 4 ^ T.length ≤ 2 ^ 200 := by
    have h1 : 4 ^ T.length ≤ 4 ^ 7 := Nat.pow_le_pow_right (by decide) hl
    have h2 := Nat.mul_le_mul_left (2 ^ 180) h1
    have h3 : 2 ^ 180 * 4 ^ 7 ≤ 2 ^ 200 := by decide +kernel
    omega
  refine ⟨fun m ρ => ∃ (W : List Dt.Ve) (bk : Dt.Ve → Dt.Ve → Int) (bf : Int) (Ls : List Dt.Sq) (C : Nat) (x2 x6 x7 : Option Sl), ρ = [some (.dat (tbD bb c T)), some (.dat (ll (Dt.grw bk W))), x2, some (.dat (.int (Dt.pos Ls : Nat))), some (.dat (.int (Dt.neg Ls : Nat))), some (.dat (.int bf)), x6, x7] ∧
    m = W.length ∧ Dt.SJ T.length (Dt.frm T.length (Dt.mx T)) W bk bf Ls C ∧ C * 4 ^ W.length ≤ 2 ^ 200, ⟨T.length, (List.range T.length).map Dt.unit, Dt.frm T.length (Dt.mx T), 1, [], 2 ^ 180, none, none, none, ?_, by simp, S0, by rw [List.length_map, List.length_range]; exact hC0⟩, ?_⟩
  · rw [e0]
    rfl
  rintro m ρ ⟨W, bk, bf, Ls, C, x2, x6, x7, rfl, rfl, S, hC⟩
  have hcnt := S.si.cnt
  have hwl : W.length ≤ 7 := by omega
  have glen : (Dt.grw bk W).length = W.length := Dt.grw_len
  have gsq : Sq (Dt.grw bk W) := Dt.grw_sq
  have hC2 : C ≤ 2 ^ 200 := Nat.le_trans (Nat.le_mul_of_pos_right _ (Nat.pos_of_ne_zero (by simp))) hC
  refine ⟨_, rfl, (Dt.grw bk W).map li, rfl, ?_⟩
  refine lcP_all li (fun r : List Int => Da.bl (r.any fun n => n != 0)) (fun r hr => ⟨_, rfl, r, rfl, rfl, rfl⟩) (by rw [glen, sizeLine_eq]; omega) ?_
  refine ⟨(Dt.grw bk W).map fun r => r.any fun n => n != 0, by rw [List.map_map]; rfl, _, rfl, bite (fun hb => ?_) fun hb => ?_⟩
  · have some_nz : ∃ i j, i < (Dt.grw bk W).length ∧ j < (Dt.grw bk W).length ∧ atT (Dt.grw bk W) i j ≠ 0 := by
      rw [List.any_map, List.any_eq_true] at hb
      obtain ⟨r, hr, h2⟩ := hb
      obtain ⟨x, hx, h3⟩ := List.any_eq_true.mp (show (r.any fun n => n != 0) = true from h2)
      obtain ⟨i, hi⟩ := List.mem_iff_getElem?.mp hr
      obtain ⟨j, hj⟩ := List.mem_iff_getElem?.mp hx
      have l1 := (List.getElem?_eq_some_iff.mp hi).1
      have l2 := (List.getElem?_eq_some_iff.mp hj).1
      rw [gsq r hr] at l2
      refine ⟨i, j, l1, l2, ?_⟩
      unfold atT
      rw [List.getD_eq_getElem?_getD, List.getD_eq_getElem?_getD, hi]
      show (r[j]?).getD 0 ≠ 0
      rw [hj]
      simpa using h3
    have wat : ∀ i, i < W.length → ∃ u, W[i]? = some u := fun i hi => ⟨W[i], List.getElem?_eq_getElem hi⟩
    refine sSeq_cut2 (fun ρ => ∃ (Wx : List Dt.Ve) (C' : Nat) (i : Nat) (p : Dt.Ve) (x2 x7 : Option Sl), ρ = [some (.dat (tbD bb c T)), some (.dat (ll (Dt.grw bk Wx))), x2, some (.dat (.int (Dt.pos Ls : Nat))), some (.dat (.int (Dt.neg Ls : Nat))), some (.dat (.int bf)), some (.dat (.int (i : Nat))), x7] ∧
      Wx.length = W.length ∧ Dt.SJ T.length (Dt.frm T.length (Dt.mx T)) Wx bk bf Ls C' ∧ C' ≤ 2 ^ 200 ∧ C' * 4 ^ (W.length - 1) ≤ 2 ^ 200 ∧ Wx[i]? = some p ∧ bk p p ≠ 0) ?_ ?_
    · have hC3 : C * 4 ^ (W.length - 1) ≤ 2 ^ 200 := Nat.le_trans (Nat.mul_le_mul_left _ (Nat.pow_le_pow_right (by decide) (Nat.sub_le _ _))) hC
      refine ⟨_, rfl, Dt.grw bk W, rfl, by rw [glen]; omega, gsq, fun i hi hz => ?_, fun hall => ?_⟩
      · refine ⟨_, rfl, rfl, (fun _ _ h => nomatch h), _, rfl, ?_⟩
        rw [glen] at hi
        obtain ⟨p, hp⟩ := wat i hi
        rw [atW hp hp] at hz
        exact ⟨W, C, i, p, _, _, rfl, rfl, S, hC2, hC3, hp, hz⟩
      · refine ⟨_, rfl, rfl, (fun _ _ h => nomatch h), _, rfl, ?_⟩
        refine ⟨_, rfl, Dt.grw bk W, rfl, by rw [glen]; omega, gsq, some_nz, fun a to ha hto hz => ?_⟩
        rw [glen] at ha hto
        obtain ⟨u, hu⟩ := wat a ha
        obtain ⟨v, hv⟩ := wat to hto
        have hne : a ≠ to := fun e => by
          subst e
          exact hz (hall a (by rw [glen]; exact ha))
        rw [atW hu hv] at hz
        have S1 := S.mix hu hv hne
        rw [gw_wp S.si.l1 S.si.sy hu hv]
        have wl2 : (W.set a (Dt.vadd u v)).length = W.length := List.length_set
        have hpow : 4 * C * 4 ^ (W.length - 1) = C * 4 ^ W.length := by
          obtain ⟨m, hm⟩ : ∃ m, W.length = m + 1 := ⟨W.length - 1, by omega⟩
          rw [hm, Nat.add_sub_cancel, Nat.pow_succ, Nat.mul_comm 4 C, Nat.mul_assoc, Nat.mul_comm 4]
        have h4 : 4 * C * 4 ^ (W.length - 1) ≤ 2 ^ 200 := by rw [hpow]; exact hC
        have h4' : 4 * C ≤ 2 ^ 200 := Nat.le_trans (Nat.le_mul_of_pos_right _ (Nat.pos_of_ne_zero (by simp))) h4
        refine ⟨_, rfl, Dt.grw bk (W.set a (Dt.vadd u v)), rfl, by rw [Dt.grw_len, wl2]; omega, Dt.grw_sq, fun i hi hz2 => ?_, fun hall2 => ?_⟩
        · rw [Dt.grw_len] at hi
          obtain ⟨p, hp⟩ : ∃ p, (W.set a (Dt.vadd u v))[i]? = some p := ⟨_, List.getElem?_eq_getElem hi⟩
          rw [atW hp hp] at hz2
          exact ⟨W.set a (Dt.vadd u v), 4 * C, i, p, _, _, rfl, wl2, S1, h4', h4, hp, hz2⟩
        · exfalso
          have hs : (W.set a (Dt.vadd u v))[a]? = some (Dt.vadd u v) := List.getElem?_set_self ha
          have z := hall2 a (by rw [Dt.grw_len, wl2]; exact ha)
          rw [atW hs hs] at z
          have z1 := hall a (by rw [glen]; exact ha)
          have z2 := hall to (by rw [glen]; exact hto)
          rw [atW hu hu] at z1
          rw [atW hv hv] at z2
          have a1 := (S.si.l1 (Dt.vadd u v)).add u v
          have a2 := (S.si.l1 u).add u v
          have a3 := (S.si.l1 v).add u v
          have s1 := S.si.sy u (Dt.vadd u v)
          have s2 := S.si.sy v (Dt.vadd u v)
          have s3 := S.si.sy v u
          omega
    rintro ρ ⟨Wx, C', i, p, y2, y7, rfl, wl, S1, c1, c2, hp, hz⟩
    have hi : i < Wx.length := (List.getElem?_eq_some_iff.mp hp).1
    have glx : (Dt.grw bk Wx).length = Wx.length := Dt.grw_len
    have gsx : Sq (Dt.grw bk Wx) := Dt.grw_sq
    refine ⟨_, rfl, _, rfl, _, (i : Int), _, rfl, rfl, li_at (by rw [glx]; exact hi), _, rfl, _, (i : Int), .int (bk p p), rfl, rfl, ?_, ?_⟩
    · rw [int_at (by rw [gsx.len (by rw [glx]; exact hi), glx]; exact hi)]
      exact congrArg (fun x => some (Da.int x)) (atW hp hp)
    refine sSeq_cut (fun ρ => ρ = [some (.dat (tbD bb c T)), some (.dat (ll (Dt.grw bk Wx))), y2, some (.dat (.int ((Dt.pos Ls + (if (0 < bk p p ↔ 0 < bf) then 1 else 0) : Nat) : Nat))), some (.dat (.int (Dt.neg Ls : Nat))), some (.dat (.int bf)), some (.dat (.int (i : Nat))), some (.dat (.int (bk p p)))]) ?_ ?_
    · refine ⟨_, rfl, _, rfl, _, _, rfl, rfl, trivial, _, rfl, _, _, rfl, rfl, trivial, _, _, rfl, rfl, rfl, rfl, _, rfl, ?_⟩
      rw [eqv_bb, iff_bb]
      refine bite (fun h => ?_) fun h => ?_
      · have e : (if (0 < bk p p ↔ 0 < bf) then 1 else 0) = 1 := if_pos (of_decide_eq_true h)
        rw [e]
        refine ⟨_, _, rfl, rfl, trivial, ?_⟩
        rfl
      · have e : (if (0 < bk p p ↔ 0 < bf) then 1 else 0) = 0 := if_neg (of_decide_eq_false h)
        rw [e]
        refine ⟨_, _, rfl, rfl, trivial, ?_⟩
        rfl
    rintro _ rfl
    refine sSeq_cut (fun ρ => ρ = [some (.dat (tbD bb c T)), some (.dat (ll (Dt.grw bk Wx))), y2, some (.dat (.int ((Dt.pos Ls + (if (0 < bk p p ↔ 0 < bf) then 1 else 0) : Nat) : Nat))), some (.dat (.int ((Dt.neg Ls + (if (0 < bk p p ↔ 0 < bf) then 0 else 1) : Nat) : Nat))), some (.dat (.int bf)), some (.dat (.int (i : Nat))), some (.dat (.int (bk p p)))]) ?_ ?_
    · refine ⟨_, rfl, _, rfl, _, _, rfl, rfl, trivial, _, rfl, _, _, rfl, rfl, trivial, _, _, rfl, rfl, rfl, rfl, _, rfl, ?_⟩
      rw [eqv_bb, iff_bb]
      refine bite (fun h => ?_) fun h => ?_
      · have h : decide (0 < bk p p ↔ 0 < bf) = false := by simpa using h
        have e : (if (0 < bk p p ↔ 0 < bf) then 0 else 1) = 1 := if_neg (of_decide_eq_false h)
        rw [e]
        refine ⟨_, _, rfl, rfl, trivial, ?_⟩
        rfl
      · have h : decide (0 < bk p p ↔ 0 < bf) = true := by simpa using h
        have e : (if (0 < bk p p ↔ 0 < bf) then 0 else 1) = 0 := if_pos (of_decide_eq_true h)
        rw [e]
        refine ⟨_, _, rfl, rfl, trivial, ?_⟩
        rfl
    rintro _ rfl
    obtain ⟨L', S2, q1, q2⟩ := S1.step hp hz
    obtain ⟨b0, sb⟩ := S1.bef hl c1
    have mem : ∀ r ∈ Dt.grw bk Wx, ∃ a ∈ Wx, r = Wx.map fun v => bk a v := fun r hr => by
      obtain ⟨a, ha, rfl⟩ := List.mem_map.mp hr
      exact ⟨a, ha, rfl⟩
    refine ⟨_, rfl, _, rfl, _, rfl, Dt.grw bk Wx, i, bf, rfl, by rw [glx]; omega, gsx, by rw [glx]; exact hi, b0, sb, fun r hr x hx => ?_, fun r hr z hz => ?_, ?_⟩
    · obtain ⟨a, ha, rfl⟩ := mem r hr
      obtain ⟨v, hv, rfl⟩ := List.mem_map.mp hx
      exact S1.val hl c1 ha hv
    · obtain ⟨a, ha, rfl⟩ := mem r hr
      rw [atW hp hp, mapD hp]
      have ep : (Dt.grw bk Wx).getD i [] = Wx.map fun v => bk p v := mapD hp
      rw [ep] at hz
      obtain ⟨j, hj⟩ := List.mem_iff_getElem?.mp hz
      rw [List.getElem?_zip_eq_some, List.getElem?_map, List.getElem?_map] at hj
      obtain ⟨v, hv⟩ : ∃ v, Wx[j]? = some v := by
        cases e : Wx[j]? with
        | none => rw [e] at hj; cases hj.1
        | some v => exact ⟨v, rfl⟩
      rw [hv] at hj
      have z1 : bk a v = z.1 := Option.some.inj hj.1
      have z2 : bk p v = z.2 := Option.some.inj hj.2
      rw [← z1, ← z2]
      exact S1.dvd p a v
    rw [gw_wo hp]
    refine ⟨_, rfl, W.length - 1, by omega, Wx.eraseIdx i, _, bk p p, L', C', y2, some (.dat (.int (i : Nat))), some (.dat (.int (bk p p))), ?_, by rw [List.length_eraseIdx_of_lt hi, wl], S2, by rw [List.length_eraseIdx_of_lt hi, wl]; exact c2⟩
    rw [q1, q2]
    rfl
  · have all0 : ∀ u ∈ W, ∀ v ∈ W, bk u v = 0 := fun u hu v hv => by
      rw [List.any_map, List.any_eq_false] at hb
      have h1 := hb (W.map fun v => bk u v) (List.mem_map.mpr ⟨u, hu, rfl⟩)
      have h2 : ¬ ((W.map fun v => bk u v).any fun n => n != 0) = true := h1
      refine Decidable.byContradiction fun z => h2 (List.any_eq_true.mpr ⟨bk u v, List.mem_map.mpr ⟨v, hv, rfl⟩, by simpa using z⟩)
    have D := S.si.fin all0
    refine ⟨_, rfl, _, rfl, _, rfl, _, .inl rfl, by show 3 ≤ sizeLine; decide, ?_⟩
    have := k Ls D
    rw [List.length_map, glen]
    have e : W.length = T.length - Ls.length := by omega
    rw [e]
    exact this
end
end Fv

namespace Fw
open PySem PySem.Spec PyProof.Rows L2 Fr
section
variable {X : Cx} {L : Ly} {e : Expr}
def zE (g : Pl) (F : Pe) : Pz := ⟨fun ρ k => g.f ρ fun ds ρ1 => F.f ds (fun z => k z ρ1) fun _ => False, fun h => g.mono fun _ _ => F.mono (fun _ => h _ _) fun _ z => z⟩
theorem w_zE {g : Pl} {F : Pe} (p : PE X e (tE0 L F (tWA L g))) : PE X e (tWZ L (zE g F)) := PE.imp p fun σ H Q ⟨B, G, ρ, r0, h⟩ =>
  ⟨B, G, ρ, r0, g.mono (fun xs ρ1 h1 vs G1 H1 r1 s1 d1 => ⟨G1, xs, r1.gh, d1, F.mono (fun z hz => by
    cases z with
    | dat d => exact fun v G' H' gr dv => hz v _ G' H' (r1.go gr) (s1.trans gr.gg) ⟨rfl, dv⟩
    | new ds =>
      intro p us G' H' gr n n' e da
      obtain ⟨R, q1, q2⟩ := r1.made gr n n' e
      exact hz (.ref p) _ G' H' R (s1.trans gr.gg) ⟨p, us, rfl, rfl, q1, q2, da⟩
    | new2 yss =>
      intro p l G' H' gr n nd e e2 dd
      obtain ⟨R, K⟩ := r1.made2 gr n nd e e2 dd
      exact hz (.ref p) _ G' H' R (s1.trans gr.gg) ⟨p, l, rfl, rfl, K⟩
    | any R =>
      intro p o G' H' gr n n' e ro
      obtain ⟨R1, q1, q2⟩ := r1.madeA gr n n' e
      exact hz (.ref p) _ G' H' R1 (s1.trans gr.gg) ⟨p, o, rfl, rfl, q1, q2, ro⟩) (fun _ z => z) h1⟩) h⟩
def rPow := r2I CPow fun i j => .int (i ^ j.toNat)
theorem snd_pow : Snd2 L (rI CPow fun i j => .int (i ^ j.toNat)) rPow := snd_I (fun _ _ h => h) fun _ _ _ => .int _
end
section
variable {X : Cx} {L : Ly} {e : Expr} {st : Stmt}
theorem w_tup2 {i j : Nat} {ga gb : Pz} (hij : i ≠ j) (p : PS X st (tAsg (tTup (tCons (tWZ L ga) (tCons (tWZ L gb) tNil))) (gTup L.K 2 (gCons (gName i) (gCons (gName j) gNil))))) : PS X st (tWS L (sPar i j ga gb)) := PS.imp p fun D σ H ⟨B, G, ρ, r, h⟩ =>
  ⟨B, G, ρ, r, ga.mono (fun z1 ρ1 h1 v B1 G1 H1 r1 s1 d1 => ⟨B1, G1, ρ1, r1, gb.mono (fun z2 ρ2 h2 u B2 G2 H2 r2 s2 d2 => ⟨by show 2 ≤ sizeLine; decide, fun p hp => by
    have rl := r2.lay (o := .tup [v, u]) hp
    have sl := same_upd (o := .tup [v, u]) (r2.gh.free hp)
    refine ⟨p, [v, u], rfl, .inl (.inl upd_same), rfl, _, _, rfl, _, _, rfl, rfl, ?_⟩
    obtain ⟨ρ3, r3, h3⟩ := rl.sto (d2.same sl) h2
    obtain ⟨ρ4, r4, h4⟩ := r3.sto (d1.same (s2.trans sl)) h3
    rw [List.set_comm _ _ hij]
    exact h4 _ _ _ r4 (s1.trans (s2.trans sl))⟩) h1⟩) h⟩
theorem w_tup3 {i j l : Nat} {ga gb gc : Pz} (hij : i ≠ j) (hil : i ≠ l) (hjl : j ≠ l) (p : PS X st (tAsg (tTup (tCons (tWZ L ga) (tCons (tWZ L gb) (tCons (tWZ L gc) tNil)))) (gTup L.K 3 (gCons (gName i) (gCons (gName j) (gCons (gName l) gNil)))))) : PS X st (tWS L (sPar3 i j l ga gb gc)) := PS.imp p fun D σ H ⟨B, G, ρ, r, h⟩ =>
  ⟨B, G, ρ, r, ga.mono (fun z1 ρ1 h1 v B1 G1 H1 r1 s1 d1 => ⟨B1, G1, ρ1, r1, gb.mono (fun z2 ρ2 h2 u B2 G2 H2 r2 s2 d2 => ⟨B2, G2, ρ2, r2, gc.mono (fun z3 ρ3 h3 w B3 G3 H3 r3 s3 d3 => ⟨by show 3 ≤ sizeLine; decide, fun p hp => by
    have rl := r3.lay (o := .tup [v, u, w]) hp
    have sl := same_upd (o := .tup [v, u, w]) (r3.gh.free hp)
    refine ⟨p, [v, u, w], rfl, .inl (.inl upd_same), rfl, _, _, rfl, _, _, rfl, _, _, rfl, rfl, ?_⟩
    obtain ⟨ρ4, r4, h4⟩ := rl.sto (d3.same sl) h3
    obtain ⟨ρ5, r5, h5⟩ := r4.sto (d2.same (s3.trans sl)) h4
    obtain ⟨ρ6, r6, h6⟩ := r5.sto (d1.same (s2.trans (s3.trans sl))) h5
    have e : ((σ.set i (some v)).set j (some u)).set l (some w) = ((σ.set l (some w)).set j (some u)).set i (some v) := by
      rw [List.set_comm _ _ hij, List.set_comm _ _ hil, List.set_comm (i := j) (j := l) _ _ hjl]
    rw [e]
    exact h6 _ _ _ r6 (s1.trans (s2.trans (s3.trans sl)))⟩) h2⟩) h1⟩) h⟩
end
end Fw
namespace Fv
open PySem PySem.Spec PyProof.Rows L2 Fr Fw Fs
section
variable {P : Program} {w : World} {L : Ly} {T : Xt} {mg : Str → Option Value} {base : Heap} {f : Addr} {fd : FuncData}
def fLCl : Pe := ⟨fun xs k _ => ∃ (pv bf : Int) (h : List Int) (t : List (List Int)), xs = [ll ((pv :: h) :: t), .int bf] ∧ t.length ≤ 1000 ∧ bf ≠ 0 ∧ Sml bf ∧ Sml pv ∧ (∀ x ∈ h, Sml x) ∧
   (∀ r ∈ t, 0 < r.length ∧ r.length ≤ 1000 ∧ (∀ x ∈ r, Sml x) ∧ ∀ z ∈ (r.drop 1).zip h, bf ∣ pv * z.1 - r.getD 0 0 * z.2) ∧ k (.new ((t.map fun r => Dt.clr pv (r.getD 0 0) bf (r.drop 1) h).map li)),
  by
  rintro xs k k' x x' hk _ ⟨pv, bf, h, t, a1, a2, a3, a4, a5, a6, a7, z⟩
  exact ⟨pv, bf, h, t, a1, a2, a3, a4, a5, a6, a7, hk _ z⟩⟩
abbrev s_law_cleared : Stmt := topS 24
theorem sc_law_cleared : FnScope ["left", "last", "head", "item", "there", "row"] ["left", "last"] (C8.fnScope s_law_cleared) := C8.fnScope_by (by decide +kernel)
theorem ok_law_cleared (Fd : C8.Def L.K mg "_law_cleared" s_law_cleared f fd) (b : Binds L.K fd ["left", "last"] []) (B : Bw mg) : CalG P w L.K mg base (L2.CX P w) 1 "_law_cleared" (spE L T fLCl) := by
  have sc := sc_law_cleared
  refine calE (n := 4) Fd b sc ?_ (fun vs h => start_eq (by rw [h]; rfl)) fun cdv A outer s G H E hr hgu tk => ?_
  · rintro ds k x ⟨pv, bf, h, t, rfl, _⟩
    rfl
  refine ⟨_, x_seq (x_up (w_set (ps_set (i := 2) sc.nd rfl (by first | exact Or.inl rfl | exact Or.inr rfl) (w_ix ix_list snd_ix (w_v (pv 0)) (w_int (kd := 0) pe_int) (fun _ _ => rfl)))))
  (x_one (x_retN (ps_ret (w_lcN (sndv_N (by decide)) (pe_lc (own := [("row", 5)]) (by rfl) sc.nd (w_il (pi_list (w_slice sl_list snd_sl (w_v (pv 0)) (w_poS (w_int (kd := 0) pe_int)) w_poN))) (blkOk_by (by kernel_rfl)) (fun _ _ _ _ _ => (pg_name (i := 5) sc.nd rfl (by first | exact Or.inl rfl | exact Or.inr rfl))) (fun _ _ _ _ _ => w_tnil) (fun _ _ _ _ _ => (w_lc (sndv_tup (n := 2) (sndv_cons (sndv_N (by decide)) (sndv_cons (sndv_N (by decide)) sndv_nil))) (pe_lc (own := [("item", 3), ("there", 4)]) (by rfl) sc.nd (w_iz (pi_zip (by rfl) B.zip (w_cons (w_slice sl_list snd_sl (w_v (pv 5)) (w_poS (w_int (kd := 0) pe_int)) w_poN) (w_cons (w_slice sl_list snd_sl (w_v (pv 2)) (w_poS (w_int (kd := 0) pe_int)) w_poN) w_nil)))) (blkOk_by (by kernel_rfl)) (fun _ _ _ _ _ => (pg_tup (n := 2) (by rfl) (pgs_cons (pg_name (i := 3) sc.nd rfl (by first | exact Or.inl rfl | exact Or.inr rfl)) (pgs_cons (pg_name (i := 4) sc.nd rfl (by first | exact Or.inl rfl | exact Or.inr rfl)) pgs_nil)))) (fun _ _ _ _ _ => w_tnil) (fun _ _ _ _ _ => (w_op op_fdivB snd_fdivB (w_op op_sub snd_sub (w_op op_mulW snd_mulW (w_ix ix_list snd_ix (w_v (pv 2)) (w_int (kd := 0) pe_int) (fun _ _ => rfl)) (w_v (pv 3))) (w_op op_mulW snd_mulW (w_ix ix_list snd_ix (w_v (pv 5)) (w_int (kd := 0) pe_int) (fun _ _ => rfl)) (w_v (pv 4)))) (w_v (pv 1)))))))))))), ?_⟩
  rintro ds kk xx ⟨pv, bf, h, t, rfl, hl, b0, sb, sp, sh, ht, k⟩
  have a0 : ∀ (x : Int) (xs : List Int), L2.atI ((x :: xs).map Da.int) (0 : Int) = some (.int x) := fun x xs => Fw.atI_nat (j := 0) rfl
  refine ⟨_, rfl, _, (0 : Int), li (pv :: h), rfl, rfl, Fw.atI_nat (j := 0) rfl, ?_⟩
  refine ⟨_, rfl, (1 : Int), rfl, _, rfl, _, rfl, ?_⟩
  show lcP _ _ _ _ _ (Fw.cutD (((pv :: h) :: t).map li) (some 1) none) [] _
  rw [show Fw.cutD (((pv :: h) :: t).map li) (some 1) none = t.map li from cut_from _ 1]
  refine lcP_all li (fun r => li (Dt.clr pv (r.getD 0 0) bf (r.drop 1) h)) (fun r hr => ?_) (by rw [sizeLine_eq]; omega) ?_
  · obtain ⟨h0, h1, sr, hd⟩ := ht r hr
    obtain ⟨r0, r', rfl⟩ : ∃ r0 r', r = r0 :: r' := by
      cases r with
      | nil => cases h0
      | cons a r => exact ⟨a, r, rfl⟩
    refine ⟨_, rfl, (1 : Int), rfl, _, rfl, _, rfl, (1 : Int), rfl, _, rfl, _, _, rfl, ?_⟩
    have c1 : ∀ (x : Int) (xs : List Int), Fw.cutD ((x :: xs).map Da.int) (some 1) none = xs.map Da.int := fun x xs => cut_from _ 1
    show lcP _ _ _ _ _ (zipD (Fw.cutD ((r0 :: r').map Da.int) (some 1) none) (Fw.cutD ((pv :: h).map Da.int) (some 1) none)) [] _
    rw [c1, c1, zip_ints]
    refine lcP_all (fun z : Int × Int => Da.tup [.int z.1, .int z.2]) (fun z => Da.int ((pv * z.1 - r0 * z.2) / bf)) (fun z hz => ?_) ?_ ?_
    · have hm := List.of_mem_zip hz
      refine ⟨_, rfl, rfl, _, _, rfl, _, _, rfl, rfl, ?_⟩
      refine ⟨_, rfl, _, (0 : Int), .int pv, rfl, rfl, a0 _ _, _, rfl, _, _, rfl, rfl, sml_mul sp (sr _ (List.mem_cons_of_mem _ hm.1)), _, rfl, _, (0 : Int), .int r0, rfl, rfl, a0 _ _, _, rfl, _, _, rfl, rfl, sml_mul (sr _ List.mem_cons_self) (sh _ hm.2), _, _, rfl, rfl, trivial, _, rfl, _, _, rfl, rfl, ⟨b0, sml_div sb⟩, ?_, rfl⟩
      exact congrArg Da.int (Int.fdiv_eq_ediv_of_dvd (hd z hz))
    · rw [List.length_zip]
      rw [List.length_cons] at h1
      exact Nat.le_trans (Nat.min_le_left _ _) (by rw [sizeLine_eq]; omega)
    · have e : Da.lst ((r'.zip h).map fun z => Da.int ((pv * z.1 - r0 * z.2) / bf)) = li (Dt.clr pv r0 bf r' h) := by
        rw [Dt.clr, li, List.map_zipWith, List.map_zip_eq_zipWith]
        rfl
      exact ⟨e, rfl⟩
  · rw [List.map_map] at k
    exact k
end
end Fv

namespace Fv
open PySem PySem.Spec PyProof.Rows L2 Fr Fw Fs
section
variable {P : Program} {w : World} {L : Ly} {T : Xt} {mg : Str → Option Value} {base : Heap} {f : Addr} {fd : FuncData}
theorem ixN_at {n i : Nat} (h : i < n) : ixN n (i : Int) = some i := by
  unfold ixN
  rw [if_pos (Int.natCast_nonneg i), if_pos (by omega)]
  rfl
theorem sNil_f {ρ : En} {nx : En → Prop} {rt : Da → En → Prop} {br ct : En → Prop} (h : nx ρ) : sNil.f ρ nx rt br ct := h
def fLDet : Pf := ⟨fun xs k => ∃ T, xs = [ll T] ∧ T.length ≤ 7 ∧ Sq T ∧ Bd T ∧ k (.int (detL T)), fun h ⟨T, a1, a2, a3, a4, q⟩ => ⟨T, a1, a2, a3, a4, h _ q⟩⟩
abbrev s_law_determinant : Stmt := topS 25
theorem sc_law_determinant : FnScope ["table", "left", "last", "sign", "row", "lap", "some", "k", "head"] ["table"] (C8.fnScope s_law_determinant) := C8.fnScope_by (by decide +kernel)
theorem ok_law_determinant (Fd : C8.Def L.K mg "_law_determinant" s_law_determinant f fd) (b : Binds L.K fd ["table"] []) (B : Bw mg) (e_law_cleared : CalG P w L.K mg base C8.CX0 1 "_law_cleared" (spE0 L fLCl)) : CalG P w L.K mg base C8.CX0 2 "_law_determinant" (spF L fLDet) := by
  have sc := sc_law_determinant
  refine calF (n := 8) Fd b sc ?_ (fun vs h => start_eq (by rw [h]; rfl)) fun cdv A outer s H E hr hgu => ?_
  · rintro ds k ⟨T, rfl, _⟩
    rfl
  refine ⟨_, w_seq (w_tup3 (by decide) (by decide) (by decide) (ps_asg (pe_tup (pa_cons (w_zN (w_lcN (sndv_N (by decide)) (pe_lc (own := [("row", 4)]) (by rfl) sc.nd (w_il (pi_list (w_v (pv 0)))) (blkOk_by (by kernel_rfl)) (fun _ _ _ _ _ => (pg_name (i := 4) sc.nd rfl (by first | exact Or.inl rfl | exact Or.inr rfl))) (fun _ _ _ _ _ => w_tnil) (fun _ _ _ _ _ => (w_tCB snd_listOf (pe_callTy call_list_of (by rfl) B.list (by decide +kernel) (w_cons (w_v (pv 4)) w_nil))))))) (pa_cons (w_zD (w_int (kd := 0) pe_int)) (pa_cons (w_zD (w_int (kd := 0) pe_int)) pa_nil)))) (pg_tup (n := 3) (by rfl) (pgs_cons (pg_name (i := 1) sc.nd rfl (by first | exact Or.inl rfl | exact Or.inr rfl)) (pgs_cons (pg_name (i := 2) sc.nd rfl (by first | exact Or.inl rfl | exact Or.inr rfl)) (pgs_cons (pg_name (i := 3) sc.nd rfl (by first | exact Or.inl rfl | exact Or.inr rfl)) pgs_nil))))))
  (w_seq (w_forI snd_tgN (ps_for PassesOwn.never rfl (w_ir1 (pi_range1 rfl B.range (w_cons (w_tCB snd_len (pe_callB call_len_seq (by rfl) B.len (by decide +kernel) (w_cons (w_v (pv 0)) w_nil))) w_nil))) (pg_name (i := 5) sc.nd rfl (by first | exact Or.inl rfl | exact Or.inr rfl))
   (w_seq (w_setLc (sndv_N (by decide)) (ps_setLc (i := 6) (own := [("k", 7)]) (by rfl) sc.nd rfl (by rfl) (sw_true rfl (by rfl) rfl (by decide +kernel)) (w_ir1 (pi_range1 rfl B.range (w_cons (w_lenG (pe_callB call_len_seq (by rfl) B.len (by decide +kernel) (pa_cons (pv 1) pa_nil))) w_nil))) (blkOk_by (by kernel_rfl)) (fun _ _ _ _ _ => (pg_name (i := 7) sc.nd rfl (by first | exact Or.inl rfl | exact Or.inr rfl))) (fun _ _ _ _ _ => w_tone (w_cmpT (op_neD hr.units) snd_ne (w_ix ix_list snd_ix (w_ixG (pe_ix ix_list (pv 1) (w_v (pv 7)) (fun _ _ => rfl))) (w_int (kd := 0) pe_int) (fun _ _ => rfl)) (w_int (kd := 0) pe_int) (nomark _))) (fun _ _ _ _ _ => (w_v (pv 7)))))
    (w_seq (w_if (ps_if (w_cmpT (op_eqD hr.units) snd_eq (w_v (pv 6)) (w_lst w_nil) (nomark _))
     (w_one (w_ret (ps_ret (w_int (kd := 0) pe_int))))
     (w_snil pss_nil)))
    (w_seq (w_if (ps_if (w_cmpT (op_neD hr.units) snd_ne (w_ix ix_list snd_ix (w_v (pv 6)) (w_int (kd := 0) pe_int) (fun _ _ => rfl)) (w_int (kd := 0) pe_int) (nomark _))
     (w_one (w_asgP (sgp_tup (n := 3) (sgp_cons sgp_put (sgp_cons sgp_put (sgp_cons sgp_N sgp_nil)))) (ps_asg (w_tup (w_cons (w_ixG (pe_ix ix_list (pv 1) (w_ix ix_list snd_ix (w_v (pv 6)) (w_int (kd := 0) pe_int) (fun _ _ => rfl)) (fun _ _ => rfl))) (w_cons (w_ixG (pe_ix ix_list (pv 1) (w_int (kd := 0) pe_int) (fun _ _ => rfl))) (w_cons (w_op op_sub snd_sub (w_int (kd := 0) pe_int) (w_v (pv 3))) w_nil)))) (pg_tup (n := 3) (by rfl) (pgs_cons (pg_sub (pv 1) (w_int (kd := 0) pe_int) set_list) (pgs_cons (pg_sub (pv 1) (w_ix ix_list snd_ix (w_v (pv 6)) (w_int (kd := 0) pe_int) (fun _ _ => rfl)) set_list) (pgs_cons (pg_name (i := 3) sc.nd rfl (by first | exact Or.inl rfl | exact Or.inr rfl)) pgs_nil)))))))
     (w_snil pss_nil)))
    (w_seq (w_set (ps_set (i := 8) sc.nd rfl (by first | exact Or.inl rfl | exact Or.inr rfl) (w_ix ix_list snd_ix (w_ixG (pe_ix ix_list (pv 1) (w_int (kd := 0) pe_int) (fun _ _ => rfl))) (w_int (kd := 0) pe_int) (fun _ _ => rfl))))
    (w_one (w_tup2 (by decide) (ps_asg (pe_tup (pa_cons (w_zE (pe_E e_law_cleared hr (by decide) hgu rfl (w_cons (w_frz (pv 1)) (w_cons (w_v (pv 2)) w_nil)))) (pa_cons (w_zD (w_v (pv 8))) pa_nil))) (pg_tup (n := 2) (by rfl) (pgs_cons (pg_name (i := 1) sc.nd rfl (by first | exact Or.inl rfl | exact Or.inr rfl)) (pgs_cons (pg_name (i := 2) sc.nd rfl (by first | exact Or.inl rfl | exact Or.inr rfl)) pgs_nil))))))))))))
  (w_one (w_ret (ps_ret (w_op op_mul snd_mul (w_v (pv 3)) (w_v (pv 2))))))), ?_⟩
  rintro ds kk ⟨T, rfl, hl, hn, hB, k⟩
  have hT : ∀ a b, (Dt.mx T a b).natAbs ≤ 2 ^ 200 := hB.mx
  refine ⟨ll T, rfl, T.map li, rfl, ?_⟩
  refine lcP_all li li (fun r hr => ⟨_, rfl, r.map Da.int, .inl rfl, rfl, rfl⟩) (by rw [sizeLine_eq]; omega) ?_
  intro p hp
  refine ⟨_, rfl, T.map li, .inl rfl, (T.length : Int), by rw [List.length_map], by omega, by omega, ?_⟩
  rw [show rgD 0 ((T.length : Int)).toNat = rgD 0 T.length from rfl]
  refine loopF_inv (fun j ρ => ∃ (p : Addr) (left : List (List Int)) (bf s : Int) (x4 x5 x6 x7 x8 : Option Sl), ρ = [some (.dat (ll T)), some (.gro p (left.map li)), some (.dat (.int bf)), some (.dat (.int s)), x4, x5, x6, x7, x8] ∧
    Dt.SB (Dt.mx T) T.length j left bf s ∧ (s = 1 ∨ s = -1)) ⟨p, T, 1, 1, none, none, none, none, none, rfl, Dt.sb0 hn, .inl rfl⟩ ?_ ?_
  · rintro j x ρ hj ⟨p, left, bf, s, x4, x5, x6, x7, x8, rfl, S, hs⟩
    have hlt : j < T.length := by
      have := (List.getElem?_eq_some_iff.mp hj).1
      rw [rgD, List.length_map, List.length_range] at this
      exact this
    have hx : x = .int (0 + (j : Nat)) := by
      rw [rgD, List.getElem?_map, List.getElem?_range hlt] at hj
      exact (Option.some.inj hj).symm
    subst hx
    have s0 : s ≠ 0 := by rcases hs with rfl | rfl <;> decide
    have hlen := S.len
    have hrows := S.rows
    obtain ⟨sbf, sml⟩ := S.sml (by omega) hT
    refine ⟨p, left.map li, rfl, (left.length : Int), by rw [List.length_map], by clear sbf sml; omega, by clear sbf sml; omega, ?_⟩
    rw [show rgD 0 ((left.length : Int)).toNat = (List.range left.length).map fun i : Nat => Da.int (0 + (i : Nat)) from rfl]
    refine lcP_src (fun i : Nat => Da.int (0 + (i : Nat))) (fun i => decide ((left.getD i []).getD 0 0 ≠ 0)) (fun i => .int (i : Nat)) (fun i hi => ?_) (by simp only [List.length_nil, List.length_range]; rw [sizeLine_eq]; clear sbf sml; omega) ?_
    · have hi := List.mem_range.mp hi
      have hr : (left.getD i []).length = T.length - j := by
        rw [List.getD_eq_getElem?_getD, List.getElem?_eq_getElem hi]
        exact hrows _ (List.getElem_mem hi)
      rw [Int.zero_add]
      refine ⟨p, _, rfl, _, rfl, left.map li, (i : Int), li (left.getD i []), rfl, rfl, li_at hi, ?_⟩
      refine ⟨_, (0 : Int), .int ((left.getD i []).getD 0 0), rfl, rfl, int_at (j := 0) (by clear sbf sml; omega), .int ((left.getD i []).getD 0 0), .int 0, rfl, rfl, rfl, rfl, _, rfl, ?_⟩
      exact ⟨neq0 _, fun _ => ⟨_, rfl, rfl, rfl⟩, fun _ => rfl⟩
    rw [List.nil_append]
    obtain ⟨pl, hpl⟩ : ∃ pl, pl = (List.range left.length).filter fun i => decide ((left.getD i []).getD 0 0 ≠ 0) := ⟨_, rfl⟩
    rw [← hpl]
    have e6 : pl.map (fun i : Nat => Da.int (i : Nat)) = (pl.map fun i : Nat => (i : Int)).map Da.int := by rw [List.map_map]; rfl
    rw [e6]
    refine ⟨_, rfl, by show 0 ≤ sizeLine; decide, _, _, py_li _, rfl, shaped_ints _, rfl, _, rfl, ?_⟩
    rw [eqv_listN]
    refine bite (fun he => ?_) fun he => ?_
    · have e0 : pl = [] := by
        cases pl with
        | nil => rfl
        | cons a r => cases he
      have all0 : ∀ r ∈ left, r.getD 0 0 = 0 := fun r hr => by
        obtain ⟨i, hi⟩ := List.mem_iff_getElem?.mp hr
        have hlt := (List.getElem?_eq_some_iff.mp hi).1
        have : i ∉ pl := by rw [e0]; exact fun h => by cases h
        rw [hpl, List.mem_filter] at this
        have e : left.getD i [] = r := by rw [List.getD_eq_getElem?_getD, hi]; rfl
        rw [e] at this
        refine Decidable.byContradiction fun z => this ⟨List.mem_range.mpr hlt, decide_eq_true z⟩
      have z := S.nil s0 (by omega) all0
      show kk (.int 0)
      rw [← z]
      exact k
    · obtain ⟨c0, tl, e0⟩ : ∃ c0 tl, pl = c0 :: tl := by
        cases pl with
        | nil => cases he
        | cons a r => exact ⟨a, r, rfl⟩
      have hc : c0 ∈ pl := by rw [e0]; exact List.mem_cons_self
      rw [hpl, List.mem_filter, List.mem_range, decide_eq_true_eq] at hc
      obtain ⟨hc1, hc2⟩ := hc
      rw [e0]
      clear hpl he e6 e0
      have gl0 : L2.atI (((c0 :: tl).map fun i : Nat => (i : Int)).map Da.int) (0 : Int) = some (.int (c0 : Nat)) := Fw.atI_nat (j := 0) rfl
      obtain ⟨h, t, rfl⟩ : ∃ h t, left = h :: t := by
        cases left with
        | nil => cases hc1
        | cons a r => exact ⟨a, r, rfl⟩
      -- the row with a number in front goes first
      obtain ⟨left', s', hS, hs', hl'⟩ : ∃ left' s', left' = ((h :: t).set 0 ((h :: t).getD c0 [])).set c0 h ∧ s' = (if c0 = 0 then s else -s) ∧ Dt.SB (Dt.mx T) T.length j left' bf s' := by
        refine ⟨_, _, rfl, rfl, ?_⟩
        by_cases e : c0 = 0
        · subst e
          rw [if_pos rfl]
          exact S
        · obtain ⟨c1, rfl⟩ : ∃ c1, c0 = c1 + 1 := ⟨c0 - 1, by omega⟩
          rw [if_neg e]
          have hg : (h :: t)[c1 + 1]? = some ((h :: t).getD (c1 + 1) []) := by
            rw [List.getD_eq_getElem?_getD, List.getElem?_eq_getElem hc1]
            rfl
          exact S.swap hg rfl e
      have lset : ∀ (a b : List Int), (((h :: t).map li).set 0 (li a)).set c0 (li b) = (((h :: t).set 0 a).set c0 b).map li := fun a b => by rw [← List.map_set, ← List.map_set]
      have hc1' : c0 < ((h :: t).map li).length := by rw [List.length_map]; exact hc1
      refine sNil_f ?_
      refine sSeq_cut (I := fun ρ => ρ = [some (.dat (ll T)), some (.gro p (left'.map li)), some (.dat (.int bf)), some (.dat (.int s')), x4, some (.dat (.int (0 + (j : Nat)))), some (.dat (.lst (((c0 :: tl).map fun i : Nat => (i : Int)).map Da.int))), none, x8]) ?_ ?_
      · refine ⟨_, rfl, _, (0 : Int), .int (c0 : Nat), rfl, rfl, gl0, .int (c0 : Nat), .int 0, rfl, rfl, rfl, rfl, _, rfl, ?_⟩
        rw [show (!PyData.eqv (.int (c0 : Nat)) (.int 0)) = decide ((c0 : Int) ≠ 0) from neq0 _]
        refine bite (fun hz => ?_) fun hz => ?_
        · have hz0 : c0 ≠ 0 := by
            have := of_decide_eq_true hz
            omega
          rw [if_neg hz0] at hs'
          refine ⟨p, _, rfl, _, rfl, _, (0 : Int), .int (c0 : Nat), rfl, rfl, gl0, _, (c0 : Int), li ((h :: t).getD c0 []), rfl, rfl, li_at hc1, p, _, rfl, _, (0 : Int), li h, rfl, rfl, Fw.atI_nat (j := 0) rfl, _, rfl, _, _, rfl, rfl, trivial, by show 3 ≤ sizeLine; decide, _, rfl, rfl, ?_⟩
          refine ⟨_, _, rfl, p, _, rfl, _, (0 : Int), 0, rfl, rfl, ixN_at (i := 0) (by rw [List.length_map]; exact Nat.succ_pos _), ?_⟩
          refine ⟨_, _, rfl, p, _, rfl, _, rfl, _, (0 : Int), .int (c0 : Nat), rfl, rfl, gl0, _, (c0 : Int), c0, rfl, rfl, ixN_at (by rw [List.length_set]; exact hc1'), ?_⟩
          refine ⟨_, _, rfl, rfl, ?_⟩
          rw [hS, hs', ← lset, ← Int.zero_sub]
          rfl
        · have hz0 : c0 = 0 := by
            have := of_decide_eq_false hz
            omega
          rw [if_pos hz0] at hs'
          subst hz0
          rw [hS, hs']
          rfl
      rintro _ rfl
      obtain ⟨pv, sr, hr⟩ : ∃ pv sr, (h :: t).getD c0 [] = pv :: sr := by
        have : ((h :: t).getD c0 []).length = T.length - j := by
          rw [List.getD_eq_getElem?_getD, List.getElem?_eq_getElem hc1]
          exact hrows _ (List.getElem_mem hc1)
        cases e : (h :: t).getD c0 [] with
        | nil =>
          rw [e] at this
          simp only [List.length_nil] at this
          omega
        | cons a r => exact ⟨a, r, rfl⟩
      rw [hr] at hc2 hS
      have hpv : pv ≠ 0 := hc2
      obtain ⟨t', ht'⟩ : ∃ t', left' = (pv :: sr) :: t' := by
        rw [hS]
        cases c0 with
        | zero =>
          have e : h = pv :: sr := hr
          exact ⟨t, by rw [e]; rfl⟩
        | succ c1 => exact ⟨_, rfl⟩
      clear hS lset hr
      subst ht'
      have hs2 : s' = 1 ∨ s' = -1 := by
        rw [hs']
        rcases hs with rfl | rfl <;> split <;> decide
      clear hs'
      obtain ⟨S2, _⟩ := hl'.step rfl hpv
      obtain ⟨sbf, sml⟩ := hl'.sml (by omega) hT
      have hlen := hl'.len
      have hrows := hl'.rows
      have dv := hl'.dvd rfl
      rw [List.length_cons] at hlen
      refine ⟨p, _, rfl, _, (0 : Int), li (pv :: sr), rfl, rfl, Fw.atI_nat (j := 0) rfl, _, (0 : Int), .int pv, rfl, rfl, Fw.atI_nat (j := 0) rfl, ?_⟩
      refine ⟨p, _, rfl, _, rfl, pv, bf, sr, t', rfl, by clear sbf sml; omega, hl'.bn, sbf, sml _ List.mem_cons_self pv List.mem_cons_self, fun x hx => sml _ List.mem_cons_self x (List.mem_cons_of_mem _ hx), fun r hr => ⟨?_, ?_, fun x hx => sml r (List.mem_cons_of_mem _ hr) x hx, dv r hr⟩, ?_⟩
      · rw [hrows r (List.mem_cons_of_mem _ hr)]
        clear sbf sml
        omega
      · rw [hrows r (List.mem_cons_of_mem _ hr)]
        clear sbf sml
        omega
      refine ⟨_, rfl, ?_⟩
      intro p2 hp2
      exact ⟨p2, _, pv, s', x4, _, _, _, _, rfl, S2, hs2⟩
  · rintro ρ ⟨p, left, bf, s, x4, x5, x6, x7, x8, rfl, S, hs⟩
    rw [rgD, List.length_map, List.length_range] at S
    refine ⟨_, rfl, _, rfl, _, _, rfl, rfl, .inl ?_, ?_⟩
    · rcases hs with rfl | rfl <;> exact ⟨by decide, by decide⟩
    · have z := S.fin hs
      show kk (.int (s * bf))
      rw [← z]
      exact k
end
end Fv

namespace Dt
theorem sm_upd {n a : Nat} {f : Nat → Int} (z : Int) (h : a < n) : sm n (fun c => if c = a then f c + z else f c) = sm n f + z := by
  induction n with
  | zero => omega
  | succ n ih =>
    show sm n _ + _ = sm n f + f n + z
    by_cases q : a = n
    · subst q
      rw [sm_congr (g := f) fun i hi => if_neg (by omega)]
      simp only []
      rw [if_pos trivial]
      omega
    · rw [ih (by omega)]
      simp only []
      rw [if_neg (by omega)]
      omega
def mul (n : Nat) (A B : Mx) : Mx := fun i j => sm n fun c => A i c * B c j
def tr (M : Mx) : Mx := fun i j => M j i
def idM : Mx := fun i j => if i = j then 1 else 0
inductive UM (n : Nat) : Mx → Prop
  | id {M : Mx} : (∀ a b, a < n → b < n → M a b = if a = b then 1 else 0) → UM n M
  | op {M M' : Mx} {a b : Nat} {t : Int} : UM n M → a < n → b < n → a ≠ b → (∀ c d, c < n → d < n → M' c d = if c = a then M a d + t * M b d else M c d) → UM n M'
variable {n : Nat} {R : Mx}
theorem mul_id {M X : Mx} (h : ∀ a b, a < n → b < n → M a b = if a = b then 1 else 0) {a b : Nat} (ha : a < n) : mul n M X a b = X a b := by
  unfold mul
  rw [← sm_pick (f := fun c => X c b) ha]
  refine sm_congr fun c hc => ?_
  rw [h a c ha hc]
  by_cases e : a = c
  · subst e
    simp
  · rw [if_neg e, if_neg fun z => e z.symm]
theorem det_um (U : UM n R) : ∀ X, det n (mul n R X) = det n X := by
  induction U with
  | id h => exact fun X => det_congr fun a b ha hb => mul_id h ha
  | @op M M' a b t U ha hb ne h ih =>
    intro X
    rw [← ih X]
    have e := det_comb (M := mul n M X) ha hb ne 1 t
    rw [Int.one_mul] at e
    rw [← e]
    refine det_congr fun c d hc hd => ?_
    unfold row
    by_cases q : c = a
    · rw [if_pos q]
      show sm n (fun k => M' c k * X k d) = 1 * sm n (fun k => M a k * X k d) + t * sm n (fun k => M b k * X k d)
      rw [← sm_lin]
      refine sm_congr fun k hk => ?_
      rw [h c k hc hk, if_pos q]
      grind
    · rw [if_neg q]
      unfold mul
      refine sm_congr fun k hk => ?_
      rw [h c k hc hk, if_neg q]
theorem det_umT (U : UM n R) : ∀ X, det n (mul n (tr R) X) = det n X := by
  induction U with
  | id h => exact fun X => det_congr fun a b ha hb => mul_id (fun i j hi hj => by
      unfold tr
      rw [h j i hj hi]
      by_cases e : i = j
      · rw [if_pos e, if_pos e.symm]
      · rw [if_neg e, if_neg fun z => e z.symm]) ha
  | @op M M' a b t U ha hb ne h ih =>
    intro X
    have e := det_comb (M := X) hb ha (Ne.symm ne) 1 t
    rw [Int.one_mul] at e
    rw [← e, ← ih (row X b _)]
    refine det_congr fun c d hc hd => ?_
    show sm n (fun k => M' k c * X k d) = sm n (fun k => M k c * row X b (fun b_1 => 1 * X b b_1 + t * X a b_1) k d)
    have e1 : sm n (fun k => M' k c * X k d) = sm n (fun k => M k c * X k d) + t * M b c * X a d := by
      rw [← sm_upd _ ha]
      refine sm_congr fun k hk => ?_
      rw [h k c hk hc]
      by_cases q : k = a
      · subst q
        rw [if_pos rfl, if_pos rfl]
        grind
      · rw [if_neg q, if_neg q]
    have e2 : sm n (fun k => M k c * row X b (fun b_1 => 1 * X b b_1 + t * X a b_1) k d) = sm n (fun k => M k c * X k d) + t * M b c * X a d := by
      rw [← sm_upd _ hb]
      refine sm_congr fun k hk => ?_
      unfold row
      by_cases q : k = b
      · subst q
        rw [if_pos rfl, if_pos rfl]
        grind
      · rw [if_neg q, if_neg q]
    rw [e1, e2]
theorem onto_um (U : UM n R) : ∀ u : Ve, ∃ v, Supp n v ∧ ∀ c, c < n → sm n (fun i => v i * R i c) = u c := by
  induction U with
  | @id M h =>
    intro u
    refine ⟨fun i => if i < n then u i else 0, fun i hi => if_neg (by omega), fun c hc => ?_⟩
    rw [← sm_pick (f := u) hc]
    refine sm_congr fun i hi => ?_
    show (if i < n then u i else 0) * M i c = _
    rw [h i c hi hc, if_pos hi]
    grind
  | @op M M' a b t U ha hb ne h ih =>
    intro u
    obtain ⟨v, hs, hv⟩ := ih u
    refine ⟨fun i => if i = b then v b - t * v a else v i, fun i hi => ?_, fun c hc => ?_⟩
    · show (if i = b then _ else _) = _
      rw [if_neg (by omega)]
      exact hs i hi
    · rw [← hv c hc]
      have e1 : sm n (fun i => (if i = b then v b - t * v a else v i) * M' i c) = sm n (fun i => if i = b then (if i = a then v i * M i c + v a * t * M b c else v i * M i c) + -(t * v a * M b c) else (if i = a then v i * M i c + v a * t * M b c else v i * M i c)) := by
        refine sm_congr fun i hi => ?_
        rw [h i c hi hc]
        by_cases q : i = b
        · subst q
          rw [if_pos rfl, if_pos rfl, if_neg (Ne.symm ne), if_neg (Ne.symm ne)]
          grind
        · rw [if_neg q, if_neg q]
          by_cases p : i = a
          · subst p
            rw [if_pos rfl, if_pos rfl]
            grind
          · rw [if_neg p, if_neg p]
      rw [e1, sm_upd _ hb, sm_upd _ ha]
      grind
theorem det_id : ∀ {n : Nat} {M : Mx}, (∀ a b, a < n → b < n → M a b = if a = b then 1 else 0) → det n M = 1
  | 0, _, _ => rfl
  | n + 1, M, h => by
    have e : det (n + 1) M = det (n + 1) idM := det_congr fun a b ha hb => h a b ha hb
    rw [e, det_first fun a ha => if_neg (by omega)]
    rw [det_id (n := n) fun a b _ _ => ?_]
    · rfl
    · show (if a + 1 = b + 1 then (1 : Int) else 0) = _
      by_cases q : a = b
      · rw [if_pos (by omega), if_pos q]
      · rw [if_neg (by omega), if_neg q]
theorem mul_idR {X : Mx} {a b : Nat} (hb : b < n) : mul n X idM a b = X a b := by
  unfold mul
  rw [← sm_pick (f := fun c => X a c) hb]
  refine sm_congr fun c hc => ?_
  unfold idM
  grind
end Dt

namespace Dt
inductive Bl where
  | one (x : Int)
  | two (x : Int)
def siz : List Bl → Nat
  | [] => 0
  | .one _ :: bs => siz bs + 1
  | .two _ :: bs => siz bs + 2
def mid : List Bl → Mx
  | [] => fun _ _ => 0
  | .one x :: bs => fun a b => if a = siz bs ∧ b = siz bs then x else mid bs a b
  | .two x :: bs => fun a b => if (a = siz bs ∧ b = siz bs + 1) ∨ (a = siz bs + 1 ∧ b = siz bs) then x else mid bs a b
def due : List Bl → Int
  | [] => 1
  | .one x :: bs => due bs * x
  | .two x :: bs => 0 - due bs * x * x
def cnt : List Bl → Nat × Nat × Nat
  | [] => (0, 0, 0)
  | .one x :: bs => ((cnt bs).1 + (if 0 < x then 1 else 0), (cnt bs).2.1 + (if x < 0 then 1 else 0), (cnt bs).2.2 + if x = 0 then 1 else 0)
  | .two _ :: bs => ((cnt bs).1 + 1, (cnt bs).2.1 + 1, (cnt bs).2.2)
theorem cnt_siz : ∀ bs, (cnt bs).1 + (cnt bs).2.1 + (cnt bs).2.2 = siz bs
  | [] => rfl
  | .one x :: bs => by
    have := cnt_siz bs
    simp only [cnt, siz]
    rcases Int.lt_trichotomy x 0 with h | h | h
    · rw [if_neg (by omega), if_pos h, if_neg (by omega)]; omega
    · rw [if_neg (by omega), if_neg (by omega), if_pos h]; omega
    · rw [if_pos h, if_neg (by omega), if_neg (by omega)]; omega
  | .two x :: bs => by
    have := cnt_siz bs
    simp only [cnt, siz]
    omega
theorem mid_out : ∀ {bs : List Bl} {a b : Nat}, siz bs ≤ a ∨ siz bs ≤ b → mid bs a b = 0
  | [], _, _, _ => rfl
  | .one x :: bs, a, b, h => by
    simp only [siz] at h
    show (if _ then x else mid bs a b) = 0
    rw [if_neg (by omega), mid_out (by omega)]
  | .two x :: bs, a, b, h => by
    simp only [siz] at h
    show (if _ then x else mid bs a b) = 0
    rw [if_neg (by omega), mid_out (by omega)]
theorem mid_sym : ∀ (bs : List Bl) (a b : Nat), mid bs a b = mid bs b a
  | [], _, _ => rfl
  | .one x :: bs, a, b => by
    show (if _ then x else mid bs a b) = if _ then x else mid bs b a
    rw [mid_sym bs a b]
    by_cases h : a = siz bs ∧ b = siz bs
    · rw [if_pos h, if_pos h.symm]
    · rw [if_neg h, if_neg fun z => h z.symm]
  | .two x :: bs, a, b => by
    show (if _ then x else mid bs a b) = if _ then x else mid bs b a
    rw [mid_sym bs a b]
    by_cases h : (a = siz bs ∧ b = siz bs + 1) ∨ (a = siz bs + 1 ∧ b = siz bs)
    · rw [if_pos h, if_pos (by omega)]
    · rw [if_neg h, if_neg (by omega)]
def hyb : List Bl → Mx → Mx
  | [], Y => Y
  | .one x :: bs, Y => fun a b => if a = siz bs then x * Y a b else hyb bs Y a b
  | .two x :: bs, Y => fun a b => if a = siz bs then x * Y (siz bs + 1) b else if a = siz bs + 1 then x * Y (siz bs) b else hyb bs Y a b
theorem hyb_out : ∀ {bs : List Bl} {Y : Mx} {a : Nat}, siz bs ≤ a → ∀ b, hyb bs Y a b = Y a b
  | [], _, _, _, _ => rfl
  | .one x :: bs, Y, a, h, b => by
    simp only [siz] at h
    show (if _ then _ else hyb bs Y a b) = _
    rw [if_neg (by omega), hyb_out (by omega)]
  | .two x :: bs, Y, a, h, b => by
    simp only [siz] at h
    show (if _ then _ else if _ then _ else hyb bs Y a b) = _
    rw [if_neg (by omega), if_neg (by omega), hyb_out (by omega)]
variable {n : Nat}
theorem sm_one {f : Nat → Int} {r : Nat} (h : r < n) (z : ∀ i, i < n → i ≠ r → f i = 0) : sm n f = f r := by
  have e := sm_upd (f := fun _ => (0 : Int)) (f r) h
  rw [sm_zero (f := fun _ => (0 : Int)) fun _ _ => rfl, Int.zero_add] at e
  rw [← e]
  refine sm_congr fun i hi => ?_
  by_cases q : i = r
  · subst q
    simp
  · rw [z i hi q]
    simp [q]
theorem mid_mul : ∀ {bs : List Bl} {Y : Mx} {a : Nat}, a < siz bs → siz bs ≤ n → ∀ b, mul n (mid bs) Y a b = hyb bs Y a b
  | [], _, _, h, _, _ => absurd h (Nat.not_lt_zero _)
  | .one x :: bs, Y, a, h, hn, b => by
    simp only [siz] at h hn
    show sm n (fun c => mid (.one x :: bs) a c * Y c b) = if _ then _ else hyb bs Y a b
    by_cases q : a = siz bs
    · rw [if_pos q, sm_one (r := siz bs) (by omega) fun i hi ne => ?_]
      · show (if _ then x else mid bs a (siz bs)) * _ = _
        rw [if_pos ⟨q, rfl⟩, q]
      · show (if _ then x else mid bs a i) * _ = _
        rw [if_neg (by omega), mid_out (by omega), Int.zero_mul]
    · rw [if_neg q, ← mid_mul (bs := bs) (Y := Y) (a := a) (by omega) (by omega) b]
      refine sm_congr fun i hi => ?_
      show (if _ then x else mid bs a i) * _ = _
      rw [if_neg (by omega)]
  | .two x :: bs, Y, a, h, hn, b => by
    simp only [siz] at h hn
    show sm n (fun c => mid (.two x :: bs) a c * Y c b) = if _ then _ else if _ then _ else hyb bs Y a b
    by_cases q : a = siz bs
    · rw [if_pos q, sm_one (r := siz bs + 1) (by omega) fun i hi ne => ?_]
      · show (if _ then x else mid bs a (siz bs + 1)) * _ = _
        rw [if_pos (by omega)]
      · show (if _ then x else mid bs a i) * _ = _
        rw [if_neg (by omega), mid_out (by omega), Int.zero_mul]
    · by_cases p : a = siz bs + 1
      · rw [if_neg q, if_pos p, sm_one (r := siz bs) (by omega) fun i hi ne => ?_]
        · show (if _ then x else mid bs a (siz bs)) * _ = _
          rw [if_pos (by omega)]
        · show (if _ then x else mid bs a i) * _ = _
          rw [if_neg (by omega), mid_out (by omega), Int.zero_mul]
      · rw [if_neg q, if_neg p, ← mid_mul (bs := bs) (Y := Y) (a := a) (by omega) (by omega) b]
        refine sm_congr fun i hi => ?_
        show (if _ then x else mid bs a i) * _ = _
        rw [if_neg (by omega)]
theorem det_rowmul {M : Mx} {r : Nat} (x : Int) (hr : r < n) (hn : 0 < n) : det n (fun a b => if a = r then x * M a b else M a b) = x * det n M := by
  have e := det_lin (M := M) x 0 (M r) (M r) hr
  rw [row_self] at e
  rw [Int.zero_mul, Int.add_zero] at e
  rw [← e]
  refine det_congr fun a b _ _ => ?_
  unfold row
  by_cases q : a = r
  · rw [if_pos q, if_pos q, q]
    grind
  · rw [if_neg q, if_neg q]
theorem det_hyb : ∀ {bs : List Bl} {Y : Mx}, siz bs ≤ n → det n (hyb bs Y) = due bs * det n Y
  | [], Y, _ => by show det n Y = 1 * _; rw [Int.one_mul]
  | .one x :: bs, Y, h => by
    simp only [siz] at h
    have ih := det_hyb (bs := bs) (Y := Y) (by omega)
    have e := det_rowmul (M := hyb bs Y) (r := siz bs) x (n := n) (by omega) (by omega)
    show det n _ = due bs * x * _
    rw [show due bs * x * det n Y = x * (due bs * det n Y) by grind, ← ih, ← e]
    refine det_congr fun a b _ _ => ?_
    show (if a = siz bs then x * Y a b else hyb bs Y a b) = if _ then _ else _
    by_cases q : a = siz bs
    · rw [if_pos q, if_pos q, hyb_out (by omega)]
    · rw [if_neg q, if_neg q]
  | .two x :: bs, Y, h => by
    simp only [siz] at h
    have ih := det_hyb (bs := bs) (Y := Y) (by omega)
    have e0 := det_swp (M := hyb bs Y) (r := siz bs) (s := siz bs + 1) (n := n) (by omega) (by omega) (by omega)
    have e1 := det_rowmul (M := swp (hyb bs Y) (siz bs) (siz bs + 1)) (r := siz bs) x (n := n) (by omega) (by omega)
    have e2 := det_rowmul (M := fun a b => if a = siz bs then x * swp (hyb bs Y) (siz bs) (siz bs + 1) a b else swp (hyb bs Y) (siz bs) (siz bs + 1) a b) (r := siz bs + 1) x (n := n) (by omega) (by omega)
    show det n _ = (0 - due bs * x * x) * _
    rw [show (0 - due bs * x * x) * det n Y = x * (x * (-(due bs * det n Y))) by grind, ← ih, ← e0, ← e1, ← e2]
    refine det_congr fun a b _ _ => ?_
    show (if a = siz bs then x * Y (siz bs + 1) b else if a = siz bs + 1 then x * Y (siz bs) b else hyb bs Y a b) = _
    unfold swp
    by_cases q : a = siz bs
    · rw [if_pos q, if_neg (by omega), if_pos q, if_pos q, hyb_out (by omega)]
    · by_cases p : a = siz bs + 1
      · rw [if_neg q, if_pos p, if_pos p, if_neg q, if_neg q, if_pos p, hyb_out (by omega)]
      · rw [if_neg q, if_neg p, if_neg p, if_neg q, if_neg q, if_neg p]
theorem det_mid {bs : List Bl} (Y : Mx) (h : siz bs = n) : det n (mul n (mid bs) Y) = due bs * det n Y := by
  rw [← det_hyb (Nat.le_of_eq h)]
  exact det_congr fun a b ha _ => mid_mul (by omega) (by omega) b
def sqL (y : Nat → Ve → Int) (f : Nat → Ve) : List Bl → List Sq
  | [] => []
  | .one x :: bs => if x = 0 then sqL y f bs else ⟨2 * x, y (siz bs), f (siz bs)⟩ :: sqL y f bs
  | .two x :: bs => ⟨x, fun v => y (siz bs) v + y (siz bs + 1) v, vadd (f (siz bs)) (f (siz bs + 1))⟩ :: ⟨-x, fun v => y (siz bs) v - y (siz bs + 1) v, vadd (f (siz bs)) (vsmul (-1) (f (siz bs + 1)))⟩ :: sqL y f bs
variable {y : Nat → Ve → Int} {f : Nat → Ve}
theorem sqL_zero : ∀ {bs : List Bl} {p : Ve}, (∀ c, c < siz bs → y c p = 0) → ∀ t ∈ sqL y f bs, t.l p = 0
  | [], _, _, t, h => by cases h
  | .one x :: bs, p, hz, t, h => by
    have ih := sqL_zero (bs := bs) (p := p) fun c hc => hz c (Nat.lt_succ_of_lt hc)
    unfold sqL at h
    by_cases q : x = 0
    · rw [if_pos q] at h
      exact ih t h
    · rw [if_neg q] at h
      rcases List.mem_cons.mp h with rfl | h
      · exact hz _ (Nat.lt_succ_self _)
      · exact ih t h
  | .two x :: bs, p, hz, t, h => by
    have ih := sqL_zero (bs := bs) (p := p) fun c hc => hz c (by simp only [siz]; omega)
    unfold sqL at h
    have h0 := hz (siz bs) (by simp only [siz]; omega)
    have h1 := hz (siz bs + 1) (by simp only [siz]; omega)
    rcases List.mem_cons.mp h with rfl | h
    · show y _ p + y _ p = 0
      rw [h0, h1]; rfl
    · rcases List.mem_cons.mp h with rfl | h
      · show y _ p - y _ p = 0
        rw [h0, h1]; rfl
      · exact ih t h
structure Dual (n : Nat) (y : Nat → Ve → Int) (f : Nat → Ve) : Prop where
  lin : ∀ c, Lin (y c)
  su : ∀ d, d < n → Supp n (f d)
  one : ∀ c d, c < n → d < n → y c (f d) = if c = d then 1 else 0
theorem sqL_tri (D : Dual n y f) : ∀ {bs : List Bl}, siz bs ≤ n → (∀ x, Bl.two x ∈ bs → x ≠ 0) → Tri (sqL y f bs) ∧ ∀ s ∈ sqL y f bs, Supp n s.p
  | [], _, _ => ⟨.nil, fun s h => by cases h⟩
  | .one x :: bs, h, hx => by
    simp only [siz] at h
    obtain ⟨ih, is⟩ := sqL_tri D (bs := bs) (by omega) fun x hm => hx x (List.mem_cons_of_mem _ hm)
    unfold sqL
    by_cases q : x = 0
    · rw [if_pos q]
      exact ⟨ih, is⟩
    · rw [if_neg q]
      refine ⟨.cons (D.lin _) (by show 2 * x ≠ 0; omega) ?_ (sqL_zero fun c hc => ?_) ih, fun s hs => ?_⟩
      · show y _ (f _) ≠ 0
        rw [D.one _ _ (by omega) (by omega), if_pos rfl]
        decide
      · show y c (f _) = 0
        rw [D.one _ _ (by omega) (by omega), if_neg (by omega)]
      · rcases List.mem_cons.mp hs with rfl | hs
        · exact D.su _ (by omega)
        · exact is s hs
  | .two x :: bs, h, hx => by
    simp only [siz] at h
    obtain ⟨ih, is⟩ := sqL_tri D (bs := bs) (by omega) fun x hm => hx x (List.mem_cons_of_mem _ hm)
    have x0 := hx x List.mem_cons_self
    have l0 := D.lin (siz bs)
    have l1 := D.lin (siz bs + 1)
    have o00 := D.one (siz bs) (siz bs) (by omega) (by omega)
    have o01 := D.one (siz bs) (siz bs + 1) (by omega) (by omega)
    have o10 := D.one (siz bs + 1) (siz bs) (by omega) (by omega)
    have o11 := D.one (siz bs + 1) (siz bs + 1) (by omega) (by omega)
    rw [if_pos rfl] at o00 o11
    rw [if_neg (by omega)] at o01 o10
    have z : ∀ c, c < siz bs → y c (vadd (f (siz bs)) (f (siz bs + 1))) = 0 ∧ y c (vadd (f (siz bs)) (vsmul (-1) (f (siz bs + 1)))) = 0 := fun c hc => by
      have e0 := D.one c (siz bs) (by omega) (by omega)
      have e1 := D.one c (siz bs + 1) (by omega) (by omega)
      rw [if_neg (by omega)] at e0 e1
      rw [(D.lin c).add, (D.lin c).add, (D.lin c).mul, e0, e1]
      exact ⟨rfl, rfl⟩
    unfold sqL
    refine ⟨.cons ⟨fun u v => ?_, fun a u => ?_⟩ x0 ?_ (fun t ht => ?_) (.cons ⟨fun u v => ?_, fun a u => ?_⟩ (by show -x ≠ 0; omega) ?_ (sqL_zero fun c hc => (z c hc).2) ih), fun s hs => ?_⟩
    · show y _ (vadd u v) + y _ (vadd u v) = _
      rw [l0.add, l1.add]
      show _ = y _ u + y _ u + (y _ v + y _ v)
      omega
    · show y _ (vsmul a u) + y _ (vsmul a u) = _
      rw [l0.mul, l1.mul]
      show _ = a * (y _ u + y _ u)
      grind
    · show y _ (vadd _ _) + y _ (vadd _ _) ≠ 0
      rw [l0.add, l1.add, o00, o01, o10, o11]
      decide
    · rcases List.mem_cons.mp ht with rfl | ht
      · show y _ (vadd _ _) - y _ (vadd _ _) = 0
        rw [l0.add, l1.add, o00, o01, o10, o11]
        decide
      · exact sqL_zero (fun c hc => (z c hc).1) t ht
    · show y _ (vadd u v) - y _ (vadd u v) = _
      rw [l0.add, l1.add]
      show _ = y _ u - y _ u + (y _ v - y _ v)
      omega
    · show y _ (vsmul a u) - y _ (vsmul a u) = _
      rw [l0.mul, l1.mul]
      show _ = a * (y _ u - y _ u)
      grind
    · show y _ (vadd _ _) - y _ (vadd _ _) ≠ 0
      rw [l0.add, l1.add, l0.mul, l1.mul, o00, o01, o10, o11]
      decide
    · have s0 := D.su (siz bs) (by omega)
      have s1 := D.su (siz bs + 1) (by omega)
      rcases List.mem_cons.mp hs with rfl | hs
      · exact s0.add s1
      · rcases List.mem_cons.mp hs with rfl | hs
        · exact s0.add (s1.mul _)
        · exact is s hs
def quad (n : Nat) (M : Mx) (y : Nat → Ve → Int) (v : Ve) : Int := sm n fun a => y a v * sm n fun b => M a b * y b v
theorem quad_sqs (v : Ve) : ∀ {bs : List Bl}, siz bs ≤ n → 2 * quad n (mid bs) y v = sqs v (sqL y f bs)
  | [], _ => by
    show 2 * sm n _ = 0
    rw [sm_zero fun i hi => by rw [sm_zero (f := fun b => mid [] i b * y b v) fun j hj => Int.zero_mul _, Int.mul_zero]]
    rfl
  | .one x :: bs, h => by
    simp only [siz] at h
    have ih := quad_sqs v (bs := bs) (by omega)
    have e : quad n (mid (.one x :: bs)) y v = quad n (mid bs) y v + y (siz bs) v * (x * y (siz bs) v) := by
      unfold quad
      rw [← sm_upd _ (show siz bs < n by omega)]
      refine sm_congr fun a ha => ?_
      by_cases q : a = siz bs
      · rw [if_pos q]
        have e2 : sm n (fun b => mid (.one x :: bs) a b * y b v) = sm n (fun b => mid bs a b * y b v) + x * y (siz bs) v := by
          rw [← sm_upd _ (show siz bs < n by omega)]
          refine sm_congr fun b hb => ?_
          show (if a = siz bs ∧ b = siz bs then x else mid bs a b) * _ = _
          by_cases p : b = siz bs
          · rw [if_pos ⟨q, p⟩, if_pos p, mid_out (by omega), p]
            grind
          · rw [if_neg (by omega), if_neg p]
        rw [e2, q]
        grind
      · rw [if_neg q]
        congr 1
        refine sm_congr fun b hb => ?_
        show (if a = siz bs ∧ b = siz bs then x else mid bs a b) * _ = _
        rw [if_neg (by omega)]
    rw [e]
    unfold sqL
    by_cases q : x = 0
    · rw [if_pos q, ← ih, q]
      grind
    · rw [if_neg q]
      show _ = 2 * x * (y _ v * y _ v) + sqs v _
      rw [← ih]
      grind
  | .two x :: bs, h => by
    simp only [siz] at h
    have ih := quad_sqs v (bs := bs) (by omega)
    have e : quad n (mid (.two x :: bs)) y v = quad n (mid bs) y v + y (siz bs) v * (x * y (siz bs + 1) v) + y (siz bs + 1) v * (x * y (siz bs) v) := by
      unfold quad
      rw [← sm_upd _ (show siz bs < n by omega), ← sm_upd _ (show siz bs + 1 < n by omega)]
      refine sm_congr fun a ha => ?_
      have in0 : a = siz bs → sm n (fun b => mid (.two x :: bs) a b * y b v) = sm n (fun b => mid bs a b * y b v) + x * y (siz bs + 1) v := fun q => by
        rw [← sm_upd _ (show siz bs + 1 < n by omega)]
        refine sm_congr fun b hb => ?_
        show (if (a = siz bs ∧ b = siz bs + 1) ∨ (a = siz bs + 1 ∧ b = siz bs) then x else mid bs a b) * _ = _
        by_cases p : b = siz bs + 1
        · rw [if_pos (by omega), if_pos p, mid_out (by omega), p]
          grind
        · rw [if_neg (by omega), if_neg p]
      have in1 : a = siz bs + 1 → sm n (fun b => mid (.two x :: bs) a b * y b v) = sm n (fun b => mid bs a b * y b v) + x * y (siz bs) v := fun q => by
        rw [← sm_upd _ (show siz bs < n by omega)]
        refine sm_congr fun b hb => ?_
        show (if (a = siz bs ∧ b = siz bs + 1) ∨ (a = siz bs + 1 ∧ b = siz bs) then x else mid bs a b) * _ = _
        by_cases p : b = siz bs
        · rw [if_pos (by omega), if_pos p, mid_out (by omega), p]
          grind
        · rw [if_neg (by omega), if_neg p]
      by_cases q : a = siz bs
      · rw [if_neg (by omega), if_pos q, in0 q, q]
        grind
      · by_cases p : a = siz bs + 1
        · rw [if_pos p, if_neg q, in1 p, p]
          grind
        · rw [if_neg p, if_neg q]
          congr 1
          refine sm_congr fun b hb => ?_
          show (if (a = siz bs ∧ b = siz bs + 1) ∨ (a = siz bs + 1 ∧ b = siz bs) then x else mid bs a b) * _ = _
          rw [if_neg (by omega)]
    rw [e]
    unfold sqL
    show _ = x * ((y _ v + y _ v) * (y _ v + y _ v)) + (-x * ((y _ v - y _ v) * (y _ v - y _ v)) + sqs v _)
    rw [← ih]
    grind
theorem sqL_cnt : ∀ {bs : List Bl}, (∀ x, Bl.two x ∈ bs → x ≠ 0) → pos (sqL y f bs) = (cnt bs).1 ∧ neg (sqL y f bs) = (cnt bs).2.1
  | [], _ => ⟨rfl, rfl⟩
  | .one x :: bs, hx => by
    obtain ⟨i1, i2⟩ := sqL_cnt (bs := bs) fun x hm => hx x (List.mem_cons_of_mem _ hm)
    unfold sqL
    simp only [cnt]
    rcases Int.lt_trichotomy x 0 with h | h | h
    · rw [if_neg (by omega), if_neg (by omega), if_pos h]
      unfold pos neg at *
      rw [List.filter_cons_of_neg (by simp; omega), List.filter_cons_of_pos (by simp; omega), List.length_cons]
      omega
    · rw [if_pos h, if_neg (by omega), if_neg (by omega)]
      exact ⟨i1, i2⟩
    · rw [if_neg (by omega), if_pos h, if_neg (by omega)]
      unfold pos neg at *
      rw [List.filter_cons_of_pos (by simp; omega), List.filter_cons_of_neg (by simp; omega), List.length_cons]
      omega
  | .two x :: bs, hx => by
    obtain ⟨i1, i2⟩ := sqL_cnt (bs := bs) fun x hm => hx x (List.mem_cons_of_mem _ hm)
    have x0 := hx x List.mem_cons_self
    unfold sqL
    simp only [cnt]
    unfold pos neg at *
    rcases Int.lt_or_gt_of_ne x0 with h | h
    · rw [List.filter_cons_of_neg (by simp; omega), List.filter_cons_of_pos (by simp; omega), List.filter_cons_of_pos (by simp; omega), List.filter_cons_of_neg (by simp; omega), List.length_cons, List.length_cons]
      omega
    · rw [List.filter_cons_of_pos (by simp; omega), List.filter_cons_of_neg (by simp; omega), List.filter_cons_of_neg (by simp; omega), List.filter_cons_of_pos (by simp; omega), List.length_cons, List.length_cons]
      omega
end Dt

namespace Dt
variable {n : Nat} {R D : Mx}
def Onto (n : Nat) (R : Mx) : Prop := ∀ u : Ve, ∃ v, Supp n v ∧ ∀ c, c < n → sm n (fun i => v i * R i c) = u c
def bent (n : Nat) (R D : Mx) : Mx := fun i j => sm n fun b => (sm n fun c => R i c * D c b) * R j b
def yv (n : Nat) (R : Mx) (c : Nat) (v : Ve) : Int := sm n fun i => v i * R i c
theorem sm_mulr {f : Nat → Int} (x : Int) {n : Nat} : sm n f * x = sm n fun i => f i * x := by
  rw [Int.mul_comm, ← sm_mul]
  exact sm_congr fun i _ => Int.mul_comm _ _
theorem bent_alt (i j : Nat) : bent n R D i j = mul n R (mul n D (tr R)) i j := by
  unfold bent mul tr
  rw [show sm n (fun b => (sm n fun c => R i c * D c b) * R j b) = sm n fun b => sm n fun c => R i c * D c b * R j b from sm_congr fun b _ => sm_mulr _, sm_swap]
  refine sm_congr fun c _ => ?_
  rw [← sm_mul]
  exact sm_congr fun b _ => Int.mul_assoc _ _ _
theorem bent_sym (h : ∀ a b, D a b = D b a) (i j : Nat) : bent n R D i j = bent n R D j i := by
  rw [bent_alt]
  unfold bent mul tr
  refine sm_congr fun c _ => ?_
  rw [Int.mul_comm]
  congr 1
  refine sm_congr fun b _ => ?_
  rw [h c b, Int.mul_comm]
theorem yv_lin (c : Nat) : Lin (yv n R c) := by
  refine ⟨fun u v => ?_, fun a u => ?_⟩
  · unfold yv vadd
    rw [← sm_add]
    exact sm_congr fun i _ => Int.add_mul _ _ _
  · unfold yv vsmul
    rw [← sm_mul]
    exact sm_congr fun i _ => Int.mul_assoc _ _ _
theorem frm_bent {M : Mx} (h : ∀ i j, i < n → j < n → M i j = bent n R D i j) (v : Ve) : frm n M v v = quad n D (yv n R) v := by
  have e1 : frm n M v v = sm n fun i => v i * sm n fun c => R i c * sm n fun b => D c b * yv n R b v := by
    unfold frm
    refine sm_congr fun i hi => ?_
    congr 1
    rw [show sm n (fun j => M i j * v j) = sm n fun j => sm n fun c => R i c * (sm n fun b => D c b * R j b) * v j from sm_congr fun j hj => by
      rw [h i j hi hj, bent_alt]
      exact sm_mulr _]
    rw [sm_swap]
    refine sm_congr fun c _ => ?_
    rw [show sm n (fun j => R i c * (sm n fun b => D c b * R j b) * v j) = R i c * sm n fun j => (sm n fun b => D c b * R j b) * v j from by
      rw [← sm_mul]
      exact sm_congr fun j _ => Int.mul_assoc _ _ _]
    congr 1
    rw [show sm n (fun j => (sm n fun b => D c b * R j b) * v j) = sm n fun j => sm n fun b => D c b * R j b * v j from sm_congr fun j _ => sm_mulr _, sm_swap]
    refine sm_congr fun b _ => ?_
    unfold yv
    rw [← sm_mul]
    exact sm_congr fun j _ => by grind
  rw [e1]
  unfold quad
  rw [show sm n (fun i => v i * sm n fun c => R i c * sm n fun b => D c b * yv n R b v) = sm n fun i => sm n fun c => v i * R i c * sm n fun b => D c b * yv n R b v from sm_congr fun i _ => by
    rw [← sm_mul]
    exact sm_congr fun c _ => (Int.mul_assoc _ _ _).symm]
  rw [sm_swap]
  refine sm_congr fun c _ => ?_
  show _ = yv n R c v * _
  unfold yv
  rw [sm_mulr]
theorem onto_dual (h : Onto n R) : ∃ f, Dual n (yv n R) f := by
  refine ⟨fun d => Classical.choose (h (unit d)), fun c => yv_lin c, fun d _ => (Classical.choose_spec (h (unit d))).1, fun c d hc _ => ?_⟩
  show yv n R c (Classical.choose (h (unit d))) = _
  exact ((Classical.choose_spec (h (unit d))).2 c hc).trans rfl
theorem dg_bent {bs : List Bl} {M : Mx} (o : Onto n R) (hs : siz bs ≤ n) (hx : ∀ x, Bl.two x ∈ bs → x ≠ 0) (h : ∀ i j, i < n → j < n → M i j = bent n R (mid bs) i j) :
    ∃ L, DG n (fun v => frm n M v v) L ∧ pos L = (cnt bs).1 ∧ neg L = (cnt bs).2.1 ∧ L.length = (cnt bs).1 + (cnt bs).2.1 := by
  obtain ⟨f, F⟩ := onto_dual o
  obtain ⟨t, s⟩ := sqL_tri F hs hx
  obtain ⟨c1, c2⟩ := sqL_cnt (y := yv n R) (f := f) hx
  refine ⟨sqL (yv n R) f bs, ⟨t, s, 2, by decide, fun v _ => ?_⟩, c1, c2, ?_⟩
  · rw [frm_bent h, quad_sqs (f := f) v hs]
  · rw [pos_neg fun s hs => (tri_own t s hs).2.1, c1, c2]
theorem dg_told {Q : Ve → Int} {L N : List Sq} (E : DG n Q L) (F : DG n Q N) : pos N = pos L ∧ neg N = neg L ∧ N.length = L.length := by
  obtain ⟨a, b⟩ := E.one F
  refine ⟨a.symm, b.symm, ?_⟩
  rw [pos_neg fun s hs => (tri_own E.tri s hs).2.1, pos_neg fun s hs => (tri_own F.tri s hs).2.1, a, b]
theorem det_bent {bs : List Bl} (U : UM n R) (hs : siz bs = n) : det n (bent n R (mid bs)) = due bs := by
  rw [det_congr (N := mul n R (mul n (mid bs) (tr R))) fun a b _ _ => bent_alt a b, det_um U, det_mid _ hs]
  have e : det n (mul n (tr R) idM) = det n (tr R) := det_congr fun a b _ hb => mul_idR hb
  rw [← e, det_umT U, det_id (M := idM) fun a b _ _ => rfl, Int.mul_one]
theorem det_whole {bs : List Bl} (U : UM n R) (hs : siz bs = n) : det n (mul n R (mid bs)) = due bs := by
  rw [det_um U]
  have e : det n (mul n (mid bs) idM) = det n (mid bs) := det_congr fun a b _ hb => mul_idR hb
  rw [← e, det_mid _ hs, det_id (M := idM) fun a b _ _ => rfl, Int.mul_one]
def scB (m : Int) : Bl → Bl
  | .one x => .one (m * x)
  | .two x => .two (m * x)
theorem siz_sc (m : Int) : ∀ bs, siz (bs.map (scB m)) = siz bs
  | [] => rfl
  | .one x :: bs => congrArg (· + 1) (siz_sc m bs)
  | .two x :: bs => congrArg (· + 2) (siz_sc m bs)
theorem mid_sc (m : Int) : ∀ bs a b, mid (bs.map (scB m)) a b = m * mid bs a b
  | [], _, _ => (Int.mul_zero m).symm
  | .one x :: bs, a, b => by
    show (if a = siz (bs.map (scB m)) ∧ b = siz (bs.map (scB m)) then m * x else mid (bs.map (scB m)) a b) = m * if _ then x else mid bs a b
    rw [siz_sc, mid_sc m bs]
    split <;> rfl
  | .two x :: bs, a, b => by
    show (if (a = siz (bs.map (scB m)) ∧ b = siz (bs.map (scB m)) + 1) ∨ (a = siz (bs.map (scB m)) + 1 ∧ b = siz (bs.map (scB m))) then m * x else mid (bs.map (scB m)) a b) = m * if _ then x else mid bs a b
    rw [siz_sc, mid_sc m bs]
    split <;> rfl
theorem two_sc {m : Int} (hm : m ≠ 0) {bs : List Bl} (h : ∀ x, Bl.two x ∈ bs → x ≠ 0) : ∀ x, Bl.two x ∈ bs.map (scB m) → x ≠ 0 := fun x hx => by
  obtain ⟨b, hb, e⟩ := List.mem_map.mp hx
  cases b with
  | one z => cases e
  | two z =>
    cases e
    exact fun q => (Int.mul_eq_zero.mp q).elim hm (h z hb)
theorem cnt_pos {m : Int} (hm : 0 < m) : ∀ bs, cnt (bs.map (scB m)) = cnt bs
  | [] => rfl
  | .one x :: bs => by
    simp only [List.map_cons, scB, cnt, cnt_pos hm bs]
    have a : 0 < m * x ↔ 0 < x := by
      constructor
      · intro z
        rcases Int.lt_or_le 0 x with q | q
        · exact q
        · have := Int.mul_nonneg (Int.le_of_lt hm) (show 0 ≤ -x by omega)
          rw [Int.mul_neg] at this
          omega
      · exact fun z => Int.mul_pos hm z
    have b : m * x < 0 ↔ x < 0 := by
      constructor
      · intro z
        rcases Int.lt_or_le x 0 with q | q
        · exact q
        · have := Int.mul_nonneg (Int.le_of_lt hm) q
          omega
      · exact fun z => Int.mul_neg_of_pos_of_neg hm z
    have c : m * x = 0 ↔ x = 0 := ⟨fun z => (Int.mul_eq_zero.mp z).elim (fun e => by omega) id, fun z => by rw [z, Int.mul_zero]⟩
    simp only [a, b, c]
  | .two x :: bs => by
    simp only [List.map_cons, scB, cnt, cnt_pos hm bs]
theorem cnt_neg : ∀ bs, cnt (bs.map (scB (-1))) = ((cnt bs).2.1, (cnt bs).1, (cnt bs).2.2)
  | [] => rfl
  | .one x :: bs => by
    simp only [List.map_cons, scB, cnt, cnt_neg bs]
    have a : 0 < -1 * x ↔ x < 0 := by omega
    have b : -1 * x < 0 ↔ 0 < x := by omega
    have c : -1 * x = 0 ↔ x = 0 := by omega
    simp only [a, b, c]
  | .two x :: bs => by
    simp only [List.map_cons, scB, cnt, cnt_neg bs]
theorem bent_sc {m : Int} {D' : Mx} (h : ∀ a b, D' a b = m * D a b) (i j : Nat) : bent n R D' i j = m * bent n R D i j := by
  unfold bent
  rw [← sm_mul]
  refine sm_congr fun b _ => ?_
  rw [show sm n (fun c => R i c * D' c b) = m * sm n fun c => R i c * D c b from by
    rw [← sm_mul]
    exact sm_congr fun c _ => by rw [h]; grind]
  exact Int.mul_assoc _ _ _
theorem sm_sum (f : Nat → Int) : ∀ n, sm n f = ((List.range n).map f).sum
  | 0 => rfl
  | n + 1 => by
    rw [List.range_succ, List.map_append, List.sum_append, ← sm_sum f n]
    show sm n f + f n = sm n f + (f n + 0)
    omega
theorem perm_sumI {a b : List Int} (h : a.Perm b) : a.sum = b.sum := by
  induction h with
  | nil => rfl
  | cons x _ ih => rw [List.sum_cons, List.sum_cons, ih]
  | swap x y l => simp only [List.sum_cons]; omega
  | trans _ _ i1 i2 => exact i1.trans i2
theorem sm_perm {s : List Nat} (h : s.Perm (List.range n)) (g : Nat → Int) : sm n (fun i => g (s.getD i 0)) = sm n g := by
  have hl : s.length = n := by rw [h.length_eq, List.length_range]
  rw [sm_sum, sm_sum]
  have e : (List.range n).map (fun i => g (s.getD i 0)) = s.map g := by
    apply List.ext_getElem
    · rw [List.length_map, List.length_map, List.length_range, hl]
    · intro i h1 h2
      rw [List.length_map] at h2
      rw [List.getElem_map, List.getElem_map, List.getElem_range, List.getD_eq_getElem?_getD, List.getElem?_eq_getElem h2]
      rfl
  rw [e]
  exact perm_sumI (h.map g)
theorem onto_perm {s : List Nat} (h : s.Perm (List.range n)) (o : Onto n R) : Onto n fun i c => R (s.getD i 0) c := by
  intro u
  obtain ⟨v, hs, hv⟩ := o u
  refine ⟨fun i => if i < n then v (s.getD i 0) else 0, fun i hi => if_neg (by omega), fun c hc => ?_⟩
  rw [← hv c hc, ← sm_perm h fun k => v k * R k c]
  refine sm_congr fun i hi => ?_
  show (if i < n then v (s.getD i 0) else 0) * _ = _
  rw [if_pos hi]
theorem abs_mul {x y : Int} {A B C : Nat} (h : x.natAbs ≤ A) (g : y.natAbs ≤ B) (e : A * B ≤ C) : (x * y).natAbs ≤ C := by
  rw [Int.natAbs_mul]
  exact Nat.le_trans (Nat.mul_le_mul h g) e
theorem abs_sm {f : Nat → Int} {A C : Nat} (hn : n ≤ 7) (h : ∀ i, i < n → (f i).natAbs ≤ A) (e : 7 * A ≤ C) : (sm n f).natAbs ≤ C := Nat.le_trans (sm_bd h) (Nat.le_trans (Nat.mul_le_mul_right A hn) e)
theorem bd_mul (hn : n ≤ 7) (hR : ∀ a b, a < n → b < n → (R a b).natAbs ≤ 2 ^ 42) (hD : ∀ a b, (D a b).natAbs ≤ 2 ^ 67) {a b : Nat} (ha : a < n) : (mul n R D a b).natAbs ≤ 2 ^ 112 :=
  abs_sm hn (A := 2 ^ 109) (fun i hi => abs_mul (hR a i ha hi) (hD i b) (by decide)) (by decide)
theorem bd_bent (hn : n ≤ 7) (hR : ∀ a b, a < n → b < n → (R a b).natAbs ≤ 2 ^ 42) (hD : ∀ a b, (D a b).natAbs ≤ 2 ^ 67) {a b : Nat} (ha : a < n) (hb : b < n) : (bent n R D a b).natAbs ≤ 2 ^ 157 :=
  abs_sm hn (A := 2 ^ 154) (fun i hi => abs_mul (bd_mul (b := i) hn hR hD ha) (hR b i hb hi) (by decide)) (by decide)
def tab (n : Nat) (M : Mx) : List (List Int) := (List.range n).map fun i => (List.range n).map fun j => M i j
theorem tab_len (M : Mx) : (tab n M).length = n := by simp [tab]
theorem tab_at {M : Mx} {i : Nat} (h : i < n) : (tab n M)[i]? = some ((List.range n).map fun j => M i j) := by
  unfold tab
  rw [List.getElem?_map, List.getElem?_range h]
  rfl
theorem tab_row {M : Mx} {i : Nat} (h : i < n) : (tab n M).getD i [] = (List.range n).map fun j => M i j := by
  rw [List.getD_eq_getElem?_getD, tab_at h]
  rfl
theorem mx_tab {M : Mx} {i j : Nat} (hi : i < n) (hj : j < n) : mx (tab n M) i j = M i j := by
  unfold mx
  rw [tab_row hi, List.getD_eq_getElem?_getD, List.getElem?_map, List.getElem?_range hj]
  rfl
theorem tab_sq (M : Mx) : ∀ r ∈ tab n M, r.length = (tab n M).length := fun r hr => by
  rw [tab_len]
  obtain ⟨i, _, rfl⟩ := List.mem_map.mp hr
  simp
theorem tab_congr {M N : Mx} (h : ∀ i j, i < n → j < n → M i j = N i j) : tab n M = tab n N := by
  unfold tab
  refine List.map_congr_left fun i hi => List.map_congr_left fun j hj => h i j (List.mem_range.mp hi) (List.mem_range.mp hj)
theorem tab_bd {M : Mx} {C : Nat} (h : ∀ a b, a < n → b < n → (M a b).natAbs ≤ C) : ∀ r ∈ tab n M, ∀ x ∈ r, x.natAbs ≤ C := fun r hr x hx => by
  obtain ⟨i, hi, rfl⟩ := List.mem_map.mp hr
  obtain ⟨j, hj, rfl⟩ := List.mem_map.mp hx
  exact h i j (List.mem_range.mp hi) (List.mem_range.mp hj)
theorem det_tab {M : Mx} : det (tab n M).length (mx (tab n M)) = det n M := by
  rw [tab_len]
  exact det_congr fun a b ha hb => mx_tab ha hb
def BlB (C : Nat) : Bl → Prop
  | .one x => x.natAbs ≤ C
  | .two x => x.natAbs ≤ C
theorem mid_bd {C : Nat} : ∀ {bs : List Bl}, (∀ b ∈ bs, BlB C b) → ∀ i j, (mid bs i j).natAbs ≤ C
  | [], _, _, _ => Nat.zero_le _
  | .one x :: bs, h, i, j => by
    show (if _ then x else mid bs i j).natAbs ≤ C
    split
    · exact h _ List.mem_cons_self
    · exact mid_bd (fun b hb => h b (List.mem_cons_of_mem _ hb)) i j
  | .two x :: bs, h, i, j => by
    show (if _ then x else mid bs i j).natAbs ≤ C
    split
    · exact h _ List.mem_cons_self
    · exact mid_bd (fun b hb => h b (List.mem_cons_of_mem _ hb)) i j
theorem due_bd {C : Nat} : ∀ {bs : List Bl}, (∀ b ∈ bs, BlB C b) → (due bs).natAbs ≤ C ^ siz bs
  | [], _ => Nat.le_refl _
  | .one x :: bs, h => by
    have ih := due_bd (bs := bs) fun b hb => h b (List.mem_cons_of_mem _ hb)
    show (due bs * x).natAbs ≤ C ^ (siz bs + 1)
    rw [Int.natAbs_mul, Nat.pow_succ]
    exact Nat.mul_le_mul ih (h _ List.mem_cons_self)
  | .two x :: bs, h => by
    have ih := due_bd (bs := bs) fun b hb => h b (List.mem_cons_of_mem _ hb)
    have hx : x.natAbs ≤ C := h _ List.mem_cons_self
    show (0 - due bs * x * x).natAbs ≤ C ^ (siz bs + 1 + 1)
    rw [Int.zero_sub, Int.natAbs_neg, Int.natAbs_mul, Int.natAbs_mul, Nat.pow_succ, Nat.pow_succ]
    exact Nat.mul_le_mul (Nat.mul_le_mul ih hx) hx
end Dt

namespace Fv
open PySem PySem.Spec PyProof.Rows L2 Fr Fw Fs
section
variable {P : Program} {w : World} {L : Ly} {T : Xt} {mg : Str → Option Value} {base : Heap} {f : Addr} {fd : FuncData}
theorem log2_take {n : Int} (h : 0 < n) (g : n ≤ 1000) : n.natAbs.log2 < 9000 := log2_small (by omega) (by omega)
def fRwU : Pf := ⟨fun xs k => ∃ n : Nat, xs = [.int (n : Nat)] ∧ n ≤ 7 ∧ ∀ M, Dt.UM n M → (∀ a b, a < n → b < n → (M a b).natAbs ≤ 2 ^ 42) → k (ll (Dt.tab n M)), fun h ⟨n, a, b, q⟩ => ⟨n, a, b, fun M x y => h _ (q M x y)⟩⟩
theorem tab_set {n a : Nat} {M : Dt.Mx} (v : Nat → Int) (h : a < n) : (Dt.tab n M).set a ((List.range n).map v) = Dt.tab n (Dt.row M a v) := by
  apply List.ext_getElem?
  intro i
  by_cases hi : i < n
  · rw [Dt.tab_at hi, List.getElem?_set, Dt.tab_len]
    by_cases e : a = i
    · subst e
      rw [if_pos rfl, if_pos hi]
      simp only [Dt.row_at]
    · rw [if_neg e, Dt.tab_at hi]
      simp only [Dt.row_ne v _ (Ne.symm e)]
  · rw [List.getElem?_eq_none (by rw [List.length_set, Dt.tab_len]; omega), List.getElem?_eq_none (by rw [Dt.tab_len]; omega)]
abbrev s_law_rows_undone : Stmt := topS 26
theorem sc_law_rows_undone : FnScope ["draw", "size", "rows", "b", "a", "lap", "times_here", "one", "other"] ["draw", "size"] (C8.fnScope s_law_rows_undone) := C8.fnScope_by (by decide +kernel)
theorem ok_law_rows_undone (Fd : C8.Def L.K mg "_law_rows_undone" s_law_rows_undone f fd) (b : Binds L.K fd ["draw", "size"] []) (B : Bw mg) (c_law_take : CalG P w L.K mg base C8.CX0 2 "_law_take" (spD L fTake)) : CalG P w L.K mg base C8.CX0 3 "_law_rows_undone" (spD L fRwU) := by
  have sc := sc_law_rows_undone
  refine calD (n := 7) Fd b sc ?_ (fun v vs h => ?_) fun cdv A outer s H E hr hgu => ?_
  · rintro ds k ⟨n, e, _⟩
    rw [e]
    rfl
  · rw [start_eq (n := 7) (by show 9 = (vs.length + 1) + 7; rw [h]; rfl)]
    rfl
  refine ⟨_, w_seq (w_setLcN (sndv_N (by decide)) (ps_setLc (i := 2) (own := [("a", 4)]) (by rfl) sc.nd rfl (by rfl) (sw_true rfl (by rfl) rfl (by decide +kernel)) (w_ir1 (pi_range1 rfl B.range (w_cons (w_v (pv 1)) w_nil))) (blkOk_by (by kernel_rfl)) (fun _ _ _ _ _ => (pg_name (i := 4) sc.nd rfl (by first | exact Or.inl rfl | exact Or.inr rfl))) (fun _ _ _ _ _ => w_tnil) (fun _ _ _ _ _ => (w_lc (sndv_N (by decide)) (pe_lc (own := [("b", 3)]) (by rfl) sc.nd (w_ir1 (pi_range1 rfl B.range (w_cons (w_v (pv 1)) w_nil))) (blkOk_by (by kernel_rfl)) (fun _ _ _ _ _ => (pg_name (i := 3) sc.nd rfl (by first | exact Or.inl rfl | exact Or.inr rfl))) (fun _ _ _ _ _ => w_tnil) (fun _ _ _ _ _ => (w_tCB snd_int1 (pe_callTy call_int1 (by rfl) B.int (by decide +kernel) (w_cons (w_cmp (op_eqD hr.units) snd_eq (w_v (pv 4)) (w_v (pv 3)) (nomark _)) w_nil)))))))))
  (w_seq (w_forI snd_tgN (ps_for PassesOwn.never rfl (w_ir1 (pi_range1 rfl B.range (w_cons (w_callD c_law_take hr (by decide) hgu rfl (pv 0) (w_cons (w_op op_add snd_add (w_op op_mul snd_mul (w_int (kd := 0) pe_int) (w_v (pv 1))) (w_int (kd := 0) pe_int)) w_nil)) w_nil))) (pg_name (i := 5) sc.nd rfl (by first | exact Or.inl rfl | exact Or.inr rfl))
   (w_seq (w_tup3 (by decide) (by decide) (by decide) (ps_asg (pe_tup (pa_cons (w_zD (w_callD c_law_take hr (by decide) hgu rfl (pv 0) (w_cons (w_v (pv 1)) w_nil))) (pa_cons (w_zD (w_callD c_law_take hr (by decide) hgu rfl (pv 0) (w_cons (w_v (pv 1)) w_nil))) (pa_cons (w_zD (w_op op_sub snd_sub (w_callD c_law_take hr (by decide) hgu rfl (pv 0) (w_cons (w_int (kd := 0) pe_int) w_nil)) (w_int (kd := 0) pe_int))) pa_nil)))) (pg_tup (n := 3) (by rfl) (pgs_cons (pg_name (i := 4) sc.nd rfl (by first | exact Or.inl rfl | exact Or.inr rfl)) (pgs_cons (pg_name (i := 3) sc.nd rfl (by first | exact Or.inl rfl | exact Or.inr rfl)) (pgs_cons (pg_name (i := 6) sc.nd rfl (by first | exact Or.inl rfl | exact Or.inr rfl)) pgs_nil))))))
    (w_one (w_if (ps_if (w_cmpT (op_neD hr.units) snd_ne (w_v (pv 4)) (w_v (pv 3)) (nomark _))
     (w_one (w_put (ps_asg (w_lc (sndv_tup (n := 2) (sndv_cons (sndv_N (by decide)) (sndv_cons (sndv_N (by decide)) sndv_nil))) (pe_lc (own := [("one", 7), ("other", 8)]) (by rfl) sc.nd (w_iz (pi_zip (by rfl) B.zip (w_cons (w_ixG (pe_ix ix_list (pv 2) (w_v (pv 4)) (fun _ _ => rfl))) (w_cons (w_ixG (pe_ix ix_list (pv 2) (w_v (pv 3)) (fun _ _ => rfl))) w_nil)))) (blkOk_by (by kernel_rfl)) (fun _ _ _ _ _ => (pg_tup (n := 2) (by rfl) (pgs_cons (pg_name (i := 7) sc.nd rfl (by first | exact Or.inl rfl | exact Or.inr rfl)) (pgs_cons (pg_name (i := 8) sc.nd rfl (by first | exact Or.inl rfl | exact Or.inr rfl)) pgs_nil)))) (fun _ _ _ _ _ => w_tnil) (fun _ _ _ _ _ => (w_op op_add snd_add (w_v (pv 7)) (w_op op_mul snd_mul (w_v (pv 6)) (w_v (pv 8))))))) (pg_sub (pv 2) (w_v (pv 4)) set_list))))
     (w_snil pss_nil)))))))
  (w_one (w_ret (ps_ret (w_frz (pv 2)))))), ?_⟩
  rintro d l c ds kk ⟨n, rfl, hn, k⟩
  have rg : ∀ m : Nat, rgD 0 ((m : Int)).toNat = (List.range m).map fun i : Nat => Da.int (0 + (i : Nat)) := fun m => rfl
  refine ⟨_, rfl, (n : Int), rfl, by omega, by omega, ?_⟩
  rw [rg]
  refine lcP_all (fun i : Nat => Da.int (0 + (i : Nat))) (fun i => li ((List.range n).map fun j => if i = j then 1 else 0)) (fun i hi => ?_) (by rw [List.length_range, sizeLine_eq]; omega) ?_
  · refine ⟨_, rfl, (n : Int), rfl, by omega, by omega, ?_⟩
    rw [rg]
    refine lcP_all (fun i : Nat => Da.int (0 + (i : Nat))) (fun j => Da.int (if i = j then 1 else 0)) (fun j hj => ?_) (by rw [List.length_range, sizeLine_eq]; omega) ?_
    · refine ⟨_, rfl, _, rfl, .int (0 + (i : Nat)), .int (0 + (j : Nat)), rfl, rfl, rfl, rfl, .inr ⟨_, rfl, ?_, rfl⟩⟩
      show Da.int (if ((0 + (i : Int)) == (0 + (j : Int))) = true then 1 else 0) = _
      by_cases e : i = j
      · rw [if_pos e, if_pos (by rw [e]; exact beq_self_eq_true _)]
      · rw [if_neg e, if_neg (by simp; omega)]
    · refine ⟨?_, rfl⟩
      rw [li, List.map_map]
      rfl
  intro p hp
  have mem : ∀ ρ : En, ρ[0]? = some (some (.drw d l c)) → some (Sl.drw d l c) ∈ ρ := fun ρ h => List.mem_of_getElem? h
  refine ⟨d, l, c, rfl, _, rfl, (3 : Int), (n : Int), rfl, rfl, .inl ⟨by decide, by decide⟩, _, _, rfl, rfl, trivial, mem _ rfl, _, rfl, by omega, log2_take (by omega) (by omega), fun r r0 r1 => ⟨r, rfl, by omega, by omega, ?_⟩⟩
  refine loopF_inv (fun j ρ => ∃ (M : Dt.Mx) (x3 x4 x5 x6 x7 x8 : Option Sl), ρ = [some (.drw d l c), some (.dat (.int (n : Nat))), some (.gro p ((Dt.tab n M).map li)), x3, x4, x5, x6, x7, x8] ∧
    Dt.UM n M ∧ ∀ a b, a < n → b < n → (M a b).natAbs ≤ 4 ^ j) ⟨Dt.idM, none, none, none, none, none, none, ?_, .id fun a b _ _ => rfl, fun a b _ _ => ?_⟩ ?_ ?_
  · rw [Dt.tab, List.map_map]
    rfl
  · unfold Dt.idM
    split <;> decide
  · rintro j x ρ hj ⟨M, x3, x4, x5, x6, x7, x8, rfl, U, hM⟩
    have hlt : j < r.toNat := by
      have := (List.getElem?_eq_some_iff.mp hj).1
      rw [rgD, List.length_map, List.length_range] at this
      exact this
    have hn0 : 0 < (n : Int) := by omega
    clear hj
    refine ⟨d, l, c, rfl, _, rfl, mem _ rfl, _, rfl, hn0, log2_take hn0 (by omega), fun a a0 a1 => ⟨d, l, c, rfl, _, rfl, mem _ rfl, _, rfl, hn0, log2_take hn0 (by omega), fun b b0 b1 => ⟨d, l, c, rfl, mem _ rfl, _, rfl, by decide, log2_take (by decide) (by decide), fun t t0 t1 => ⟨_, _, rfl, rfl, trivial, ?_⟩⟩⟩⟩
    obtain ⟨a, rfl⟩ : ∃ a' : Nat, a = (a' : Nat) := ⟨a.toNat, by omega⟩
    obtain ⟨b, rfl⟩ : ∃ b' : Nat, b = (b' : Nat) := ⟨b.toNat, by omega⟩
    have ha : a < n := by omega
    have hb : b < n := by omega
    refine ⟨_, rfl, _, rfl, .int (a : Nat), .int (b : Nat), rfl, rfl, rfl, rfl, _, rfl, bite (fun hz => ?_) fun hz => ?_⟩
    · have ne : a ≠ b := fun e => by
        subst e
        rw [show (!PyData.eqv (.int (a : Nat)) (.int (a : Nat))) = (!((a : Int) == (a : Int))) from rfl, beq_self_eq_true] at hz
        cases hz
      have hat : ∀ i : Nat, i < n → L2.atI ((Dt.tab n M).map li) (i : Int) = some (li ((List.range n).map fun j => M i j)) := fun i hi => by
        rw [li_at (by rw [Dt.tab_len]; exact hi), Dt.tab_row hi]
      refine ⟨p, _, rfl, _, rfl, _, (a : Int), _, rfl, rfl, hat a ha, p, _, rfl, _, rfl, _, (b : Int), _, rfl, rfl, hat b hb, _, _, rfl, ?_⟩
      show lcP _ _ _ _ _ (zipD (((List.range n).map fun j => M a j).map Da.int) (((List.range n).map fun j => M b j).map Da.int)) [] _
      rw [zip_ints]
      refine lcP_all (fun z : Int × Int => Da.tup [.int z.1, .int z.2]) (fun z => Da.int (z.1 + (t - 3) * z.2)) (fun z hz => ?_) ?_ ?_
      · exact ⟨_, rfl, rfl, _, _, rfl, _, _, rfl, rfl, _, rfl, _, rfl, _, rfl, _, _, rfl, rfl, .inl ⟨by omega, by omega⟩, _, _, rfl, rfl, trivial, rfl, rfl⟩
      · rw [List.length_zip, List.length_map, List.length_map, List.length_range, sizeLine_eq]
        omega
      · have e : (((List.range n).map fun j => M a j).zip ((List.range n).map fun j => M b j)).map (fun z => Da.int (z.1 + (t - 3) * z.2)) = ((List.range n).map fun k => M a k + (t - 3) * M b k).map Da.int := by
          rw [List.zip_map', List.map_map, List.map_map]
          rfl
        rw [e]
        refine ⟨p, _, rfl, _, rfl, _, (a : Int), a, rfl, rfl, ixN_at (by rw [List.length_map, Dt.tab_len]; exact ha), ?_⟩
        have e2 : ((Dt.tab n M).map li).set a (li ((List.range n).map fun k => M a k + (t - 3) * M b k)) = (Dt.tab n (Dt.row M a fun k => M a k + (t - 3) * M b k)).map li := by
          rw [← tab_set _ ha, List.map_set]
        rw [e2]
        refine ⟨_, _, _, _, _, _, _, rfl, U.op ha hb ne fun x y _ _ => rfl, fun x y hx hy => ?_⟩
        unfold Dt.row
        split
        · have h1 := hM a y ha hy
          have h2 := hM b y hb hy
          have h3 : ((t - 3) * M b y).natAbs ≤ 3 * 4 ^ j := by
            rw [Int.natAbs_mul]
            exact Nat.mul_le_mul (by omega) h2
          have h4 := Int.natAbs_add_le (M a y) ((t - 3) * M b y)
          rw [Nat.pow_succ]
          refine Nat.le_trans h4 ?_
          omega
        · have := hM x y hx hy
          rw [Nat.pow_succ]
          omega
    · exact ⟨M, _, _, _, _, _, _, rfl, U, fun x y hx hy => by
        have := hM x y hx hy
        rw [Nat.pow_succ]
        omega⟩
  · rintro ρ ⟨M, x3, x4, x5, x6, x7, x8, rfl, U, hM⟩
    rw [rgD, List.length_map, List.length_range] at hM
    refine ⟨p, _, rfl, mem _ rfl, k M U fun a b ha hb => Nat.le_trans (hM a b ha hb) ?_⟩
    rw [show (2 : Nat) ^ 42 = 4 ^ 21 from rfl]
    exact Nat.pow_le_pow_right (by decide) (by omega)
end
end Fv

namespace Fw
open PySem PySem.Spec PyProof.Rows L2 Fr
theorem pYes_i {ρ : En} {k : Bool → En → Prop} (h : k true ρ) : pYes.f ρ k := h
theorem ite_i {A B : Prop} (h : A) : (if true = true then A else B) := by
  rw [if_pos rfl]
  exact h
theorem lcP_inv {α : Type} {t : Tg} {el : Px} {vs : List Nat} {k : List Da → En → Prop} (I : En → Prop) (emb out : α → Da) : ∀ {src : List α} {acc : List Da} {ρ : En}, I ρ → (∀ a ∈ src, ∀ ρ, I ρ → t.f (emb a) ρ fun ρ2 => el.f ρ2 fun y ρ4 => y = out a ∧ I (wipeR ρ4 vs)) →
    acc.length + src.length ≤ sizeLine → (∀ ρ, I ρ → k (acc ++ src.map out) ρ) → lcP t pYes el vs k (src.map emb) acc ρ
  | [], acc, ρ, hI, _, _, h => by
    have := h ρ hI
    rw [List.map_nil, List.append_nil] at this
    exact this
  | a :: r, acc, ρ, hI, hx, hl, h => t.mono (fun ρ2 h2 => by
    have hl' : acc.length + (r.length + 1) ≤ sizeLine := hl
    refine pYes_i (ite_i ?_)
    refine el.mono (fun y ρ4 ⟨e1, e2⟩ => ⟨by omega, ?_⟩) h2
    rw [e1]
    refine lcP_inv I emb out e2 (fun u hu => hx u (List.mem_cons_of_mem _ hu)) (by rw [List.length_append]; simp only [List.length_singleton]; omega) fun ρ5 h5 => ?_
    have := h ρ5 h5
    rw [List.append_assoc]
    exact this) (hx a List.mem_cons_self ρ hI)
end Fw
namespace Fv
open PySem PySem.Spec PyProof.Rows L2 Fr Fw Fs
section
variable {P : Program} {w : World} {L : Ly} {T : Xt} {mg : Str → Option Value} {base : Heap} {f : Addr} {fd : FuncData}
theorem rg_nat (m : Nat) : rgD 0 ((m : Int)).toNat = (List.range m).map fun i : Nat => Da.int (i : Nat) := by
  unfold rgD
  exact List.map_congr_left fun i _ => by rw [Int.zero_add]
theorem at_rng {n : Nat} {v : Nat → Int} {j : Nat} (h : j < n) : L2.atI (((List.range n).map v).map Da.int) (j : Int) = some (.int (v j)) := Fw.atI_nat (by rw [List.getElem?_map, List.getElem?_map, List.getElem?_range h]; rfl)
theorem at_tab {n : Nat} {M : Dt.Mx} {i : Nat} (h : i < n) : L2.atI ((Dt.tab n M).map li) (i : Int) = some (li ((List.range n).map fun j => M i j)) := by
  rw [li_at (by rw [Dt.tab_len]; exact h), Dt.tab_row h]
theorem int_map {α : Type} (f : α → Int) (xs : List α) : (xs.map fun a => Da.int (f a)) = (xs.map f).map Da.int := by
  rw [List.map_map]
  rfl
def fBent : Pf := ⟨fun xs k => ∃ (n : Nat) (R D : Dt.Mx), xs = [ll (Dt.tab n R), ll (Dt.tab n D)] ∧ n ≤ 7 ∧ (∀ a b, a < n → b < n → (R a b).natAbs ≤ 2 ^ 42) ∧ k (ll (Dt.tab n (Dt.bent n R D))), fun h ⟨n, R, D, a, b, c, q⟩ => ⟨n, R, D, a, b, c, h _ q⟩⟩
abbrev s_law_bent : Stmt := topS 27
theorem sc_law_bent : FnScope ["rows", "middle", "size", "half", "row", "a", "b", "line"] ["rows", "middle"] (C8.fnScope s_law_bent) := C8.fnScope_by (by decide +kernel)
theorem ok_law_bent (Fd : C8.Def L.K mg "_law_bent" s_law_bent f fd) (b : Binds L.K fd ["rows", "middle"] []) (B : Bw mg) (hsum : mg "sum" = none) : CalG P w L.K mg base C8.CX0 1 "_law_bent" (spF L fBent) := by
  have sc := sc_law_bent
  refine calF (n := 6) Fd b sc ?_ (fun vs h => start_eq (by rw [h]; rfl)) fun cdv A outer s H E hr hgu => ?_
  · rintro ds k ⟨n, R, D, e, _⟩
    rw [e]
    rfl
  refine ⟨_, w_seq (w_tup2 (by decide) (ps_asg (pe_tup (pa_cons (w_zD (w_tCB snd_len (pe_callB call_len_seq (by rfl) B.len (by decide +kernel) (w_cons (w_v (pv 0)) w_nil)))) (pa_cons (w_zN (w_nlst w_nil)) pa_nil))) (pg_tup (n := 2) (by rfl) (pgs_cons (pg_name (i := 2) sc.nd rfl (by first | exact Or.inl rfl | exact Or.inr rfl)) (pgs_cons (pg_name (i := 3) sc.nd rfl (by first | exact Or.inl rfl | exact Or.inr rfl)) pgs_nil)))))
  (w_seq (w_forI snd_tgN (ps_for PassesOwn.never rfl (w_il (pi_list (w_v (pv 0)))) (pg_name (i := 4) sc.nd rfl (by first | exact Or.inl rfl | exact Or.inr rfl))
   (w_one (w_app (ps_expr (pe_bm PySem.F.plainAttrs_list PySem.F.slot_list_append PySem.F.type_list_append mt_append (pv 3) (pa_cons (w_lc (sndv_N (by decide)) (pe_lc (own := [("b", 6)]) (by rfl) sc.nd (w_ir1 (pi_range1 rfl B.range (w_cons (w_v (pv 2)) w_nil))) (blkOk_by (by kernel_rfl)) (fun _ _ _ _ _ => (pg_name (i := 6) sc.nd rfl (by first | exact Or.inl rfl | exact Or.inr rfl))) (fun _ _ _ _ _ => w_tnil) (fun _ _ _ _ _ => (w_tCB snd_sum (pe_callB (cr_sum rfl) (by rfl) hsum (by decide +kernel) (w_cons (w_lc (sndv_N (by decide)) (pe_lc (own := [("a", 5)]) (by rfl) sc.nd (w_ir1 (pi_range1 rfl B.range (w_cons (w_v (pv 2)) w_nil))) (blkOk_by (by kernel_rfl)) (fun _ _ _ _ _ => (pg_name (i := 5) sc.nd rfl (by first | exact Or.inl rfl | exact Or.inr rfl))) (fun _ _ _ _ _ => w_tnil) (fun _ _ _ _ _ => (w_op op_mul snd_mul (w_ix ix_list snd_ix (w_v (pv 4)) (w_v (pv 5)) (fun _ _ => rfl)) (w_ix ix_list snd_ix (w_ix ix_list snd_ix (w_v (pv 1)) (w_v (pv 5)) (fun _ _ => rfl)) (w_v (pv 6)) (fun _ _ => rfl)))))) w_nil)))))) pa_nil)))))))
  (w_one (w_ret (ps_ret (w_lc (sndv_N (by decide)) (pe_lc (own := [("line", 7)]) (by rfl) sc.nd (w_il (pi_list (w_frz (pv 3)))) (blkOk_by (by kernel_rfl)) (fun _ _ _ _ _ => (pg_name (i := 7) sc.nd rfl (by first | exact Or.inl rfl | exact Or.inr rfl))) (fun _ _ _ _ _ => w_tnil) (fun _ _ _ _ _ => (w_lc (sndv_N (by decide)) (pe_lc (own := [("row", 4)]) (by rfl) sc.nd (w_il (pi_list (w_v (pv 0)))) (blkOk_by (by kernel_rfl)) (fun _ _ _ _ _ => (pg_name (i := 4) sc.nd rfl (by first | exact Or.inl rfl | exact Or.inr rfl))) (fun _ _ _ _ _ => w_tnil) (fun _ _ _ _ _ => (w_tCB snd_sum (pe_callB (cr_sum rfl) (by rfl) hsum (by decide +kernel) (w_cons (w_lc (sndv_N (by decide)) (pe_lc (own := [("b", 6)]) (by rfl) sc.nd (w_ir1 (pi_range1 rfl B.range (w_cons (w_v (pv 2)) w_nil))) (blkOk_by (by kernel_rfl)) (fun _ _ _ _ _ => (pg_name (i := 6) sc.nd rfl (by first | exact Or.inl rfl | exact Or.inr rfl))) (fun _ _ _ _ _ => w_tnil) (fun _ _ _ _ _ => (w_op op_mul snd_mul (w_ix ix_list snd_ix (w_v (pv 7)) (w_v (pv 6)) (fun _ _ => rfl)) (w_ix ix_list snd_ix (w_v (pv 4)) (w_v (pv 6)) (fun _ _ => rfl)))))) w_nil))))))))))))), ?_⟩
  rintro ds kk ⟨n, R, D, rfl, hn, hR, k⟩
  have small : ∀ z : Int, z.natAbs ≤ 2 ^ 42 → -2 ^ 64 < z ∧ z < 2 ^ 64 := fun z hz => by omega
  have lsz : ∀ m : Nat, m ≤ 7 → m ≤ sizeLine := fun m hm => by rw [sizeLine_eq]; omega
  refine ⟨_, rfl, _, .inl rfl, by decide, ?_⟩
  intro p hp
  rw [List.length_map, Dt.tab_len]
  refine ⟨_, rfl, _, rfl, ?_⟩
  refine loopF_inv (fun j ρ => ∃ (x4 : Option Sl), ρ = [some (.dat (ll (Dt.tab n R))), some (.dat (ll (Dt.tab n D))), some (.dat (.int (n : Nat))), some (.gro p (((List.range j).map fun i => (List.range n).map fun b => Dt.mul n R D i b).map li)), x4, none, none, none])
    ⟨none, rfl⟩ ?_ ?_
  · rintro j x ρ hj ⟨x4, rfl⟩
    have hlt : j < n := by
      have := (List.getElem?_eq_some_iff.mp hj).1
      rw [List.length_map, Dt.tab_len] at this
      exact this
    rw [List.getElem?_map, Dt.tab_at hlt] at hj
    cases hj
    refine ⟨p, _, rfl, _, rfl, (n : Int), rfl, by omega, by omega, ?_⟩
    rw [rg_nat]
    refine lcP_all (fun i : Nat => Da.int (i : Nat)) (fun b => Da.int (Dt.mul n R D j b)) (fun b hb => ?_) (by rw [List.length_range]; exact lsz n hn) ?_
    · have hb := List.mem_range.mp hb
      refine ⟨_, rfl, (n : Int), rfl, by omega, by omega, ?_⟩
      rw [rg_nat]
      refine lcP_all (fun i : Nat => Da.int (i : Nat)) (fun a => Da.int (R j a * D a b)) (fun a ha => ?_) (by rw [List.length_range]; exact lsz n hn) ?_
      · have ha := List.mem_range.mp ha
        exact ⟨_, rfl, _, rfl, _, (a : Int), .int (R j a), rfl, rfl, at_rng ha, _, rfl, _, rfl, _, (a : Int), _, rfl, rfl, at_tab ha, _, rfl, _, (b : Int), .int (D a b), rfl, rfl, at_rng hb, _, _, rfl, rfl, .inl (small _ (hR j a hlt ha)), rfl, rfl⟩
      · rw [int_map]
        refine ⟨_, rfl, ?_, rfl⟩
        rw [← Dt.sm_sum]
        rfl
    · rw [int_map]
      have e : ((List.range j).map fun i => (List.range n).map fun b => Dt.mul n R D i b).map li ++ [li ((List.range n).map (Dt.mul n R D j))] = ((List.range (j + 1)).map fun i => (List.range n).map fun b => Dt.mul n R D i b).map li := by
        rw [List.range_succ, List.map_append, List.map_append]
        rfl
      refine ⟨_, rfl, by rw [List.length_map, List.length_map, List.length_range, sizeLine_eq]; omega, some (.dat (li ((List.range n).map fun k => R j k))), ?_⟩
      rw [← e]
      rfl
  · rintro ρ ⟨x4, rfl⟩
    rw [List.length_map, Dt.tab_len]
    refine ⟨p, _, rfl, _, rfl, ?_⟩
    rw [List.map_map]
    refine lcP_inv (fun ρ => ∃ x4 : Option Sl, ρ = [some (.dat (ll (Dt.tab n R))), some (.dat (ll (Dt.tab n D))), some (.dat (.int (n : Nat))), some (.dat (.lst ((List.range n).map (li ∘ fun i => (List.range n).map fun b => Dt.mul n R D i b)))), x4, none, none, none]) (fun i : Nat => li ((List.range n).map fun b => Dt.mul n R D i b)) (fun i => li ((List.range n).map fun j => Dt.bent n R D i j)) (src := List.range n) ⟨x4, rfl⟩ (fun i hi => ?_) (by rw [List.length_range, List.length_nil, Nat.zero_add]; exact lsz n hn) ?_
    · rintro _ ⟨x4, rfl⟩
      have hi := List.mem_range.mp hi
      refine ⟨_, rfl, _, rfl, ?_⟩
      have eR : (Dt.tab n R).map li = (List.range n).map (li ∘ fun j => (List.range n).map fun b => R j b) := by rw [Dt.tab, List.map_map]
      rw [eR]
      refine lcP_all (fun j : Nat => li ((List.range n).map fun b => R j b)) (fun j => Da.int (Dt.bent n R D i j)) (src := List.range n) (fun j hj => ?_) (by rw [List.length_range]; exact lsz n hn) ?_
      · have hj := List.mem_range.mp hj
        refine ⟨_, rfl, (n : Int), rfl, by omega, by omega, ?_⟩
        rw [rg_nat]
        refine lcP_all (fun i : Nat => Da.int (i : Nat)) (fun b => Da.int (Dt.mul n R D i b * R j b)) (fun b hb => ?_) (by rw [List.length_range]; exact lsz n hn) ?_
        · have hb := List.mem_range.mp hb
          exact ⟨_, rfl, _, rfl, _, (b : Int), .int (Dt.mul n R D i b), rfl, rfl, at_rng hb, _, rfl, _, rfl, _, (b : Int), .int (R j b), rfl, rfl, at_rng hb, _, _, rfl, rfl, .inr (small _ (hR j b hj hb)), rfl, rfl⟩
        · rw [int_map]
          refine ⟨_, rfl, ?_, rfl⟩
          rw [← Dt.sm_sum]
          rfl
      · rw [int_map]
        exact ⟨rfl, _, rfl⟩
    · rintro _ ⟨x4, rfl⟩
      have e : [] ++ (List.range n).map (fun i => li ((List.range n).map fun j => Dt.bent n R D i j)) = (Dt.tab n (Dt.bent n R D)).map li := by
        rw [Dt.tab, List.map_map]
        rfl
      rw [e]
      exact k
end
end Fv

namespace Dt
theorem siz_app : ∀ (p q : List Bl), siz (p ++ q) = siz p + siz q
  | [], q => (Nat.zero_add _).symm
  | .one x :: p, q => by
    show siz (p ++ q) + 1 = siz p + 1 + siz q
    rw [siz_app p q]
    omega
  | .two x :: p, q => by
    show siz (p ++ q) + 2 = siz p + 2 + siz q
    rw [siz_app p q]
    omega
theorem mid_low : ∀ {p q : List Bl} {a : Nat}, a < siz q → ∀ b, mid (p ++ q) a b = mid q a b
  | [], _, _, _, _ => rfl
  | .one x :: p, q, a, h, b => by
    have := siz_app p q
    show (if _ then x else mid (p ++ q) a b) = _
    have e : ¬a = siz (p ++ q) := by omega
    rw [if_neg fun z => e z.1, mid_low h]
  | .two x :: p, q, a, h, b => by
    have := siz_app p q
    show (if _ then x else mid (p ++ q) a b) = _
    have e : ¬a = siz (p ++ q) ∧ ¬a = siz (p ++ q) + 1 := by omega
    rw [if_neg fun z => z.elim (fun z => e.1 z.1) fun z => e.2 z.1, mid_low h]
end Dt
theorem Fw.ite_f {A B : Prop} (h : B) : (if false = true then A else B) := by
  rw [if_neg (by decide)]
  exact h
namespace Fv
open PySem PySem.Spec PyProof.Rows L2 Fr Fw Fs
section
variable {P : Program} {w : World} {L : Ly} {T : Xt} {mg : Str → Option Value} {base : Heap} {f : Addr} {fd : FuncData}
structure MidOk (n : Nat) (bs : List Dt.Bl) : Prop where
  sz : Dt.siz bs = n
  le : n ≤ 7
  bd : ∀ b ∈ bs, Dt.BlB (10 ^ 20) b
  ne : ∀ x, Dt.Bl.two x ∈ bs → x ≠ 0
def fDue : Pf := ⟨fun xs k => ∃ (n : Nat) (bs : List Dt.Bl), xs = [ll (Dt.tab n (Dt.mid bs))] ∧ MidOk n bs ∧ k (.int (Dt.due bs)), fun h ⟨n, bs, a, b, q⟩ => ⟨n, bs, a, b, h _ q⟩⟩
abbrev s_law_product_due : Stmt := topS 29
theorem sc_law_product_due : FnScope ["middle", "found", "k"] ["middle"] (C8.fnScope s_law_product_due) := C8.fnScope_by (by decide +kernel)
theorem ok_law_product_due (Fd : C8.Def L.K mg "_law_product_due" s_law_product_due f fd) (b : Binds L.K fd ["middle"] []) (B : Bw mg) : CalG P w L.K mg base C8.CX0 1 "_law_product_due" (spF L fDue) := by
  have sc := sc_law_product_due
  refine calF (n := 2) Fd b sc ?_ (fun vs h => start_eq (by rw [h]; rfl)) fun cdv A outer s H E hr hgu => ?_
  · rintro ds k ⟨n, bs, e, _⟩
    rw [e]
    rfl
  refine ⟨_, w_seq (w_tup2 (by decide) (ps_asg (pe_tup (pa_cons (w_zD (w_int (kd := 0) pe_int)) (pa_cons (w_zD (w_int (kd := 0) pe_int)) pa_nil))) (pg_tup (n := 2) (by rfl) (pgs_cons (pg_name (i := 1) sc.nd rfl (by first | exact Or.inl rfl | exact Or.inr rfl)) (pgs_cons (pg_name (i := 2) sc.nd rfl (by first | exact Or.inl rfl | exact Or.inr rfl)) pgs_nil)))))
  (w_seq (w_while (ps_while PassesOwn.never (w_cmpT op_lt snd_lt (w_v (pv 2)) (w_tCB snd_len (pe_callB call_len_seq (by rfl) B.len (by decide +kernel) (w_cons (w_v (pv 0)) w_nil))) (nomark _))
   (w_one (w_if (ps_if (w_pt (w_and (pw_and (w_cmpT op_lt snd_lt (w_op op_add snd_add (w_v (pv 2)) (w_int (kd := 0) pe_int)) (w_tCB snd_len (pe_callB call_len_seq (by rfl) B.len (by decide +kernel) (w_cons (w_v (pv 0)) w_nil))) (nomark _)) (pw_and1 (w_cmpT (op_neD hr.units) snd_ne (w_ix ix_list snd_ix (w_ix ix_list snd_ix (w_v (pv 0)) (w_v (pv 2)) (fun _ _ => rfl)) (w_op op_add snd_add (w_v (pv 2)) (w_int (kd := 0) pe_int)) (fun _ _ => rfl)) (w_int (kd := 0) pe_int) (nomark _))))))
     (w_one (w_par (by decide) (ps_par (i := 1) (j := 2) (by rfl) sc.nd rfl rfl (by decide) rfl rfl (pa_cons (w_zD (w_op op_sub snd_sub (w_int (kd := 0) pe_int) (w_op op_mulW snd_mulW (w_op op_mulW snd_mulW (w_v (pv 1)) (w_ix ix_list snd_ix (w_ix ix_list snd_ix (w_v (pv 0)) (w_v (pv 2)) (fun _ _ => rfl)) (w_op op_add snd_add (w_v (pv 2)) (w_int (kd := 0) pe_int)) (fun _ _ => rfl))) (w_ix ix_list snd_ix (w_ix ix_list snd_ix (w_v (pv 0)) (w_v (pv 2)) (fun _ _ => rfl)) (w_op op_add snd_add (w_v (pv 2)) (w_int (kd := 0) pe_int)) (fun _ _ => rfl))))) (pa_cons (w_zD (w_op op_add snd_add (w_v (pv 2)) (w_int (kd := 0) pe_int))) pa_nil)) (by rfl))))
     (w_one (w_par (by decide) (ps_par (i := 1) (j := 2) (by rfl) sc.nd rfl rfl (by decide) rfl rfl (pa_cons (w_zD (w_op op_mulW snd_mulW (w_v (pv 1)) (w_ix ix_list snd_ix (w_ix ix_list snd_ix (w_v (pv 0)) (w_v (pv 2)) (fun _ _ => rfl)) (w_v (pv 2)) (fun _ _ => rfl)))) (pa_cons (w_zD (w_op op_add snd_add (w_v (pv 2)) (w_int (kd := 0) pe_int))) pa_nil)) (by rfl)))))))))
  (w_one (w_ret (ps_ret (w_v (pv 1)))))), ?_⟩
  rintro ds kk ⟨n, bs, rfl, ok, k⟩
  have hn := ok.le
  refine ⟨fun m ρ => ∃ post pre : List Dt.Bl, bs = post ++ pre ∧ m = Dt.siz post ∧ ρ = [some (.dat (ll (Dt.tab n (Dt.mid bs)))), some (.dat (.int (Dt.due pre))), some (.dat (.int (Dt.siz pre : Nat)))], ⟨_, bs, [], (List.append_nil _).symm, rfl, rfl⟩, ?_⟩
  rintro m ρ ⟨post, pre, hbs, rfl, rfl⟩
  have hsz : Dt.siz post + Dt.siz pre = n := by rw [← Dt.siz_app, ← hbs]; exact ok.sz
  have wide : ∀ x y : Int, x.natAbs ≤ (10 ^ 20) ^ 14 → y.natAbs ≤ 10 ^ 20 → CMulW x y := fun x y hx hy => sml_mul (Nat.lt_of_le_of_lt hx (by decide)) (Nat.lt_of_le_of_lt hy (by decide))
  have dbd : ∀ q : List Dt.Bl, (∀ b ∈ q, b ∈ bs) → Dt.siz q ≤ 7 → (Dt.due q).natAbs ≤ (10 ^ 20) ^ 7 := fun q hq hs => Nat.le_trans (Dt.due_bd fun b hb => ok.bd b (hq b hb)) (Nat.pow_le_pow_right (by decide) hs)
  have preb : ∀ b ∈ pre, b ∈ bs := fun b hb => by rw [hbs]; exact List.mem_append_right _ hb
  have db := dbd pre preb (by omega)
  have hlt : ((Dt.tab n (Dt.mid bs)).map li).length = n := by rw [List.length_map, Dt.tab_len]
  refine ⟨_, rfl, _, rfl, _, .inl rfl, _, _, rfl, rfl, trivial, _, rfl, ?_⟩
  rw [hlt]
  refine bite (fun hb => ?_) fun hb => ?_
  · have hk : Dt.siz pre < n := by simpa using hb
    have hne : post ≠ [] := fun e => by
      subst e
      have : Dt.siz ([] : List Dt.Bl) = 0 := rfl
      omega
    obtain ⟨p', b0, rfl⟩ : ∃ p' b0, post = p' ++ [b0] := by
      rcases List.eq_nil_or_concat post with e | ⟨p', b0, e⟩
      · exact absurd e hne
      · exact ⟨p', b0, by rw [e, List.concat_eq_append]⟩
    have hbs' : bs = p' ++ (b0 :: pre) := by rw [hbs, List.append_assoc]; rfl
    have hb0 : b0 ∈ bs := by rw [hbs']; exact List.mem_append_right _ List.mem_cons_self
    have hbd := ok.bd b0 hb0
    have row : ∀ j, j < n → L2.atI ((Dt.tab n (Dt.mid bs)).map li) (Dt.siz pre : Int) = some (li ((List.range n).map fun j => Dt.mid bs (Dt.siz pre) j)) ∧ L2.atI (((List.range n).map fun j => Dt.mid bs (Dt.siz pre) j).map Da.int) (j : Int) = some (.int (Dt.mid bs (Dt.siz pre) j)) := fun j hj => ⟨at_tab hk, at_rng hj⟩
    have c1 : ((Dt.siz pre : Int) + 1) = ((Dt.siz pre + 1 : Nat) : Int) := rfl
    cases b0 with
    | one x =>
      have e1 : Dt.mid bs (Dt.siz pre) (Dt.siz pre) = x := by
        rw [hbs', Dt.mid_low (by show _ < Dt.siz pre + 1; omega)]
        show (if _ then x else _) = x
        rw [if_pos ⟨rfl, rfl⟩]
      have e2 : Dt.mid bs (Dt.siz pre) (Dt.siz pre + 1) = 0 := by
        rw [hbs', Dt.mid_low (by show _ < Dt.siz pre + 1; omega)]
        show (if _ then x else _) = 0
        rw [if_neg (by omega), Dt.mid_out (by omega)]
      have hx : x.natAbs ≤ 10 ^ 20 := hbd
      have hs1 : Dt.siz (p' ++ [.one x]) = Dt.siz p' + 1 := Dt.siz_app _ _
      refine ⟨_, rfl, _, _, rfl, rfl, trivial, _, rfl, _, .inl rfl, _, _, rfl, rfl, trivial, _, rfl, ?_⟩
      rw [hlt]
      refine bite (fun h1 => ?_) fun h1 => ?_
      · have hk1 : Dt.siz pre + 1 < n := by
          have := of_decide_eq_true h1
          omega
        refine ⟨_, rfl, _, rfl, _, (Dt.siz pre : Int), _, rfl, rfl, (row _ hk).1, _, rfl, _, _, rfl, rfl, trivial, _, (Dt.siz pre + 1 : Nat), _, rfl, rfl, (row _ hk1).2, .int (Dt.mid bs (Dt.siz pre) (Dt.siz pre + 1)), .int 0, rfl, rfl, rfl, rfl, _, rfl, ?_⟩
        rw [e2]
        refine ite_f ?_
        refine ⟨_, rfl, _, rfl, _, rfl, _, (Dt.siz pre : Int), _, rfl, rfl, (row _ hk).1, _, rfl, _, (Dt.siz pre : Int), _, rfl, rfl, (row _ hk).2, _, _, rfl, rfl, wide _ _ (Nat.le_trans db (by decide)) (by rw [e1]; exact hx), _, rfl, _, _, rfl, rfl, trivial, Dt.siz p', by rw [hs1]; omega, p', .one x :: pre, hbs', rfl, ?_⟩
        rw [e1]
        rfl
      · refine ite_f ?_
        refine ⟨_, rfl, _, rfl, _, rfl, _, (Dt.siz pre : Int), _, rfl, rfl, (row _ hk).1, _, rfl, _, (Dt.siz pre : Int), _, rfl, rfl, (row _ hk).2, _, _, rfl, rfl, wide _ _ (Nat.le_trans db (by decide)) (by rw [e1]; exact hx), _, rfl, _, _, rfl, rfl, trivial, Dt.siz p', by rw [hs1]; omega, p', .one x :: pre, hbs', rfl, ?_⟩
        rw [e1]
        rfl
    | two x =>
      have hsp : Dt.siz (p' ++ [.two x]) = Dt.siz p' + 2 := Dt.siz_app _ _
      have hs1 := hsp
      have hk1 : Dt.siz pre + 1 < n := by omega
      have e2 : Dt.mid bs (Dt.siz pre) (Dt.siz pre + 1) = x := by
        rw [hbs', Dt.mid_low (by show _ < Dt.siz pre + 2; omega)]
        show (if _ then x else _) = x
        rw [if_pos (.inl ⟨rfl, rfl⟩)]
      have x0 : x ≠ 0 := ok.ne x hb0
      have hx : x.natAbs ≤ 10 ^ 20 := hbd
      refine ⟨_, rfl, _, _, rfl, rfl, trivial, _, rfl, _, .inl rfl, _, _, rfl, rfl, trivial, _, rfl, ?_⟩
      rw [hlt]
      refine bite (fun h1 => ?_) fun h1 => ?_
      · refine ⟨_, rfl, _, rfl, _, (Dt.siz pre : Int), _, rfl, rfl, (row _ hk).1, _, rfl, _, _, rfl, rfl, trivial, _, (Dt.siz pre + 1 : Nat), _, rfl, rfl, (row _ hk1).2, .int (Dt.mid bs (Dt.siz pre) (Dt.siz pre + 1)), .int 0, rfl, rfl, rfl, rfl, _, rfl, ?_⟩
        rw [e2, show (!PyData.eqv (.int x) (.int 0)) = decide (x ≠ 0) from neq0 x, decide_eq_true x0]
        refine ite_i ?_
        refine ⟨_, rfl, _, rfl, _, rfl, _, (Dt.siz pre : Int), _, rfl, rfl, (row _ hk).1, _, rfl, _, _, rfl, rfl, trivial, _, (Dt.siz pre + 1 : Nat), _, rfl, rfl, (row _ hk1).2, _, _, rfl, rfl, wide _ _ (Nat.le_trans db (by decide)) (by rw [e2]; exact hx), _, rfl, _, rfl, _, (Dt.siz pre : Int), _, rfl, rfl, (row _ hk).1, _, rfl, _, _, rfl, rfl, trivial, _, (Dt.siz pre + 1 : Nat), _, rfl, rfl, (row _ hk1).2, _, _, rfl, rfl, wide _ _ ?_ (by rw [e2]; exact hx), _, _, rfl, rfl, trivial, _, rfl, _, _, rfl, rfl, trivial, Dt.siz p', by rw [hs1]; omega, p', .two x :: pre, hbs', rfl, ?_⟩
        · rw [Int.natAbs_mul]
          exact Nat.le_trans (Nat.mul_le_mul db (by rw [e2]; exact hx)) (by decide)
        · rw [e2]
          rfl
      · exfalso
        have := of_decide_eq_false h1
        omega
  · have hk : ¬Dt.siz pre < n := by simpa using hb
    have e : post = [] := by
      cases post with
      | nil => rfl
      | cons b0 r =>
        exfalso
        have : 0 < Dt.siz (b0 :: r) := by cases b0 <;> exact Nat.succ_pos _
        omega
    subst e
    refine ⟨_, rfl, ?_⟩
    rw [hbs] at k
    exact k
end
end Fv

namespace Fw
open PySem PySem.Spec PyProof.Rows L2 Fr
theorem lc2P_all {α : Type} {t : Tg} {el : Pl} {vs : List Nat} {k : List (List Da) → En → Prop} {ρ : En} (emb : α → Da) (out : α → List Da) : ∀ {src : List α} {acc : List (List Da)}, (∀ a ∈ src, t.f (emb a) ρ fun ρ2 => el.f ρ2 fun y ρ4 => y = out a ∧ wipeR ρ4 vs = ρ) →
    acc.length + src.length ≤ sizeLine → k (acc ++ src.map out) ρ → lc2P t el vs k (src.map emb) acc ρ
  | [], acc, _, _, h => by
    rw [List.map_nil, List.append_nil] at h
    exact h
  | a :: r, acc, hx, hl, h => t.mono (fun ρ2 h2 => by
    have hl' : acc.length + (r.length + 1) ≤ sizeLine := hl
    refine el.mono (fun y ρ4 ⟨e1, e2⟩ => ⟨by omega, ?_⟩) h2
    rw [e1, e2]
    refine lc2P_all emb out (fun u hu => hx u (List.mem_cons_of_mem _ hu)) (by rw [List.length_append]; simp only [List.length_singleton]; omega) ?_
    rw [List.append_assoc]
    exact h) (hx a List.mem_cons_self)
end Fw
namespace Fv
open PySem PySem.Spec PyProof.Rows L2 Fr Fw Fs
section
variable {P : Program} {w : World} {L : Ly} {T : Xt} {mg : Str → Option Value} {base : Heap} {f : Addr} {fd : FuncData}
def rwD (n : Nat) (M : Dt.Mx) (i : Nat) : List Da := (List.range n).map fun j => Da.int (M i j)
def yT (n : Nat) (M : Dt.Mx) : List (List Da) := (List.range n).map fun i => rwD n M i
theorem yT_ll (n : Nat) (M : Dt.Mx) : Da.lst ((yT n M).map Da.lst) = ll (Dt.tab n M) := by
  unfold yT ll Dt.tab rwD
  rw [List.map_map, List.map_map]
  congr 1
  refine List.map_congr_left fun i _ => ?_
  show Da.lst _ = Da.lst _
  rw [List.map_map]
  rfl
theorem yT_congr {n : Nat} {M N : Dt.Mx} (h : ∀ i j, i < n → j < n → M i j = N i j) : yT n M = yT n N := by
  unfold yT rwD
  refine List.map_congr_left fun i hi => List.map_congr_left fun j hj => by rw [h i j (List.mem_range.mp hi) (List.mem_range.mp hj)]
theorem qs_at {n : Nat} {M : Dt.Mx} {qs : List (Addr × List Da)} (h : qs.map Prod.snd = yT n M) {k : Nat} (hk : k < n) : ∃ q, qs[k]? = some (q, rwD n M k) := by
  have e : (qs.map Prod.snd)[k]? = some (rwD n M k) := by
    rw [h, yT, List.getElem?_map, List.getElem?_range hk]
    rfl
  rw [List.getElem?_map] at e
  cases q : qs[k]? with
  | none => rw [q] at e; cases e
  | some x =>
    rw [q] at e
    have e1 : x.2 = rwD n M k := Option.some.inj e
    exact ⟨x.1, by rw [← e1]⟩
def putX (M : Dt.Mx) (k j : Nat) (x : Int) : Dt.Mx := fun a b => if a = k ∧ b = j then x else M a b
theorem qs_set {n : Nat} {M : Dt.Mx} {qs : List (Addr × List Da)} (h : qs.map Prod.snd = yT n M) {k j : Nat} (hk : k < n) (hj : j < n) (q : Addr) (x : Int) : (qs.set k (q, (rwD n M k).set j (.int x))).map Prod.snd = yT n (putX M k j x) := by
  rw [List.map_set, h]
  unfold yT
  apply List.ext_getElem?
  intro i
  by_cases hi : i < n
  · rw [List.getElem?_set, List.getElem?_map, List.getElem?_map, List.getElem?_range hi, List.length_map, List.length_range]
    by_cases e : k = i
    · subst e
      rw [if_pos rfl, if_pos hi]
      show some ((rwD n M k).set j (Da.int x)) = some (rwD n (putX M k j x) k)
      congr 1
      unfold rwD
      apply List.ext_getElem?
      intro c
      by_cases hc : c < n
      · rw [List.getElem?_set, List.getElem?_map, List.getElem?_map, List.getElem?_range hc, List.length_map, List.length_range]
        by_cases p : j = c
        · subst p
          rw [if_pos rfl, if_pos hc]
          unfold putX
          show _ = some (Da.int (if k = k ∧ j = j then x else M k j))
          rw [if_pos ⟨rfl, rfl⟩]
        · rw [if_neg p]
          unfold putX
          show some (Da.int (M k c)) = some (Da.int (if k = k ∧ c = j then x else M k c))
          rw [if_neg fun z => p z.2.symm]
      · rw [List.getElem?_eq_none (by rw [List.length_set, List.length_map, List.length_range]; omega), List.getElem?_eq_none (by rw [List.length_map, List.length_range]; omega)]
    · rw [if_neg e]
      show some (rwD n M i) = some (rwD n (putX M k j x) i)
      congr 1
      unfold rwD putX
      refine List.map_congr_left fun c _ => ?_
      rw [if_neg fun z => e z.1.symm]
  · rw [List.getElem?_eq_none (by rw [List.length_set, List.length_map, List.length_range]; omega), List.getElem?_eq_none (by rw [List.length_map, List.length_range]; omega)]
theorem rwD_len (n : Nat) (M : Dt.Mx) (i : Nat) : (rwD n M i).length = n := by simp [rwD]
def fMid : Pf := ⟨fun xs k => ∃ n : Nat, xs = [.int (n : Nat)] ∧ n ≤ 7 ∧ ∀ bs, MidOk n bs → k (.tup [ll (Dt.tab n (Dt.mid bs)), .tup [.int ((Dt.cnt bs).1 : Nat), .int ((Dt.cnt bs).2.1 : Nat), .int ((Dt.cnt bs).2.2 : Nat)]]), fun h ⟨n, a, b, q⟩ => ⟨n, a, b, fun bs x => h _ (q bs x)⟩⟩
abbrev s_law_middle : Stmt := topS 28
theorem sc_law_middle : FnScope ["draw", "size", "found", "counts_here", "k", "a", "kind", "large", "row"] ["draw", "size"] (C8.fnScope s_law_middle) := C8.fnScope_by (by decide +kernel)
theorem ok_law_middle (Fd : C8.Def L.K mg "_law_middle" s_law_middle f fd) (b : Binds L.K fd ["draw", "size"] []) (B : Bw mg) (c_law_take : CalG P w L.K mg base C8.CX0 2 "_law_take" (spD L fTake)) (c_law_pick : CalG P w L.K mg base C8.CX0 3 "_law_pick" (spD L fPick)) : CalG P w L.K mg base C8.CX0 4 "_law_middle" (spD L fMid) := by
  have sc := sc_law_middle
  refine calD (n := 7) Fd b sc ?_ (fun v vs h => ?_) fun cdv A outer s H E hr hgu => ?_
  · rintro ds k ⟨n, e, _⟩
    rw [e]
    rfl
  · rw [start_eq (n := 7) (by show 9 = (vs.length + 1) + 7; rw [h]; rfl)]
    rfl
  refine ⟨_, w_seq (w_par3 (by decide) (by decide) (by decide) (ps_par3 (i := 2) (j := 3) (l := 4) (by rfl) sc.nd rfl rfl rfl (by decide) (by decide) (by decide) rfl rfl rfl (pa_cons (w_zN2 (w_lc2 (sndv_N (by decide)) (pe_lc (own := [("a", 5)]) (by rfl) sc.nd (w_ir1 (pi_range1 rfl B.range (w_cons (w_v (pv 1)) w_nil))) (blkOk_by (by kernel_rfl)) (fun _ _ _ _ _ => (pg_name (i := 5) sc.nd rfl (by first | exact Or.inl rfl | exact Or.inr rfl))) (fun _ _ _ _ _ => w_tnil) (fun _ _ _ _ _ => (w_nrep (pe_op op_rep (w_lst (w_cons (w_int (kd := 0) pe_int) w_nil)) (w_v (pv 1)))))))) (pa_cons (w_zN (w_nlst (w_cons (w_int (kd := 0) pe_int) (w_cons (w_int (kd := 0) pe_int) (w_cons (w_int (kd := 0) pe_int) w_nil))))) (pa_cons (w_zD (w_int (kd := 0) pe_int)) pa_nil))) (by rfl)))
  (w_seq (w_while (ps_while PassesOwn.never (w_cmpT op_lt snd_lt (w_v (pv 4)) (w_v (pv 1)) (nomark _))
   (w_seq (w_par (by decide) (ps_par (i := 6) (j := 7) (by rfl) sc.nd rfl rfl (by decide) rfl rfl (pa_cons (w_zD (w_callD c_law_take hr (by decide) hgu rfl (pv 0) (w_cons (w_int (kd := 0) pe_int) w_nil))) (pa_cons (w_zD (w_op op_add snd_add (w_int (kd := 0) pe_int) (w_callD c_law_take hr (by decide) hgu rfl (pv 0) (w_cons (w_callD c_law_pick hr (by decide) hgu rfl (pv 0) (w_cons (w_lst (w_cons (w_int (kd := 0) pe_int) (w_cons (w_int (kd := 0) pe_int) (w_cons (w_op op_pow snd_pow (w_int (kd := 0) pe_int) (w_int (kd := 0) pe_int)) w_nil)))) w_nil)) w_nil)))) pa_nil)) (by rfl)))
    (w_one (w_if (ps_if (w_pt (w_and (pw_and (w_cmpT op_gt snd_gt (w_v (pv 6)) (w_int (kd := 0) pe_int) (nomark _)) (pw_and1 (w_cmpT op_lt snd_lt (w_op op_add snd_add (w_v (pv 4)) (w_int (kd := 0) pe_int)) (w_v (pv 1)) (nomark _))))))
     (w_alias (ps_set (i := 8) sc.nd rfl (by first | exact Or.inl rfl | exact Or.inr rfl) (pe_ix ix_list (pv 2) (w_v (pv 4)) (fun _ _ => rfl))) (ps_asg (w_v (pv 7)) (pg_sub (pv 8) (w_op op_add snd_add (w_v (pv 4)) (w_int (kd := 0) pe_int)) set_list))
      (w_alias (ps_set (i := 8) sc.nd rfl (by first | exact Or.inl rfl | exact Or.inr rfl) (pe_ix ix_list (pv 2) (w_op op_add snd_add (w_v (pv 4)) (w_int (kd := 0) pe_int)) (fun _ _ => rfl))) (ps_asg (w_v (pv 7)) (pg_sub (pv 8) (w_v (pv 4)) set_list))
       (w_seq (w_setZ (ps_set (i := 3) sc.nd rfl (by first | exact Or.inl rfl | exact Or.inr rfl) (w_zN (w_nlst (w_cons (w_op op_add snd_add (w_ixG (pe_ix ix_list (pv 3) (w_int (kd := 0) pe_int) (fun _ _ => rfl))) (w_int (kd := 0) pe_int)) (w_cons (w_op op_add snd_add (w_ixG (pe_ix ix_list (pv 3) (w_int (kd := 0) pe_int) (fun _ _ => rfl))) (w_int (kd := 0) pe_int)) (w_cons (w_ixG (pe_ix ix_list (pv 3) (w_int (kd := 0) pe_int) (fun _ _ => rfl))) w_nil)))))))
        (w_one (w_set (ps_set (i := 4) sc.nd rfl (by first | exact Or.inl rfl | exact Or.inr rfl) (w_op op_add snd_add (w_v (pv 4)) (w_int (kd := 0) pe_int))))))))
     (w_alias (ps_set (i := 8) sc.nd rfl (by first | exact Or.inl rfl | exact Or.inr rfl) (pe_ix ix_list (pv 2) (w_v (pv 4)) (fun _ _ => rfl))) (ps_asg (w_ix ix_list snd_ix (w_lst (w_cons (w_v (pv 7)) (w_cons (w_op op_sub snd_sub (w_int (kd := 0) pe_int) (w_v (pv 7))) (w_cons (w_int (kd := 0) pe_int) w_nil)))) (w_op op_modN snd_modN (w_v (pv 6)) (w_int (kd := 0) pe_int)) (fun _ _ => rfl)) (pg_sub (pv 8) (w_v (pv 4)) set_list))
      (w_seq (w_put (ps_asg (w_op op_add snd_add (w_ixG (pe_ix ix_list (pv 3) (w_op op_modN snd_modN (w_v (pv 6)) (w_int (kd := 0) pe_int)) (fun _ _ => rfl))) (w_int (kd := 0) pe_int)) (pg_sub (pv 3) (w_op op_modN snd_modN (w_v (pv 6)) (w_int (kd := 0) pe_int)) set_list)))
       (w_one (w_set (ps_set (i := 4) sc.nd rfl (by first | exact Or.inl rfl | exact Or.inr rfl) (w_op op_add snd_add (w_v (pv 4)) (w_int (kd := 0) pe_int)))))))))))))
  (w_one (w_ret (ps_ret (w_tup (w_cons (w_frz2 (pv 2)) (w_cons (w_tCB snd_tupOf (pe_callTy call_tuple_of (by rfl) B.tuple (by decide +kernel) (w_cons (w_frz (pv 3)) w_nil))) w_nil))))))), ?_⟩
  rintro d l c ds kk ⟨n, rfl, hn, k⟩
  have mem : ∀ ρ : En, ρ[0]? = some (some (.drw d l c)) → some (Sl.drw d l c) ∈ ρ := fun ρ h => List.mem_of_getElem? h
  have lsz : ∀ m : Nat, m ≤ 7 → m ≤ sizeLine := fun m hm => by rw [sizeLine_eq]; omega
  refine ⟨_, rfl, (n : Int), rfl, by omega, by omega, ?_⟩
  rw [rg_nat]
  refine lc2P_all (fun i : Nat => Da.int (i : Nat)) (fun i => rwD n (Dt.mid []) i) (src := List.range n) (fun i hi => ?_) (by rw [List.length_range, List.length_nil, Nat.zero_add]; exact lsz n hn) ?_
  · refine ⟨by show 1 ≤ sizeLine; decide, _, rfl, [.int 0], (n : Int), rfl, rfl, ⟨by omega, by omega⟩, ?_, ?_, rfl⟩
    · show 1 * n ≤ sizeLine
      rw [Nat.one_mul]
      exact lsz n hn
    · show (List.replicate n [Da.int 0]).flatten = (List.range n).map fun _ => Da.int 0
      have : ∀ m : Nat, (List.replicate m [Da.int 0]).flatten = (List.range m).map fun _ => Da.int 0 := fun m => by
        induction m with
        | zero => rfl
        | succ m ih =>
          rw [List.replicate_succ, List.flatten_cons, ih, List.range_succ_eq_map, List.map_cons, List.map_map]
          rfl
      exact this n
  refine ⟨by show 3 ≤ sizeLine; decide, ?_⟩
  intro q hq p qs hqs
  refine ⟨fun m ρ => ∃ (bs : List Dt.Bl) (q p : Addr) (qs : List (Addr × List Da)) (x6 x7 x8 : Option Sl), ρ = [some (.drw d l c), some (.dat (.int (n : Nat))), some (.gr2 p qs), some (.gro q [.int ((Dt.cnt bs).1 : Nat), .int ((Dt.cnt bs).2.1 : Nat), .int ((Dt.cnt bs).2.2 : Nat)]), some (.dat (.int (Dt.siz bs : Nat))), none, x6, x7, x8] ∧
    m = n - Dt.siz bs ∧ qs.map Prod.snd = yT n (Dt.mid bs) ∧ Dt.siz bs ≤ n ∧ (∀ b ∈ bs, Dt.BlB (10 ^ 20) b) ∧ (∀ x, Dt.Bl.two x ∈ bs → x ≠ 0), ⟨n, [], q, p, qs, none, none, none, rfl, rfl, hqs, Nat.zero_le _, (fun b h => by cases h), (fun b h => by cases h)⟩, ?_⟩
  clear hqs hq
  rintro m ρ ⟨bs, q, p, qs, x6, x7, x8, rfl, rfl, hqs, hle, hbd, hne⟩
  refine ⟨_, rfl, _, rfl, _, _, rfl, rfl, trivial, _, rfl, bite (fun hb => ?_) fun hb => ?_⟩
  · have hk : Dt.siz bs < n := by
      have := of_decide_eq_true hb
      omega
    clear hb
    refine ⟨d, l, c, rfl, mem _ rfl, _, rfl, by decide, log2_take (by decide) (by decide), fun kd k0 k1 => ?_⟩
    refine ⟨d, l, c, rfl, d, l, c, rfl, _, _, rfl, rfl, ⟨by decide, by decide, by decide⟩, by show 3 ≤ sizeLine; decide, mem _ rfl, _, rfl, (fun z => by cases z), by show 3 ≤ 1000000; decide, fun y hy => ?_⟩
    obtain ⟨N, rfl, N0, N1⟩ : ∃ N : Int, y = .int N ∧ 0 < N ∧ N ≤ 10 ^ 20 := by
      rcases List.mem_cons.mp hy with h | hy
      · exact ⟨_, h, by decide, by decide⟩
      · rcases List.mem_cons.mp hy with h | hy
        · exact ⟨_, h, by decide, by decide⟩
        · rcases List.mem_cons.mp hy with h | hy
          · exact ⟨_, h, by decide, by decide⟩
          · cases hy
    have hN : Sml N := Nat.lt_of_le_of_lt (m := 10 ^ 20) (by omega) (by decide)
    refine ⟨mem _ rfl, _, rfl, N0, sml_div hN, fun r r0 r1 => ⟨_, _, rfl, rfl, trivial, ?_⟩⟩
    obtain ⟨x, hx, x0, x1⟩ : ∃ x : Int, x = 1 + r ∧ 0 < x ∧ x ≤ 10 ^ 20 := ⟨1 + r, rfl, by omega, by omega⟩
    obtain ⟨q0, hq0⟩ := qs_at hqs hk
    have h5 : kd = 0 ∨ kd = 1 ∨ kd = 2 ∨ kd = 3 ∨ kd = 4 := by omega
    obtain ⟨j, v, cc, hj, hv, vb, hc, hcc⟩ : ∃ (j : Nat) (v : Int) (cc : Nat), kd.fmod 3 = (j : Nat) ∧ [Da.int (1 + r), Da.int (0 - (1 + r)), Da.int 0][j]? = some (.int v) ∧ Dt.BlB (10 ^ 20) (.one v) ∧ [Da.int ((Dt.cnt bs).1 : Nat), Da.int ((Dt.cnt bs).2.1 : Nat), Da.int ((Dt.cnt bs).2.2 : Nat)][j]? = some (.int (cc : Nat)) ∧
        [Da.int ((Dt.cnt bs).1 : Nat), Da.int ((Dt.cnt bs).2.1 : Nat), Da.int ((Dt.cnt bs).2.2 : Nat)].set j (.int ((cc : Int) + 1)) = [Da.int ((Dt.cnt (.one v :: bs)).1 : Nat), Da.int ((Dt.cnt (.one v :: bs)).2.1 : Nat), Da.int ((Dt.cnt (.one v :: bs)).2.2 : Nat)] := by
      have b1 : Dt.BlB (10 ^ 20) (.one (1 + r)) := show (1 + r).natAbs ≤ 10 ^ 20 by omega
      have b2 : Dt.BlB (10 ^ 20) (.one (0 - (1 + r))) := show (0 - (1 + r)).natAbs ≤ 10 ^ 20 by omega
      have e1 : Dt.cnt (.one (1 + r) :: bs) = ((Dt.cnt bs).1 + 1, (Dt.cnt bs).2.1, (Dt.cnt bs).2.2) := by
        simp only [Dt.cnt]
        rw [if_pos (by omega), if_neg (by omega), if_neg (by omega)]
        rfl
      have e2 : Dt.cnt (.one (0 - (1 + r)) :: bs) = ((Dt.cnt bs).1, (Dt.cnt bs).2.1 + 1, (Dt.cnt bs).2.2) := by
        simp only [Dt.cnt]
        rw [if_neg (by omega), if_pos (by omega), if_neg (by omega)]
        rfl
      rcases h5 with rfl | rfl | rfl | rfl | rfl
      · exact ⟨0, _, _, rfl, rfl, b1, rfl, by rw [e1]; rfl⟩
      · exact ⟨1, _, _, rfl, rfl, b2, rfl, by rw [e2]; rfl⟩
      · exact ⟨2, _, _, rfl, rfl, Nat.zero_le _, rfl, rfl⟩
      · exact ⟨0, _, _, rfl, rfl, b1, rfl, by rw [e1]; rfl⟩
      · exact ⟨1, _, _, rfl, rfl, b2, rfl, by rw [e2]; rfl⟩
    refine ⟨_, rfl, _, _, rfl, rfl, trivial, _, rfl, bite (fun h2 => ?_) fun h2 => ?_⟩
    · refine ⟨_, rfl, _, _, rfl, rfl, trivial, _, rfl, _, _, rfl, rfl, trivial, _, rfl, bite (fun h3 => ?_) fun h3 => ?_⟩
      · have hk1 : Dt.siz bs + 1 < n := by
          have := of_decide_eq_true h3
          omega
        refine ⟨p, qs, rfl, _, rfl, qs, Dt.siz bs, q0, _, rfl, rfl, hq0, Nat.lt_succ_self 8, by decide, _, rfl, _, rfl, _, _, rfl, rfl, trivial, _, Dt.siz bs + 1, rfl, rfl, ixN_at (by rw [rwD_len]; exact hk1), ?_⟩
        have hqs1 := qs_set hqs hk hk1 q0 (1 + r)
        obtain ⟨q1, hq1⟩ := qs_at hqs1 hk1
        refine ⟨p, _, rfl, _, rfl, _, _, rfl, rfl, trivial, _, Dt.siz bs + 1, q1, _, rfl, rfl, hq1, Nat.lt_succ_self 8, by decide, _, rfl, _, rfl, _, Dt.siz bs, rfl, rfl, ixN_at (by rw [rwD_len]; exact hk), ?_⟩
        have hqs2 := qs_set hqs1 hk1 hk q1 (1 + r)
        refine ⟨q, _, rfl, _, (0 : Int), .int ((Dt.cnt bs).1 : Nat), rfl, rfl, Fw.atI_nat (j := 0) rfl, _, _, rfl, rfl, trivial, q, _, rfl, _, (1 : Int), .int ((Dt.cnt bs).2.1 : Nat), rfl, rfl, Fw.atI_nat (j := 1) rfl, _, _, rfl, rfl, trivial, q, _, rfl, _, (2 : Int), .int ((Dt.cnt bs).2.2 : Nat), rfl, rfl, Fw.atI_nat (j := 2) rfl, by show 3 ≤ sizeLine; decide, ?_⟩
        intro q5 hq5
        refine ⟨_, rfl, _, _, rfl, rfl, trivial, n - (Dt.siz bs + 2), by omega, .two (1 + r) :: bs, q5, p, _, _, _, _, rfl, rfl, hqs2.trans (yT_congr fun a b ha hb => ?_), hk1, fun b0 h0 => ?_, fun z hz => ?_⟩
        · show (if a = Dt.siz bs + 1 ∧ b = Dt.siz bs then 1 + r else if a = Dt.siz bs ∧ b = Dt.siz bs + 1 then 1 + r else Dt.mid bs a b) = if _ then 1 + r else Dt.mid bs a b
          by_cases z1 : a = Dt.siz bs + 1 ∧ b = Dt.siz bs
          · rw [if_pos z1, if_pos (.inr z1)]
          · by_cases z2 : a = Dt.siz bs ∧ b = Dt.siz bs + 1
            · rw [if_neg z1, if_pos z2, if_pos (.inl z2)]
            · rw [if_neg z1, if_neg z2, if_neg fun z => z.elim z2 z1]
        · rcases List.mem_cons.mp h0 with e | h0
          · rw [e]
            show (1 + r).natAbs ≤ 10 ^ 20
            omega
          · exact hbd b0 h0
        · rcases List.mem_cons.mp hz with e | hz
          · injection e with e
            omega
          · exact hne z hz
      · refine ⟨p, qs, rfl, _, rfl, qs, Dt.siz bs, q0, _, rfl, rfl, hq0, Nat.lt_succ_self 8, by decide, _, rfl, _, rfl, _, _, rfl, rfl, trivial, by show 3 ≤ sizeLine; decide, _, rfl, _, _, rfl, rfl, (show (3 : Int) ≠ 0 by decide), _, kd.fmod 3, .int v, rfl, rfl, ?_, _, rfl, (Dt.siz bs : Int), Dt.siz bs, rfl, rfl, ixN_at (by rw [rwD_len]; exact hk), ?_⟩
        · rw [hj]
          exact Fw.atI_nat hv
        refine ⟨q, _, rfl, _, rfl, _, _, rfl, rfl, (show (3 : Int) ≠ 0 by decide), _, kd.fmod 3, .int (cc : Nat), rfl, rfl, ?_, _, _, rfl, rfl, trivial, q, _, rfl, _, rfl, _, _, rfl, rfl, (show (3 : Int) ≠ 0 by decide), _, kd.fmod 3, j, rfl, rfl, ?_, ?_⟩
        · rw [hj]
          exact Fw.atI_nat hc
        · rw [hj]
          exact ixN_at (List.getElem?_eq_some_iff.mp hc).1
        rw [hcc]
        refine ⟨_, rfl, _, _, rfl, rfl, trivial, n - (Dt.siz bs + 1), by omega, .one v :: bs, q, p, _, _, _, _, rfl, rfl, (qs_set hqs hk hk q0 v).trans (yT_congr fun a b ha hb => rfl), hk, fun b0 h0 => ?_, fun z hz => ?_⟩
        · rcases List.mem_cons.mp h0 with e | h0
          · rw [e]
            exact vb
          · exact hbd b0 h0
        · rcases List.mem_cons.mp hz with e | hz
          · cases e
          · exact hne z hz

    · refine ⟨p, qs, rfl, _, rfl, qs, Dt.siz bs, q0, _, rfl, rfl, hq0, Nat.lt_succ_self 8, by decide, _, rfl, _, rfl, _, _, rfl, rfl, trivial, by show 3 ≤ sizeLine; decide, _, rfl, _, _, rfl, rfl, (show (3 : Int) ≠ 0 by decide), _, kd.fmod 3, .int v, rfl, rfl, ?_, _, rfl, (Dt.siz bs : Int), Dt.siz bs, rfl, rfl, ixN_at (by rw [rwD_len]; exact hk), ?_⟩
      · rw [hj]
        exact Fw.atI_nat hv
      refine ⟨q, _, rfl, _, rfl, _, _, rfl, rfl, (show (3 : Int) ≠ 0 by decide), _, kd.fmod 3, .int (cc : Nat), rfl, rfl, ?_, _, _, rfl, rfl, trivial, q, _, rfl, _, rfl, _, _, rfl, rfl, (show (3 : Int) ≠ 0 by decide), _, kd.fmod 3, j, rfl, rfl, ?_, ?_⟩
      · rw [hj]
        exact Fw.atI_nat hc
      · rw [hj]
        exact ixN_at (List.getElem?_eq_some_iff.mp hc).1
      rw [hcc]
      refine ⟨_, rfl, _, _, rfl, rfl, trivial, n - (Dt.siz bs + 1), by omega, .one v :: bs, q, p, _, _, _, _, rfl, rfl, (qs_set hqs hk hk q0 v).trans (yT_congr fun a b ha hb => rfl), hk, fun b0 h0 => ?_, fun z hz => ?_⟩
      · rcases List.mem_cons.mp h0 with e | h0
        · rw [e]
          exact vb
        · exact hbd b0 h0
      · rcases List.mem_cons.mp hz with e | hz
        · cases e
        · exact hne z hz

  · have e : Dt.siz bs = n := by
      have := of_decide_eq_false hb
      omega
    have h2 := k bs ⟨e, hn, hbd, hne⟩
    refine ⟨p, qs, rfl, q, _, rfl, _, .inl rfl, by show 2 ≤ sizeLine; decide, mem _ rfl, ?_⟩
    rw [show (qs.map fun q : Addr × List Da => Da.lst q.2) = (qs.map Prod.snd).map Da.lst by rw [List.map_map]; rfl, hqs, yT_ll]
    exact h2
end
end Fv

namespace Fw
open PySem PySem.Spec PyProof.Rows L2 Fr Fv
theorem w_dict0K {X : Cx} {L : Ly} {e : Expr} (LK : LyK L) (p : PE X e tDNewK) : PE X e (tW L (pC (.obj 0 []))) := PE.imp p fun σ H Q ⟨B, G, ρ, r, h⟩ q hq =>
  h _ _ _ (r.lay hq) (same_upd (r.gh.free hq)) (.obj (LK.emp.mpr ⟨q, [], rfl, upd_same, rfl⟩) .nil)
end Fw
namespace Fv
open PySem PySem.Spec PyProof.Rows L2 Fr Fw Fs
section
variable {P : Program} {w : World} {L : Ly} {T : Xt} {mg : Str → Option Value} {base : Heap} {f g : Addr} {fd fdC : FuncData} {cF c9 : Addr} {TT : List (Addr × Str)}
abbrev s_law_refuses : Stmt := topS 30
theorem sc_law_refuses : FnScope ["draw", "bad", "uneven", "~"] ["draw"] (C8.fnScope s_law_refuses) := C8.fnScope_by (by decide +kernel)
theorem cl_law_refuses : ∀ y ∈ (["bad", "uneven"] : List Str), (C8.fnScope s_law_refuses).names.lookup y = some .cell ∨ (C8.fnScope s_law_refuses).names.lookup y = some .free := by decide +kernel
def fBadT2 : Pe := ⟨fun _ _ x => x eTb, fun _ hx b => hx _ b⟩
structure Kt19 (K : Frag) (mg : Str → Option Value) (T : Xt) (cF c9 : Addr) : Prop where
  gF : mg "FlatError" = some (.ref cF)
  ef : ∀ n, PySem.W.exmOne K (.ref (T n).1) (.ref cF) = some true
  xc : ∀ n, ExcC K (T n).1
  n9 : PySem.W.kitOne K (.type "NoneType") (.ref c9) = some false
def kndB : Da → Bool := fun d => (tyD d).isSome
theorem kndB_ok {d : Da} (h : kndB d = true) : Kn d := Option.isSome_iff_exists.mp h
def knIB (d : Da) : Bool := kndB d && (decide ((itD d).length ≤ 1000) && (itD d).all kndB)
theorem knIB_ok {d : Da} (h : knIB d = true) : KnI d := by
  unfold knIB at h
  rw [Bool.and_eq_true, Bool.and_eq_true, decide_eq_true_eq, List.all_eq_true] at h
  exact ⟨kndB_ok h.1, h.2.1, fun x hx => kndB_ok (h.2.2 x hx)⟩
def knTB (d : Da) : Bool := kndB d && (decide ((itD d).length ≤ 1000) && (itD d).all knIB)
theorem knTB_ok {d : Da} (h : knTB d = true) : KnT d := by
  unfold knTB at h
  rw [Bool.and_eq_true, Bool.and_eq_true, decide_eq_true_eq, List.all_eq_true] at h
  exact ⟨kndB_ok h.1, h.2.1, fun x hx => knIB_ok (h.2.2 x hx)⟩
abbrev qR19 : Str := "_law_refuses.<locals>.<lambda>"
abbrev il (ns : List Int) : Da := .lst (ns.map Da.int)
def Bd19 : List Da := [.non, .int 5, .lst [.int 1], .lst [.lst [.int 1, .int 2]], .lst [.lst [.int 1], .lst [.int 2]], .lst [.lst [.int 1, .int 2], .lst [.int 3]], .lst [.lst [.non]], .lst [.lst [.bl true]], .str "1", .lst [.str "1"], .lst [.lst [.int 1, .int 2], .lst [.int 3, .int 4], .lst [.int 5, .int 6]], .obj 0 []]
theorem bd19_ok : ∀ z ∈ Bd19, KnT z ∧ sqB z = false := fun z hz => by
  have key : ∀ z ∈ Bd19, knTB z = true ∧ sqB z = false := by
    simp only [Bd19, List.forall_mem_cons]
    exact ⟨⟨rfl, rfl⟩, ⟨rfl, rfl⟩, ⟨rfl, rfl⟩, ⟨rfl, rfl⟩, ⟨rfl, rfl⟩, ⟨rfl, rfl⟩, ⟨rfl, rfl⟩, ⟨rfl, rfl⟩, ⟨rfl, rfl⟩, ⟨rfl, rfl⟩, ⟨rfl, rfl⟩, ⟨rfl, rfl⟩, fun _ z => by cases z⟩
  exact ⟨knTB_ok (key z hz).1, (key z hz).2⟩
def Unev (z : Da) : Prop := ∃ b c T, z = tbD b c T ∧ T.length ≤ 7 ∧ Sq T ∧ T ≠ tpo T
def Un19 : List Da := [.lst [.lst [.int 1, .int 2], .lst [.int 3, .int 1]], .tup [.tup [.int 0, .int 1], .tup [.int (-1), .int 0]], .lst [.lst [.int 0, .int 0, .int 1], .lst [.int 0, .int 0, .int 0], .lst [.int 2, .int 0, .int 0]]]
theorem un19_ok : ∀ z ∈ Un19, Unev z := by
  simp only [Un19, List.forall_mem_cons]
  exact ⟨⟨false, false, [[1, 2], [3, 1]], rfl, by decide, by unfold Sq; decide, by decide⟩, ⟨true, true, [[0, 1], [-1, 0]], rfl, by decide, by unfold Sq; decide, by decide⟩, ⟨false, false, [[0, 0, 1], [0, 0, 0], [2, 0, 0]], rfl, by decide, by unfold Sq; decide, by decide⟩, fun _ z => by cases z⟩
theorem unev_sgn {z : Da} {kk : Nv → Prop} {xx : Ed → Prop} (hz : Unev z) (h : xx eTb) : fSgn.f [z] kk xx := by
  obtain ⟨b, c, T, rfl, hl, hn, ne⟩ := hz
  exact ⟨_, rfl, knT_tab (by omega) (fun r hr => by rw [hn r hr]; omega), fun _ => h, fun _ => ⟨b, c, T, rfl, hl, hn, fun _ => h, fun e => absurd e ne⟩⟩
def fRefT : Pf := ⟨fun xs k => xs = [] ∧ k (.bl true), fun h ⟨a, q⟩ => ⟨a, h _ q⟩⟩
theorem ok_law_refuses (LK : LyK L) (LE : LyE L T) (Kt : Kt19 L.K mg T cF c9) (Fd : C8.Def L.K mg "_law_refuses" s_law_refuses f fd) (b : Binds L.K fd ["draw"] []) (B : Bw mg) (Bx : Bx mg)
    (hT : TabIn base mg fd.code qR19 TT) (TN : ErTb P w L.K mg base T c9) (FdC : C8.Def L.K mg "_law_caught" s_law_caught g fdC) (bC : Binds L.K fdC ["work"] []) (c_law_pick : CalG P w L.K mg base C8.CX0 3 "_law_pick" (spD L fPick))
    (x_determinant : ∀ B', CalG P w L.K mg B' (L2.CX P w) 4 "determinant" (spE L T fDet)) (x_sign_counts : ∀ B', CalG P w L.K mg B' (L2.CX P w) 4 "sign_counts" (spE L T fSgn)) :
    CalG P w L.K mg base C8.CX0 8 "_law_refuses" (spDT L TT fRefT) := by
  have sc := sc_law_refuses
  have e9 : (T 9).1 = c9 := by rw [TN.t9]
  refine calDT (n := 2) Fd b sc ?_ (fun v vs h => ?_) fun cdv A outer s H E hcd hr hgu => ?_
  · rintro ds k ⟨rfl, _⟩
    rfl
  · rw [start_eq (n := 3) (by show 4 = (vs.length + 1) + 3; rw [h]; rfl)]
    rfl
  subst hcd
  refine ⟨_, w_seq (w_set (ps_set (i := 1) sc.nd rfl (by first | exact Or.inl rfl | exact Or.inr rfl) (w_callD c_law_pick hr (by decide) hgu rfl (pv 0) (w_cons (w_lst (w_cons (w_non pe_non) (w_cons (w_int (kd := 0) pe_int) (w_cons (w_lst (w_cons (w_int (kd := 0) pe_int) w_nil)) (w_cons (w_lst (w_cons (w_lst (w_cons (w_int (kd := 0) pe_int) (w_cons (w_int (kd := 0) pe_int) w_nil))) w_nil)) (w_cons (w_lst (w_cons (w_lst (w_cons (w_int (kd := 0) pe_int) w_nil)) (w_cons (w_lst (w_cons (w_int (kd := 0) pe_int) w_nil)) w_nil))) (w_cons (w_lst (w_cons (w_lst (w_cons (w_int (kd := 0) pe_int) (w_cons (w_int (kd := 0) pe_int) w_nil))) (w_cons (w_lst (w_cons (w_int (kd := 0) pe_int) w_nil)) w_nil))) (w_cons (w_lst (w_cons (w_lst (w_cons (w_non pe_non) w_nil)) w_nil)) (w_cons (w_lst (w_cons (w_lst (w_cons (w_bl pe_bl) w_nil)) w_nil)) (w_cons (w_str pe_str) (w_cons (w_lst (w_cons (w_str pe_str) w_nil)) (w_cons (w_lst (w_cons (w_lst (w_cons (w_int (kd := 0) pe_int) (w_cons (w_int (kd := 0) pe_int) w_nil))) (w_cons (w_lst (w_cons (w_int (kd := 0) pe_int) (w_cons (w_int (kd := 0) pe_int) w_nil))) (w_cons (w_lst (w_cons (w_int (kd := 0) pe_int) (w_cons (w_int (kd := 0) pe_int) w_nil))) w_nil)))) (w_cons (w_dict0K LK pe_dnewK) w_nil))))))))))))) w_nil))))
  (w_seq (w_if (ps_if (w_notT (pt_not (w_val (pt_val (w_isE LE Kt.xc Kt.n9 (pe_callB call_isB (by rfl) Bx.isinstance (by decide +kernel) (pa_cons (w_lam0 (T := TT) (N := ["bad"]) (ps := []) (cs := ["bad"]) (is := [1]) (kk := 6) (emb := fun z : Da => [z]) (C := fun z => KnT z ∧ sqB z = false) (FF := fun _ => fCaE fBadT2)
          ⟨hT, by exact lamN_by (by decide +kernel), by exact rfl, (fun y hy => cl_law_refuses y (by revert hy; revert y; decide)), rfl, fun _ => rfl⟩ rfl rfl FdC.mgf FdC.kp (hr.mono (by decide)) hgu (fun B' fl c G0 ws z cl at_ dcs hz => ok_caughtE LE FdC bC Kt.gF Kt.ef (lam_E (n := 0) (N := ["bad"]) (x_determinant B') (lamN_by (by decide +kernel)) at_ dcs (fun _ _ => rfl) rfl (fun A outer s H E => ⟨rfl, w_cons (w_v (pv 0)) w_nil, rfl, rfl⟩) (fun kk xx h => ⟨_, rfl, z, rfl, hz.1, fun _ => h, fun e => by rw [hz.2] at e; cases e⟩)))) (pa_cons (pe_glob (v := .ref c9) rfl TN.g9 rfl) pa_nil))))))))
   (w_one (w_ret (ps_ret (w_bl pe_bl))))
   (w_snil pss_nil)))
  (w_seq (w_if (ps_if (w_notT (pt_not (w_val (pt_val (w_isE LE Kt.xc Kt.n9 (pe_callB call_isB (by rfl) Bx.isinstance (by decide +kernel) (pa_cons (w_lam0 (T := TT) (N := ["bad"]) (ps := []) (cs := ["bad"]) (is := [1]) (kk := 6) (emb := fun z : Da => [z]) (C := fun z => KnT z ∧ sqB z = false) (FF := fun _ => fCaE fBadT2)
          ⟨hT, by exact lamN_by (by decide +kernel), by exact rfl, (fun y hy => cl_law_refuses y (by revert hy; revert y; decide)), rfl, fun _ => rfl⟩ rfl rfl FdC.mgf FdC.kp (hr.mono (by decide)) hgu (fun B' fl c G0 ws z cl at_ dcs hz => ok_caughtE LE FdC bC Kt.gF Kt.ef (lam_E (n := 0) (N := ["bad"]) (x_sign_counts B') (lamN_by (by decide +kernel)) at_ dcs (fun _ _ => rfl) rfl (fun A outer s H E => ⟨rfl, w_cons (w_v (pv 0)) w_nil, rfl, rfl⟩) (fun kk xx h => ⟨_, rfl, z, rfl, hz.1, fun _ => h, fun e => by rw [hz.2] at e; cases e⟩)))) (pa_cons (pe_glob (v := .ref c9) rfl TN.g9 rfl) pa_nil))))))))
   (w_one (w_ret (ps_ret (w_bl pe_bl))))
   (w_snil pss_nil)))
  (w_seq (w_set (ps_set (i := 2) sc.nd rfl (by first | exact Or.inl rfl | exact Or.inr rfl) (w_callD c_law_pick hr (by decide) hgu rfl (pv 0) (w_cons (w_lst (w_cons (w_lst (w_cons (w_lst (w_cons (w_int (kd := 0) pe_int) (w_cons (w_int (kd := 0) pe_int) w_nil))) (w_cons (w_lst (w_cons (w_int (kd := 0) pe_int) (w_cons (w_int (kd := 0) pe_int) w_nil))) w_nil))) (w_cons (w_tup (w_cons (w_tup (w_cons (w_int (kd := 0) pe_int) (w_cons (w_int (kd := 0) pe_int) w_nil))) (w_cons (w_tup (w_cons (w_neg (pe_un un_neg (w_int (kd := 0) pe_int))) (w_cons (w_int (kd := 0) pe_int) w_nil))) w_nil))) (w_cons (w_lst (w_cons (w_lst (w_cons (w_int (kd := 0) pe_int) (w_cons (w_int (kd := 0) pe_int) (w_cons (w_int (kd := 0) pe_int) w_nil)))) (w_cons (w_lst (w_cons (w_int (kd := 0) pe_int) (w_cons (w_int (kd := 0) pe_int) (w_cons (w_int (kd := 0) pe_int) w_nil)))) (w_cons (w_lst (w_cons (w_int (kd := 0) pe_int) (w_cons (w_int (kd := 0) pe_int) (w_cons (w_int (kd := 0) pe_int) w_nil)))) w_nil)))) w_nil)))) w_nil))))
  (w_one (w_ret (ps_ret (w_isE LE Kt.xc Kt.n9 (pe_callB call_isB (by rfl) Bx.isinstance (by decide +kernel) (pa_cons (w_lam0 (T := TT) (N := ["uneven"]) (ps := []) (cs := ["uneven"]) (is := [2]) (kk := 6) (emb := fun z : Da => [z]) (C := fun z => Unev z) (FF := fun _ => fCaE fBadT2)
          ⟨hT, by exact lamN_by (by decide +kernel), by exact rfl, (fun y hy => cl_law_refuses y (by revert hy; revert y; decide)), rfl, fun _ => rfl⟩ rfl rfl FdC.mgf FdC.kp (hr.mono (by decide)) hgu (fun B' fl c G0 ws z cl at_ dcs hz => ok_caughtE LE FdC bC Kt.gF Kt.ef (lam_E (n := 0) (N := ["uneven"]) (x_sign_counts B') (lamN_by (by decide +kernel)) at_ dcs (fun _ _ => rfl) rfl (fun A outer s H E => ⟨rfl, w_cons (w_v (pv 0)) w_nil, rfl, rfl⟩) (fun kk xx h => ⟨_, rfl, unev_sgn hz h⟩)))) (pa_cons (pe_glob (v := .ref c9) rfl TN.g9 rfl) pa_nil)))))))))), ?_⟩
  rintro d l c ds kk ⟨rfl, k⟩
  have D : ∀ n : Nat, n ≤ 20 → n ≤ sizeLine := fun n h => Nat.le_trans h (by decide)
  have mT : ∀ x0 x1 x2 : Option Sl, some (Sl.tab TT) ∈ [x0, x1, x2, some (.tab TT)] := fun x0 x1 x2 => List.mem_of_getElem? (i := 3) rfl
  have hk9 : PySem.W.kitOne L.K (.ref (T eTb.n).1) (.ref c9) = some true := by
    show PySem.W.kitOne L.K (.ref (T 9).1) (.ref c9) = some true
    rw [e9]
    unfold PySem.W.kitOne
    rw [if_pos (beq_self_eq_true _)]
  refine ⟨d, l, c, rfl, D 1 (by decide), D 2 (by decide), D 1 (by decide), D 1 (by decide), D 1 (by decide), D 2 (by decide), D 2 (by decide), D 1 (by decide), D 2 (by decide), D 1 (by decide), D 1 (by decide), D 1 (by decide), D 1 (by decide), D 1 (by decide), D 2 (by decide), D 2 (by decide), D 2 (by decide), D 3 (by decide), D 12 (by decide), List.mem_cons_self, Bd19, rfl, (fun z => by cases z), by show 12 ≤ 1000000; decide, fun z hz => ?_⟩
  have hz := bd19_ok z hz
  refine ⟨mT _ _ _, z, rfl, hz, ⟨rfl, rfl, rfl, true, .inr ⟨eTb, rfl, hk9⟩, _, rfl, bite (fun h => by cases h) fun _ => ?_⟩⟩
  refine ⟨mT _ _ _, z, rfl, hz, ⟨rfl, rfl, rfl, true, .inr ⟨eTb, rfl, hk9⟩, _, rfl, bite (fun h => by cases h) fun _ => ?_⟩⟩
  refine ⟨d, l, c, rfl, D 2 (by decide), D 2 (by decide), D 2 (by decide), D 2 (by decide), 1, rfl, D 2 (by decide), D 2 (by decide), D 3 (by decide), D 3 (by decide), D 3 (by decide), D 3 (by decide), D 3 (by decide), List.mem_cons_self, Un19, rfl, (fun z => by cases z), by show 3 ≤ 1000000; decide, fun u hu => ?_⟩
  have hu := un19_ok u hu
  exact ⟨mT _ _ _, u, rfl, hu, ⟨rfl, rfl, rfl, true, .inr ⟨eTb, rfl, hk9⟩, List.mem_cons_self, k⟩⟩
end
end Fv

namespace Fw
open PySem PySem.Spec PyProof.Rows L2 Fr
section
variable {L : Ly} {B : Bs} {G H G' H' : Hp} {σ : L2.St} {ρ : En} {d l cc : Addr}
section
variable {P : Program} {w : World} {L : Ly} {T : Xt} {mg : Str → Option Value} {base : Heap} {f c d l cc : Addr} {G0 : Hp} {N cs : List Str} {qual : Str} {params : Arguments} {scope : Scope} {cl : List (Str × Addr)} {us : List V} {ds : List Da} {k : Nat} {p pos : Pos} {gg : Pl} {F : Pe} {x : Str} {e1 : PySem.Expr} {es : List PySem.Expr} {er : Ed}
end
section
variable {X : Cx} {L : Ly} {er : Ed}
end
end
end Fw
namespace Fv
open PySem PySem.Spec PyProof.Rows L2 Fr Fw Fs
section
variable {P : Program} {w : World} {L : Ly} {T : Xt} {mg : Str → Option Value} {base : Heap} {f g d l cc : Addr} {fd : FuncData} {cF : Addr} {G0 : Hp} {er : Ed}
end
end Fv

namespace Fw
open PySem PySem.Spec PyProof.Rows L2 Fr Fv
section
variable {X : Cx} {L : Ly} {e : Expr} {B : Bs} {G H : Hp} {σ : L2.St} {ρ : En}
theorem Rep.lend (r : Rep L B G H σ ρ) {i : Nat} {p : Addr} {ds : List Da} (h : ρ[i]? = some (some (.gro p ds))) : σ[i]? = some (some (.ref p)) ∧ ∃ G1, Same G1 H ∧ Dv L G1 (.ref p) (.lst ds) ∧ ∀ G' H', Grow M0 G1 H G' H' → Rep L B G H' σ ρ := by
  obtain ⟨hs, hG, _, _, us, hu, du⟩ := gro_at r h
  have s1 := same_upd (o := .lst us) hG
  refine ⟨hs, upd G p (.lst us), fun b u eb => ?_, .lst upd_same (dvs_same s1 du), fun G' H' g => ?_⟩
  · by_cases hb : b = p
    · subst hb
      rw [upd_same] at eb
      rw [hu]
      exact eb
    · rw [upd_ne hb] at eb
      exact r.gh b u eb
  · exact r.go ⟨Same.refl _, (s1.trans g.gg).trans g.gh, g.hh, g.tr, fun _ _ n => n⟩
def pLendE (i : Nat) (F : Pe) : Px := ⟨fun ρ k => ∃ p ds, ρ[i]? = some (some (.gro p ds)) ∧ F.f [.lst ds] (fun z => ∃ n, z = .dat (.int n) ∧ k (.int n) ρ) (fun _ => False), fun h ⟨p, ds, e, q⟩ => ⟨p, ds, e, F.mono (fun _ ⟨n, a, b⟩ => ⟨n, a, h _ _ b⟩) (fun _ z => z) q⟩⟩
theorem w_lendE {i : Nat} {F : Pe} (p : PE X e (tE0 L F (tCons (tVar i) tNil))) : PE X e (tW L (pLendE i F)) := PE.imp p fun σ H Q ⟨B, G, ρ, r, a, ds, hi, h⟩ => by
  obtain ⟨hs, G1, sH, dv, hg⟩ := r.lend hi
  refine ⟨_, hs, G1, [.lst ds], sH, .cons dv .nil, F.mono (fun z hz => ?_) (fun _ z => z) h⟩
  obtain ⟨n, rfl, k⟩ := hz
  intro v G' H' g d
  exact k v G H' (hg G' H' g) (Same.refl _) (by rw [dv_int d]; exact .int _)
def pLendF (i : Nat) (F : Pf) : Px := ⟨fun ρ k => ∃ p ds, ρ[i]? = some (some (.gro p ds)) ∧ F.f [.lst ds] (fun z => ∃ n, z = .int n ∧ k (.int n) ρ), fun h ⟨p, ds, e, q⟩ => ⟨p, ds, e, F.mono (fun _ ⟨n, a, b⟩ => ⟨n, a, h _ _ b⟩) q⟩⟩
theorem w_lendF {i : Nat} {F : Pf} (p : PE X e (tCall (spF L F) [] C8.E0 (tCons (tVar i) tNil))) : PE X e (tW L (pLendF i F)) := PE.imp p fun σ H Q ⟨B, G, ρ, r, a, ds, hi, h⟩ => by
  obtain ⟨hs, G1, sH, dv, hg⟩ := r.lend hi
  refine ⟨_, hs, G1, [.lst ds], sH, .cons dv .nil, F.mono (fun z hz => ?_) h⟩
  obtain ⟨n, rfl, k⟩ := hz
  intro v G' H' g d
  exact k v G H' (hg G' H' g) (Same.refl _) (by rw [dv_int d]; exact .int _)
end
end Fw

namespace Fv
open PySem PySem.Spec PyProof.Rows L2 Fr Fw Fs
def cnL (bs : List Dt.Bl) : List Int := [((Dt.cnt bs).1 : Nat), ((Dt.cnt bs).2.1 : Nat), ((Dt.cnt bs).2.2 : Nat)]
theorem tpo_tab {n : Nat} {M : Dt.Mx} (h : ∀ i j, i < n → j < n → M i j = M j i) : tpo (Dt.tab n M) = Dt.tab n M := by
  unfold tpo
  rw [Dt.tab_len]
  conv => rhs; rw [Dt.tab]
  refine List.map_congr_left fun j hj => ?_
  have hj := List.mem_range.mp hj
  rw [Dt.tab, List.map_map]
  refine List.map_congr_left fun i hi => ?_
  have hi := List.mem_range.mp hi
  show ((List.range n).map fun j => M i j).getD j 0 = M j i
  rw [List.getD_eq_getElem?_getD, List.getElem?_map, List.getElem?_range hj]
  exact h i j hi hj
theorem sgn_told {n : Nat} {bs : List Dt.Bl} {R M : Dt.Mx} {b c : Bool} {kk : Nv → Prop} {xx : Ed → Prop} (o : Dt.Onto n R) (hs : Dt.siz bs = n) (hx : ∀ x, Dt.Bl.two x ∈ bs → x ≠ 0) (hn : n ≤ 7) (h : ∀ i j, i < n → j < n → M i j = Dt.bent n R (Dt.mid bs) i j)
    (hb : ∀ i j, i < n → j < n → (M i j).natAbs ≤ 2 ^ 180) (k : kk (.dat (ti (cnL bs)))) : fSgn.f [tbD b c (Dt.tab n M)] kk xx := by
  have hl : (Dt.tab n M).length = n := Dt.tab_len M
  have hsq : Sq (Dt.tab n M) := Dt.tab_sq M
  have sy : tpo (Dt.tab n M) = Dt.tab n M := tpo_tab fun i j hi hj => by rw [h i j hi hj, h j i hj hi, Dt.bent_sym (Dt.mid_sym bs)]
  refine ⟨_, rfl, knT_tab (by omega) (fun r hr => by rw [hsq r hr]; omega), fun e => ?_, fun _ => ⟨b, c, _, rfl, by omega, hsq, fun e => absurd sy.symm e, fun _ => ⟨Dt.tab_bd hb, fun Ls D => ?_⟩⟩⟩
  · rw [sqB_tb hsq] at e
    cases e
  · rw [hl] at D ⊢
    have D : Dt.DG n (fun v => Dt.frm (Dt.tab n M).length (Dt.mx (Dt.tab n M)) v v) Ls := D
    rw [hl] at D
    obtain ⟨L0, E, p, q, z⟩ := Dt.dg_bent o (Nat.le_of_eq hs) hx (M := Dt.mx (Dt.tab n M)) fun i j hi hj => by rw [Dt.mx_tab hi hj, h i j hi hj]
    obtain ⟨e1, e2, e3⟩ := Dt.dg_told E D
    have hc := Dt.cnt_siz bs
    rw [e1, e2, e3, p, q, z, show n - ((Dt.cnt bs).1 + (Dt.cnt bs).2.1) = (Dt.cnt bs).2.2 by omega]
    exact k
theorem det_ans {n : Nat} {M : Dt.Mx} {b c : Bool} {v : Int} {kk : Nv → Prop} {xx : Ed → Prop} (hn : n ≤ 7) (hb : ∀ i j, i < n → j < n → (M i j).natAbs ≤ 2 ^ 200) (hv : Dt.det n M = v) (k : kk (.dat (.int v))) : fDet.f [tbD b c (Dt.tab n M)] kk xx := by
  have hl : (Dt.tab n M).length = n := Dt.tab_len M
  have hsq : Sq (Dt.tab n M) := Dt.tab_sq M
  refine ⟨_, rfl, knT_tab (by omega) (fun r hr => by rw [hsq r hr]; omega), fun e => ?_, fun _ => ⟨b, c, _, rfl, by omega, hsq, Dt.tab_bd hb, ?_⟩⟩
  · rw [sqB_tb hsq] at e
    cases e
  · rw [show detL (Dt.tab n M) = v from Dt.det_tab.trans hv]
    exact k
theorem ldet_ans {n : Nat} {M : Dt.Mx} {v : Int} {kk : Da → Prop} (hn : n ≤ 7) (hb : ∀ i j, i < n → j < n → (M i j).natAbs ≤ 2 ^ 200) (hv : Dt.det n M = v) (k : kk (.int v)) : fLDet.f [ll (Dt.tab n M)] kk := by
  have hl : (Dt.tab n M).length = n := Dt.tab_len M
  refine ⟨_, rfl, by omega, Dt.tab_sq M, Dt.tab_bd hb, ?_⟩
  rw [show detL (Dt.tab n M) = v from Dt.det_tab.trans hv]
  exact k
theorem tab_swp {n : Nat} {M : Dt.Mx} (h : 1 < n) : (((Dt.tab n M).map li).set 0 (li ((List.range n).map fun j => M (n - 1) j))).set (n - 1) (li ((List.range n).map fun j => M 0 j)) = (Dt.tab n (Dt.swp M 0 (n - 1))).map li := by
  rw [← List.map_set, ← List.map_set, tab_set (fun j => M (n - 1) j) (by omega), tab_set (fun j => M 0 j) (by omega)]
  congr 1
  refine Dt.tab_congr fun i j _ _ => ?_
  unfold Dt.row Dt.swp
  by_cases e : i = 0
  · rw [if_neg (by omega), if_pos e, if_pos e]
  · by_cases p : i = n - 1
    · rw [if_pos p, if_neg e, if_pos p]
    · rw [if_neg p, if_neg e, if_neg e, if_neg p]
theorem perm_nat {n : Nat} {es : List Da} (h : es.Perm ((List.range n).map fun i : Nat => Da.int (i : Nat))) : ∃ s : List Nat, s.Perm (List.range n) ∧ es = s.map fun i : Nat => Da.int (i : Nat) := by
  have key : ∀ {f : Nat → Da} {a b : List Da}, a.Perm b → ∀ l : List Nat, b = l.map f → ∃ s : List Nat, s.Perm l ∧ a = s.map f := fun {f a b} h => by
    induction h with
    | nil =>
      intro l e
      refine ⟨[], ?_, rfl⟩
      cases l with
      | nil => exact List.Perm.refl _
      | cons x r => cases e
    | cons x _ ih =>
      intro l e
      cases l with
      | nil => cases e
      | cons y r =>
        injection e with e1 e2
        obtain ⟨s, p, q⟩ := ih r e2
        exact ⟨y :: s, p.cons y, by rw [e1, q]; rfl⟩
    | swap x y l' =>
      intro l e
      cases l with
      | nil => cases e
      | cons u r =>
        cases r with
        | nil =>
          injection e with e1 e2
          cases e2
        | cons v r =>
          injection e with e1 e2
          injection e2 with e2 e3
          exact ⟨v :: u :: r, List.Perm.swap u v r, by rw [e1, e2, e3]; rfl⟩
    | trans _ _ i1 i2 =>
      intro l e
      obtain ⟨s, p, q⟩ := i2 l e
      obtain ⟨s2, p2, q2⟩ := i1 s q
      exact ⟨s2, p2.trans p, q2⟩
  exact key h _ rfl
theorem log_due {n : Nat} {bs : List Dt.Bl} (ok : MidOk n bs) : (Dt.due bs).natAbs.log2 < 1920 := by
  have h := Dt.due_bd ok.bd
  rw [ok.sz] at h
  have h2 : (Dt.due bs).natAbs < 2 ^ 1000 := Nat.lt_of_le_of_lt (Nat.le_trans h (Nat.pow_le_pow_right (by decide) ok.le)) (by decide)
  exact Nat.lt_of_lt_of_le (PySem.Flt.log2_lt_of (by decide) h2) (by decide)
theorem cn_small {n : Nat} {bs : List Dt.Bl} (ok : MidOk n bs) : (cnL bs).length ≤ 8 ∧ ∀ x ∈ cnL bs, 0 ≤ x ∧ x < 9 := by
  have h := Dt.cnt_siz bs
  have h1 := ok.sz
  have h2 := ok.le
  refine ⟨by show 3 ≤ 8; decide, fun x hx => ?_⟩
  simp only [cnL, List.mem_cons, List.not_mem_nil, or_false] at hx
  rcases hx with rfl | rfl | rfl <;> omega
end Fv

namespace Fv
open PySem PySem.Spec PyProof.Rows L2 Fr Fw Fs
abbrev s_law : Stmt := topS 31
theorem sc_law : FnScope ["script", "draw", "turn", "size", "middle", "counts_here", "rows", "table", "due", "told", "row", "order_here", "many", "mixed", "b", "a", "item", "other", "whole", "k", "~"] ["script"] (C8.fnScope s_law) := C8.fnScope_by (by decide +kernel)
def spLaw (L : Ly) (T : List (Addr × Str)) : L2.Sp := fun vs H Q _ => ∃ (a : Addr) (ns : List Int) (G : Hp), vs = [.ref a] ∧ SqL L.K G a (ns.map V.int) ∧ ns.length ≤ 63 ∧ Same G H ∧ (∀ p ∈ T, G p.1 = none) ∧ TabsG T G H ∧ ∀ H', Q (.bl true) H'
theorem shp_ints (is : List Nat) : Shp (is.map fun i : Nat => Da.int (i : Nat)) := by
  intro es h
  have key : ∃ ks : List Int, es = ks.map Da.int := by
    induction es with
    | nil => exact ⟨[], rfl⟩
    | cons x r ih =>
      obtain ⟨ks, e⟩ := ih fun y hy => h y (List.mem_cons_of_mem _ hy)
      obtain ⟨u, _, e1⟩ := List.mem_map.mp (h x List.mem_cons_self)
      exact ⟨(u : Nat) :: ks, by rw [List.map_cons, e1, ← e]⟩
  obtain ⟨ks, rfl⟩ := key
  exact ⟨_, pys_ints ks, shaped_ints ks⟩
theorem mix_map {β : Type} {n : Nat} {s : List Nat} (h : s.length = n) (f : Nat → β) : s.map f = (List.range n).map fun i => f (s.getD i 0) := by
  apply List.ext_getElem
  · rw [List.length_map, List.length_map, List.length_range, h]
  · intro i h1 h2
    rw [List.length_map] at h1
    rw [List.getElem_map, List.getElem_map, List.getElem_range, List.getD_eq_getElem?_getD, List.getElem?_eq_getElem h1]
    rfl
theorem str_ne (s : Str) : (!decide (s = s)) = false := by simp
theorem nti (a : List Int) : (!PyData.eqv (pti a) (pti a)) = false := by
  rw [eqv_ti]
  simp
theorem nint (a : Int) : (!PyData.eqv (.int a) (.int a)) = false := by
  rw [show (!PyData.eqv (.int a) (.int a)) = (!(a == a)) from rfl, beq_self_eq_true]
  rfl
theorem cn_pos {m : Int} (hm : 0 < m) (bs : List Dt.Bl) : cnL (bs.map (Dt.scB m)) = cnL bs := by
  unfold cnL
  rw [Dt.cnt_pos hm]
theorem cn_neg (bs : List Dt.Bl) : cnL (bs.map (Dt.scB (-1))) = ([((Dt.cnt bs).2.1 : Nat), ((Dt.cnt bs).1 : Nat), ((Dt.cnt bs).2.2 : Nat)] : List Int) := by
  unfold cnL
  rw [Dt.cnt_neg]
theorem pN_i {ρ : En} {k : List Da → En → Prop} (h : k [] ρ) : pN.f ρ k := h
theorem rgD_nat0 (m : Nat) : rgD 0 m = (List.range m).map fun i : Nat => Da.int (i : Nat) := rg_nat m
theorem range_val {j m : Nat} {x : Da} (h : (rgD 0 m)[j]? = some x) : x = .int (j : Nat) ∧ j < m := by
  have hl := (List.getElem?_eq_some_iff.mp h).1
  rw [rgD, List.length_map, List.length_range] at hl
  rw [rgD_nat0, List.getElem?_map, List.getElem?_range hl] at h
  exact ⟨(Option.some.inj h).symm, hl⟩
section
variable {P : Program} {w : World} {L : Ly} {T : Xt} {mg : Str → Option Value} {base : Heap} {f : Addr} {fd : FuncData} {TT : List (Addr × Str)}
theorem rep_law {G H : Hp} {a d l c : Addr} {ns : List Int} (LS : LyS L) (s : Same G H) (hs : SqL L.K G a (ns.map V.int)) (gd : G d = none) (gl : G l = none) (D : Draw d l c H) (t : TabsG TT G H) (g : ∀ p ∈ TT, G p.1 = none) :
    Rep L ⟨fun b => Mdl d l b ∨ MT TT b, G, H, [], TT⟩ G H [some (.ref a), some (.ref d), none, none, none, none, none, none, none, none, none, none, none, none, none, none, none, none, none, none, none] [some (.dat (.obj 5 (ns.map Da.int))), some (.drw d l c), none, none, none, none, none, none, none, none, none, none, none, none, none, none, none, none, none, none, some (.tab TT)] where
  gr := Grow.refl s
  mh := fun b hb => by
    obtain ⟨t1, t2, _⟩ := draw_trk D
    rcases hb with (e | e) | ⟨p, hp, rfl⟩
    · rw [e]; exact ⟨t1, gd⟩
    · rw [e]; exact ⟨t2, gl⟩
    · exact ⟨(t p hp).tk, g p hp⟩
  env := .cons (show Dv L G (.ref a) (.obj 5 (ns.map Da.int)) from .obj (LS.scr.mpr ⟨a, rfl, hs⟩) dv_ints) (.cons ⟨rfl, gd, gl, D⟩ ((.cons trivial (.cons trivial (.cons trivial (.cons trivial (.cons trivial (.cons trivial (.cons trivial (.cons trivial (.cons trivial (.cons trivial (.cons trivial (.cons trivial (.cons trivial (.cons trivial (.cons trivial (.cons trivial (.cons trivial (.cons trivial (.cons (by rfl) .nil)))))))))))))))))))))
  nd := draw_nd D
  fm := fun p es hm => by simp at hm
  fd := fun d' l' c' hm => by
    simp at hm
    obtain ⟨rfl, rfl, rfl⟩ := hm
    exact ⟨.inl (.inl rfl), .inl (.inr rfl)⟩
  ks := fun q hq => by cases hq
  tb := t
  tg := fun p hp => ⟨g p hp, tab_off t D p hp, fun q hq => by cases hq⟩
  mt := fun p hp => .inr ⟨p, hp, rfl⟩
  ft := fun T' hm => by
    simp at hm
    exact hm
theorem ok_law {kb : Nat} (hkb : kb ≤ 8) (LS : LyS L) (F : C8.Fun L.K "law" "law" s_law f fd) (B : Bw mg) (Bx : Bx mg) (hsum : mg "sum" = none)
    (c_law_begun : CalG P w L.K mg base C8.CX0 kb "_law_begun" (spBegun L.K)) (c_law_take : CalG P w L.K mg base C8.CX0 2 "_law_take" (spD L fTake)) (c_law_pick : CalG P w L.K mg base C8.CX0 3 "_law_pick" (spD L fPick)) (c_law_shuffled : CalG P w L.K mg base C8.CX0 3 "_law_shuffled" (spD L fShuf))
    (c_law_middle : CalG P w L.K mg base C8.CX0 4 "_law_middle" (spD L fMid)) (c_law_rows_undone : CalG P w L.K mg base C8.CX0 3 "_law_rows_undone" (spD L fRwU)) (c_law_bent : CalG P w L.K mg base C8.CX0 1 "_law_bent" (spF L fBent)) (c_law_product_due : CalG P w L.K mg base C8.CX0 1 "_law_product_due" (spF L fDue))
    (c_law_determinant : CalG P w L.K mg base C8.CX0 2 "_law_determinant" (spF L fLDet)) (c_law_refuses : CalG P w L.K mg base C8.CX0 8 "_law_refuses" (spDT L TT fRefT))
    (e_determinant : CalG P w L.K mg base C8.CX0 4 "determinant" (spE0 L fDet)) (e_sign_counts : CalG P w L.K mg base C8.CX0 4 "sign_counts" (spE0 L fSgn)) (k_sign_counts : CalK P w L.K mg base C8.CX0 4 "sign_counts" (spE0 L fSgn) ["table"] List.reverse) :
    FnG P w L.K mg base C8.CX0 9 f fd ["script"] (spLaw L TT) := by
  have sc := sc_law
  refine mkc F sc ?_ ?_
  · rintro vs H Q E ⟨a, ns, G, rfl, _⟩
    rfl
  · rintro cdv A outer s H vs Q E hcd hr hgu ⟨a, ns, G, rfl, hs, hl, sG, hG, hTb, hq⟩
    subst hcd
    refine ⟨_, PSs.nox (pss_cons (ps_set (i := 1) sc.nd rfl (by first | exact Or.inl rfl | exact Or.inr rfl) (pe_cg c_law_begun hr hkb hgu rfl (pa_cons (pv 0) pa_nil)))
  (w_seq (w_forI snd_tgN (ps_for PassesOwn.never rfl (w_ir1 (pi_range1 rfl B.range (w_cons (w_op op_add snd_add (w_int (kd := 0) pe_int) (w_tCB snd_min2 (pe_callB (call_min2 rfl) (by rfl) Bx.min (by decide +kernel) (w_cons (w_tCB (snd_lenS LS) (pe_callB call_len_seq (by rfl) B.len (by decide +kernel) (w_cons (w_v (pv 0)) w_nil))) (w_cons (w_int (kd := 0) pe_int) w_nil))))) w_nil))) (pg_name (i := 2) sc.nd rfl (by first | exact Or.inl rfl | exact Or.inr rfl))
   (w_seq (w_set (ps_set (i := 3) sc.nd rfl (by first | exact Or.inl rfl | exact Or.inr rfl) (w_callD c_law_pick hr (by decide) hgu rfl (pv 1) (w_cons (w_lst (w_cons (w_int (kd := 0) pe_int) (w_cons (w_int (kd := 0) pe_int) (w_cons (w_int (kd := 0) pe_int) (w_cons (w_int (kd := 0) pe_int) (w_cons (w_int (kd := 0) pe_int) (w_cons (w_int (kd := 0) pe_int) (w_cons (w_int (kd := 0) pe_int) (w_cons (w_int (kd := 0) pe_int) (w_cons (w_int (kd := 0) pe_int) w_nil)))))))))) w_nil))))
    (w_seq (w_asg (snd_tgTup (n := 2) (snd_tgCons snd_tgN (snd_tgCons snd_tgN snd_tgNil))) (ps_asg (w_callD c_law_middle hr (by decide) hgu rfl (pv 1) (w_cons (w_v (pv 3)) w_nil)) (pg_tup (n := 2) (by rfl) (pgs_cons (pg_name (i := 4) sc.nd rfl (by first | exact Or.inl rfl | exact Or.inr rfl)) (pgs_cons (pg_name (i := 5) sc.nd rfl (by first | exact Or.inl rfl | exact Or.inr rfl)) pgs_nil)))))
    (w_seq (w_set (ps_set (i := 6) sc.nd rfl (by first | exact Or.inl rfl | exact Or.inr rfl) (w_callD c_law_rows_undone hr (by decide) hgu rfl (pv 1) (w_cons (w_v (pv 3)) w_nil))))
    (w_seq (w_tup2 (by decide) (ps_asg (pe_tup (pa_cons (w_zD (w_call c_law_bent hr (by decide) hgu rfl (w_cons (w_v (pv 6)) (w_cons (w_v (pv 4)) w_nil)))) (pa_cons (w_zD (w_call c_law_product_due hr (by decide) hgu rfl (w_cons (w_v (pv 4)) w_nil))) pa_nil))) (pg_tup (n := 2) (by rfl) (pgs_cons (pg_name (i := 7) sc.nd rfl (by first | exact Or.inl rfl | exact Or.inr rfl)) (pgs_cons (pg_name (i := 8) sc.nd rfl (by first | exact Or.inl rfl | exact Or.inr rfl)) pgs_nil)))))
    (w_seq (w_set (ps_set (i := 9) sc.nd rfl (by first | exact Or.inl rfl | exact Or.inr rfl) (w_E (pe_E e_sign_counts hr (by decide) hgu rfl (w_cons (w_ifExp (w_cmpT (op_eqD hr.units) snd_eq (w_op op_modN snd_modN (w_v (pv 2)) (w_int (kd := 0) pe_int)) (w_int (kd := 0) pe_int) (nomark _)) (w_tCB snd_tupOf (pe_callTy call_tuple_of (by rfl) B.tuple (by decide +kernel) (w_cons (w_lc (sndv_N (by decide)) (pe_lc (own := [("row", 10)]) (by rfl) sc.nd (w_il (pi_list (w_v (pv 7)))) (blkOk_by (by kernel_rfl)) (fun _ _ _ _ _ => (pg_name (i := 10) sc.nd rfl (by first | exact Or.inl rfl | exact Or.inr rfl))) (fun _ _ _ _ _ => w_tnil) (fun _ _ _ _ _ => (w_tCB snd_tupOf (pe_callTy call_tuple_of (by rfl) B.tuple (by decide +kernel) (w_cons (w_v (pv 10)) w_nil)))))) w_nil))) (w_v (pv 7))) w_nil)))))
    (w_seq (w_if (ps_if (w_pt (w_or (pw_or (w_cmpT op_ne snd_neS (w_tCB snd_repr1 (pe_callB (call_reprD hgu hr.units) (by rfl) Bx.repr (by decide +kernel) (w_cons (w_v (pv 9)) w_nil))) (w_tCB snd_repr1 (pe_callB (call_reprD hgu hr.units) (by rfl) Bx.repr (by decide +kernel) (w_cons (w_v (pv 5)) w_nil))) (nomark _)) (pw_or1 (w_cmpT op_ne snd_neS (w_tCB snd_reprI (pe_callB SkE.call_repr_int (by rfl) Bx.repr (by decide +kernel) (w_cons (w_E (pe_E e_determinant hr (by decide) hgu rfl (w_cons (w_v (pv 7)) w_nil))) w_nil))) (w_tCB snd_reprI (pe_callB SkE.call_repr_int (by rfl) Bx.repr (by decide +kernel) (w_cons (w_v (pv 8)) w_nil))) (nomark _))))))
     (w_one (w_ret (ps_ret (w_bl pe_bl))))
     (w_snil pss_nil)))
    (w_seq (w_tup2 (by decide) (ps_asg (pe_tup (pa_cons (w_zD (w_callD c_law_shuffled hr (by decide) hgu rfl (pv 1) (w_cons (w_listRg (pe_listRg rfl (by rfl) B.list (prg_1 (by rfl) B.range (w_v (pv 3))))) w_nil))) (pa_cons (w_zD (w_op op_add snd_add (w_int (kd := 0) pe_int) (w_callD c_law_take hr (by decide) hgu rfl (pv 1) (w_cons (w_int (kd := 0) pe_int) w_nil)))) pa_nil))) (pg_tup (n := 2) (by rfl) (pgs_cons (pg_name (i := 11) sc.nd rfl (by first | exact Or.inl rfl | exact Or.inr rfl)) (pgs_cons (pg_name (i := 12) sc.nd rfl (by first | exact Or.inl rfl | exact Or.inr rfl)) pgs_nil)))))
    (w_seq (w_setLc (sndv_N (by decide)) (ps_setLc (i := 13) (own := [("a", 15)]) (by rfl) sc.nd rfl (by rfl) (sw_true rfl (by rfl) rfl (by decide +kernel)) (w_il (pi_list (w_v (pv 11)))) (blkOk_by (by kernel_rfl)) (fun _ _ _ _ _ => (pg_name (i := 15) sc.nd rfl (by first | exact Or.inl rfl | exact Or.inr rfl))) (fun _ _ _ _ _ => w_tnil) (fun _ _ _ _ _ => (w_lc (sndv_N (by decide)) (pe_lc (own := [("b", 14)]) (by rfl) sc.nd (w_il (pi_list (w_v (pv 11)))) (blkOk_by (by kernel_rfl)) (fun _ _ _ _ _ => (pg_name (i := 14) sc.nd rfl (by first | exact Or.inl rfl | exact Or.inr rfl))) (fun _ _ _ _ _ => w_tnil) (fun _ _ _ _ _ => (w_op op_mul snd_mul (w_ix ix_list snd_ix (w_ix ix_list snd_ix (w_v (pv 7)) (w_v (pv 15)) (fun _ _ => rfl)) (w_v (pv 14)) (fun _ _ => rfl)) (w_v (pv 12)))))))))
    (w_seq (w_if (ps_if (w_pt (w_or (pw_or (w_cmpT (op_neD hr.units) snd_ne (w_EK k_sign_counts hr (by decide) hgu rfl (w_kcons (w_v (pv 13)) w_knil)) (w_v (pv 5)) (nomark _)) (pw_or1 (w_cmpT (op_neD hr.units) snd_ne (w_E (pe_E e_sign_counts hr (by decide) hgu rfl (w_cons (w_lc (sndv_N (by decide)) (pe_lc (own := [("row", 10)]) (by rfl) sc.nd (w_il (pi_list (w_v (pv 7)))) (blkOk_by (by kernel_rfl)) (fun _ _ _ _ _ => (pg_name (i := 10) sc.nd rfl (by first | exact Or.inl rfl | exact Or.inr rfl))) (fun _ _ _ _ _ => w_tnil) (fun _ _ _ _ _ => (w_lc (sndv_N (by decide)) (pe_lc (own := [("item", 16)]) (by rfl) sc.nd (w_il (pi_list (w_v (pv 10)))) (blkOk_by (by kernel_rfl)) (fun _ _ _ _ _ => (pg_name (i := 16) sc.nd rfl (by first | exact Or.inl rfl | exact Or.inr rfl))) (fun _ _ _ _ _ => w_tnil) (fun _ _ _ _ _ => (w_op op_sub snd_sub (w_int (kd := 0) pe_int) (w_v (pv 16))))))))) w_nil))) (w_tup (w_cons (w_ix ix_tup snd_ixT (w_v (pv 5)) (w_int (kd := 0) pe_int) (fun _ _ => rfl)) (w_cons (w_ix ix_tup snd_ixT (w_v (pv 5)) (w_int (kd := 0) pe_int) (fun _ _ => rfl)) (w_cons (w_ix ix_tup snd_ixT (w_v (pv 5)) (w_int (kd := 0) pe_int) (fun _ _ => rfl)) w_nil)))) (nomark _))))))
     (w_one (w_ret (ps_ret (w_bl pe_bl))))
     (w_snil pss_nil)))
    (w_seq (w_set (ps_set (i := 17) sc.nd rfl (by first | exact Or.inl rfl | exact Or.inr rfl) (w_callD c_law_rows_undone hr (by decide) hgu rfl (pv 1) (w_cons (w_v (pv 3)) w_nil))))
    (w_seq (w_setLcN (sndv_N (by decide)) (ps_setLc (i := 18) (own := [("row", 10)]) (by rfl) sc.nd rfl (by rfl) (sw_true rfl (by rfl) rfl (by decide +kernel)) (w_il (pi_list (w_v (pv 17)))) (blkOk_by (by kernel_rfl)) (fun _ _ _ _ _ => (pg_name (i := 10) sc.nd rfl (by first | exact Or.inl rfl | exact Or.inr rfl))) (fun _ _ _ _ _ => w_tnil) (fun _ _ _ _ _ => (w_lc (sndv_N (by decide)) (pe_lc (own := [("b", 14)]) (by rfl) sc.nd (w_ir1 (pi_range1 rfl B.range (w_cons (w_v (pv 3)) w_nil))) (blkOk_by (by kernel_rfl)) (fun _ _ _ _ _ => (pg_name (i := 14) sc.nd rfl (by first | exact Or.inl rfl | exact Or.inr rfl))) (fun _ _ _ _ _ => w_tnil) (fun _ _ _ _ _ => (w_tCB snd_sum (pe_callB (cr_sum rfl) (by rfl) hsum (by decide +kernel) (w_cons (w_lc (sndv_N (by decide)) (pe_lc (own := [("k", 19)]) (by rfl) sc.nd (w_ir1 (pi_range1 rfl B.range (w_cons (w_v (pv 3)) w_nil))) (blkOk_by (by kernel_rfl)) (fun _ _ _ _ _ => (pg_name (i := 19) sc.nd rfl (by first | exact Or.inl rfl | exact Or.inr rfl))) (fun _ _ _ _ _ => w_tnil) (fun _ _ _ _ _ => (w_op op_mul snd_mul (w_ix ix_list snd_ix (w_v (pv 10)) (w_v (pv 19)) (fun _ _ => rfl)) (w_ix ix_list snd_ix (w_ix ix_list snd_ix (w_v (pv 4)) (w_v (pv 19)) (fun _ _ => rfl)) (w_v (pv 14)) (fun _ _ => rfl)))))) w_nil)))))))))
    (w_seq (w_if (ps_if (w_pt (w_or (pw_or (w_cmpT (op_neD hr.units) snd_ne (w_lendE (pe_E e_determinant hr (by decide) hgu rfl (pa_cons (pv 18) pa_nil))) (w_v (pv 8)) (nomark _)) (pw_or1 (w_cmpT (op_neD hr.units) snd_ne (w_lendE (pe_E e_determinant hr (by decide) hgu rfl (pa_cons (pv 18) pa_nil))) (w_lendF (pe_cg c_law_determinant hr (by decide) hgu rfl (pa_cons (pv 18) pa_nil))) (nomark _))))))
     (w_one (w_ret (ps_ret (w_bl pe_bl))))
     (w_snil pss_nil)))
    (w_seq (w_if (ps_if (w_cmpT op_gt snd_gt (w_v (pv 3)) (w_int (kd := 0) pe_int) (nomark _))
     (w_seq (w_asgP (sgp_tup (n := 2) (sgp_cons sgp_put (sgp_cons sgp_put sgp_nil))) (ps_asg (w_tup (w_cons (w_ixG (pe_ix ix_list (pv 18) (w_op op_sub snd_sub (w_v (pv 3)) (w_int (kd := 0) pe_int)) (fun _ _ => rfl))) (w_cons (w_ixG (pe_ix ix_list (pv 18) (w_int (kd := 0) pe_int) (fun _ _ => rfl))) w_nil))) (pg_tup (n := 2) (by rfl) (pgs_cons (pg_sub (pv 18) (w_int (kd := 0) pe_int) set_list) (pgs_cons (pg_sub (pv 18) (w_op op_sub snd_sub (w_v (pv 3)) (w_int (kd := 0) pe_int)) set_list) pgs_nil)))))
      (w_one (w_if (ps_if (w_cmpT (op_neD hr.units) snd_ne (w_lendE (pe_E e_determinant hr (by decide) hgu rfl (pa_cons (pv 18) pa_nil))) (w_op op_sub snd_sub (w_int (kd := 0) pe_int) (w_v (pv 8))) (nomark _))
       (w_one (w_ret (ps_ret (w_bl pe_bl))))
       (w_snil pss_nil)))))
     (w_snil pss_nil)))
    (w_one (w_if (ps_if (w_notT (pt_not (w_val (pt_val (w_callDT c_law_refuses hr (by decide) hgu rfl (pv 1) w_nil)))))
     (w_one (w_ret (ps_ret (w_bl pe_bl))))
     (w_snil pss_nil)))))))))))))))))))
  (w_one (w_ret (ps_ret (w_bl pe_bl)))))), ?_⟩
    refine ⟨.ref a, rfl, a, ns, rfl, same_sql sG hs, hl, fun d l c H' nd nl nc sH D => ?_⟩
    have r0 := rep_law (a := a) (ns := ns) LS (sG.trans sH) hs (sG.free nd) (sG.free nl) D (fun p hp => (hTb p hp).go (Same.refl G) fun o e => sH _ _ e) hG
    suffices hS : Ps.f _ [some (.dat (.obj 5 (ns.map Da.int))), some (.drw d l c), none, none, none, none, none, none, none, none, none, none, none, none, none, none, none, none, none, none, some (.tab TT)] (fun _ => False) (fun z _ => z = Da.bl true) (fun _ => False) (fun _ => False) by
      refine ⟨_, G, _, r0, Ps.mono _ (fun _ z => z.elim) ?_ (fun _ z => z.elim) (fun _ z => z.elim) hS⟩
      intro z ρ' e v σ' G' H2 r' _ dv
      subst e
      cases dv
      exact hq H2
    have mD : ∀ (x0 : Option Sl) (ρ : En), some (Sl.drw d l c) ∈ x0 :: some (Sl.drw d l c) :: ρ := fun _ _ => List.mem_cons_of_mem _ List.mem_cons_self
    have mT : ∀ y0 y1 y2 y3 y4 y5 y6 y7 y8 y9 y10 y11 y12 y13 y14 y15 y16 y17 y18 y19 : Option Sl, some (Sl.tab TT) ∈ [y0, y1, y2, y3, y4, y5, y6, y7, y8, y9, y10, y11, y12, y13, y14, y15, y16, y17, y18, y19, some (.tab TT)] := fun y0 y1 y2 y3 y4 y5 y6 y7 y8 y9 y10 y11 y12 y13 y14 y15 y16 y17 y18 y19 => List.mem_of_getElem? (i := 20) rfl
    have Dn : ∀ n : Nat, n ≤ 20 → n ≤ sizeLine := fun n h => Nat.le_trans h (by decide)
    have lsz : ∀ m : Nat, m ≤ 7 → m ≤ sizeLine := fun m hm => by rw [sizeLine_eq]; omega
    refine ⟨_, rfl, _, rfl, _, _, rfl, _, _, rfl, rfl, trivial, _, rfl, by split <;> omega, by split <;> (have : (ns.map Da.int).length ≤ 63 := by rw [List.length_map]; exact hl) <;> omega, ?_⟩
    refine loopF_inv (fun j ρ => ∃ x2 x3 x4 x5 x6 x7 x8 x9 x11 x12 x13 x17 x18 : Option Sl, ρ = [some (.dat (.obj 5 (ns.map Da.int))), some (.drw d l c), x2, x3, x4, x5, x6, x7, x8, x9, none, x11, x12, x13, none, none, none, x17, x18, none, some (.tab TT)]) ⟨_, _, _, _, _, _, _, _, _, _, _, _, _, rfl⟩ ?_ ?_
    · rintro j x ρ hj ⟨x2, x3, x4, x5, x6, x7, x8, x9, x11, x12, x13, x17, x18, rfl⟩
      obtain ⟨rfl, _⟩ := range_val hj
      clear hj
      refine ⟨d, l, c, rfl, Dn 9 (by decide), mD _ _, _, rfl, (fun z => by cases z), by show 9 ≤ 1000000; decide, fun y hy => ?_⟩
      obtain ⟨n, rfl, hn⟩ : ∃ n : Nat, y = .int (n : Nat) ∧ n ≤ 7 := by
        simp only [List.mem_cons, List.not_mem_nil, or_false] at hy
        rcases hy with rfl | rfl | rfl | rfl | rfl | rfl | rfl | rfl | rfl
        · exact ⟨0, rfl, by decide⟩
        · exact ⟨1, rfl, by decide⟩
        · exact ⟨2, rfl, by decide⟩
        · exact ⟨3, rfl, by decide⟩
        · exact ⟨4, rfl, by decide⟩
        · exact ⟨5, rfl, by decide⟩
        · exact ⟨6, rfl, by decide⟩
        · exact ⟨7, rfl, by decide⟩
        · exact ⟨6, rfl, by decide⟩
      refine ⟨d, l, c, rfl, _, rfl, mD _ _, n, rfl, hn, fun bs ok => ⟨_, rfl, rfl, _, _, rfl, _, _, rfl, rfl, ?_⟩⟩
      refine ⟨d, l, c, rfl, _, rfl, mD _ _, n, rfl, hn, fun R U bR => ?_⟩
      refine ⟨_, rfl, _, rfl, n, R, Dt.mid bs, rfl, hn, bR, _, rfl, n, bs, rfl, ok, ?_⟩
      have o := Dt.onto_um U
      have dbd : ∀ a b, (Dt.mid bs a b).natAbs ≤ 2 ^ 67 := fun a b => Nat.le_trans (Dt.mid_bd ok.bd a b) (by decide)
      have tbd : ∀ i j, i < n → j < n → (Dt.bent n R (Dt.mid bs) i j).natAbs ≤ 2 ^ 157 := fun i j hi hj => Dt.bd_bent hn bR dbd hi hj
      have hdet := Dt.det_bent U ok.sz
      refine sSeq_cut (I := fun ρ => ρ = [some (.dat (.obj 5 (ns.map Da.int))), some (.drw d l c), some (.dat (.int (j : Nat))), some (.dat (.int (n : Nat))), some (.dat (ll (Dt.tab n (Dt.mid bs)))), some (.dat (ti (cnL bs))), some (.dat (ll (Dt.tab n R))), some (.dat (ll (Dt.tab n (Dt.bent n R (Dt.mid bs))))), some (.dat (.int (Dt.due bs))), some (.dat (ti (cnL bs))), none, x11, x12, x13, none, none, none, x17, x18, none, some (.tab TT)]) ?_ ?_
      · refine ⟨_, rfl, _, _, rfl, rfl, (show (2 : Int) ≠ 0 by decide), .int _, .int 0, rfl, rfl, rfl, rfl, _, rfl, bite (fun _ => ?_) fun _ => ?_⟩
        · refine ⟨_, rfl, _, rfl, ?_⟩
          refine lcP_all li ti (fun r hr => ⟨_, rfl, _, .inl rfl, rfl, rfl⟩) (by rw [Dt.tab_len]; exact lsz n hn) ?_
          refine ⟨_, .inl rfl, ?_⟩
          refine pN_i ?_
          refine sgn_told (b := true) (c := true) o ok.sz ok.ne hn (fun i j _ _ => rfl) (fun i j hi hj => Nat.le_trans (tbd i j hi hj) (by decide)) ?_
          rfl
        · refine ⟨_, rfl, pN_i ?_⟩
          refine sgn_told (b := false) (c := false) o ok.sz ok.ne hn (fun i j _ _ => rfl) (fun i j hi hj => Nat.le_trans (tbd i j hi hj) (by decide)) ?_
          rfl
      rintro _ rfl
      obtain ⟨cs1, cs2⟩ := cn_small ok
      -- the same as texts
      refine sSeq_cut (I := fun ρ => ρ = [some (.dat (.obj 5 (ns.map Da.int))), some (.drw d l c), some (.dat (.int (j : Nat))), some (.dat (.int (n : Nat))), some (.dat (ll (Dt.tab n (Dt.mid bs)))), some (.dat (ti (cnL bs))), some (.dat (ll (Dt.tab n R))), some (.dat (ll (Dt.tab n (Dt.bent n R (Dt.mid bs))))), some (.dat (.int (Dt.due bs))), some (.dat (ti (cnL bs))), none, x11, x12, x13, none, none, none, x17, x18, none, some (.tab TT)]) ?_ ?_
      · refine ⟨_, rfl, cnL bs, rfl, ⟨cs1, cs2⟩, _, rfl, cnL bs, rfl, ⟨cs1, cs2⟩, _, _, rfl, rfl, _, rfl, ?_⟩
        rw [str_ne]
        refine ite_f ?_
        refine ⟨_, rfl, pN_i ?_⟩
        refine det_ans (b := false) (c := false) hn (fun i j hi hj => Nat.le_trans (tbd i j hi hj) (by decide)) hdet ?_
        refine ⟨_, rfl, log_due ok, _, rfl, _, rfl, log_due ok, _, _, rfl, rfl, _, rfl, ?_⟩
        rw [str_ne]
        exact ite_f rfl
      rintro _ rfl
      -- in another sequence, times a number
      refine ⟨d, l, c, rfl, _, rfl, (n : Int), rfl, by omega, by omega, mD _ _, _, rfl, ?_, ?_, fun es hp => ⟨d, l, c, rfl, mD _ _, _, rfl, by decide, by decide, fun r r0 r1 => ⟨_, _, rfl, rfl, trivial, ?_⟩⟩⟩
      · rw [rg_nat, List.length_map, List.length_range]
        omega
      · rw [rg_nat]
        exact shp_ints _
      rw [rg_nat] at hp
      obtain ⟨s, hs2, rfl⟩ := perm_nat hp
      have sl : s.length = n := by rw [hs2.length_eq, List.length_range]
      have slt : ∀ a ∈ s, a < n := fun a ha => List.mem_range.mp (hs2.mem_iff.mp ha)
      have sget : ∀ i, i < n → s.getD i 0 < n := fun i hi => by
        rw [List.getD_eq_getElem?_getD, List.getElem?_eq_getElem (by omega)]
        exact slt _ (List.getElem_mem _)
      obtain ⟨m, em, m0, m9⟩ : ∃ m : Int, m = 1 + r ∧ 0 < m ∧ m ≤ 9 := ⟨1 + r, rfl, by omega, by omega⟩
      refine sSeq_cut (I := fun ρ => ∃ x11 x12 : Option Sl, ρ = [some (.dat (.obj 5 (ns.map Da.int))), some (.drw d l c), some (.dat (.int (j : Nat))), some (.dat (.int (n : Nat))), some (.dat (ll (Dt.tab n (Dt.mid bs)))), some (.dat (ti (cnL bs))), some (.dat (ll (Dt.tab n R))), some (.dat (ll (Dt.tab n (Dt.bent n R (Dt.mid bs))))), some (.dat (.int (Dt.due bs))), some (.dat (ti (cnL bs))), none, x11, x12, some (.dat (ll (Dt.tab n fun i j => Dt.bent n R (Dt.mid bs) (s.getD i 0) (s.getD j 0) * m))), none, none, none, x17, x18, none, some (.tab TT)]) ?_ ?_
      · subst em
        refine ⟨_, rfl, _, rfl, ?_⟩
        refine lcP_all (fun i : Nat => Da.int (i : Nat)) (fun a => li (s.map fun b => Dt.bent n R (Dt.mid bs) a b * (1 + r))) (src := s) (fun a ha => ?_) (by rw [sl]; exact lsz n hn) ?_
        · refine ⟨_, rfl, _, rfl, ?_⟩
          refine lcP_all (fun i : Nat => Da.int (i : Nat)) (fun b => Da.int (Dt.bent n R (Dt.mid bs) a b * (1 + r))) (src := s) (fun b hb => ?_) (by rw [sl]; exact lsz n hn) ?_
          · exact ⟨_, rfl, _, rfl, _, (a : Int), _, rfl, rfl, at_tab (slt a ha), _, rfl, _, (b : Int), _, rfl, rfl, at_rng (slt b hb), _, rfl, _, _, rfl, rfl, .inr ⟨by omega, by omega⟩, rfl, rfl⟩
          · exact ⟨congrArg Da.lst (int_map _ _), rfl⟩
        · have e : s.map (fun a => li (s.map fun b => Dt.bent n R (Dt.mid bs) a b * (1 + r))) = (Dt.tab n fun i j => Dt.bent n R (Dt.mid bs) (s.getD i 0) (s.getD j 0) * (1 + r)).map li := by
            rw [mix_map sl fun a => li (s.map fun b => Dt.bent n R (Dt.mid bs) a b * (1 + r)), Dt.tab, List.map_map]
            refine List.map_congr_left fun i _ => ?_
            show li _ = li _
            rw [mix_map sl]
          rw [e]
          exact ⟨_, _, rfl⟩
      rintro _ ⟨x11, x12, rfl⟩
      have sz1 : Dt.siz (bs.map (Dt.scB m)) = n := (Dt.siz_sc m bs).trans ok.sz
      have sz2 : Dt.siz (bs.map (Dt.scB (-1))) = n := (Dt.siz_sc (-1) bs).trans ok.sz
      have h1 : ∀ i j, i < n → j < n → Dt.bent n R (Dt.mid bs) (s.getD i 0) (s.getD j 0) * m = Dt.bent n (fun i c => R (s.getD i 0) c) (Dt.mid (bs.map (Dt.scB m))) i j := fun i j _ _ => by
        rw [Dt.bent_sc (R := fun i c => R (s.getD i 0) c) (Dt.mid_sc m bs) i j, Int.mul_comm]
        rfl
      have h2 : ∀ i j, i < n → j < n → 0 - Dt.bent n R (Dt.mid bs) i j = Dt.bent n R (Dt.mid (bs.map (Dt.scB (-1)))) i j := fun i j _ _ => by
        rw [Dt.bent_sc (Dt.mid_sc (-1) bs) i j]
        omega
      refine sSeq_cut (I := fun ρ => ∃ x13 : Option Sl, ρ = [some (.dat (.obj 5 (ns.map Da.int))), some (.drw d l c), some (.dat (.int (j : Nat))), some (.dat (.int (n : Nat))), some (.dat (ll (Dt.tab n (Dt.mid bs)))), some (.dat (ti (cnL bs))), some (.dat (ll (Dt.tab n R))), some (.dat (ll (Dt.tab n (Dt.bent n R (Dt.mid bs))))), some (.dat (.int (Dt.due bs))), some (.dat (ti (cnL bs))), none, x11, x12, x13, none, none, none, x17, x18, none, some (.tab TT)]) ?_ ?_
      · refine ⟨_, rfl, pN_i ?_⟩
        refine sgn_told (b := false) (c := false) (bs := bs.map (Dt.scB m)) (Dt.onto_perm hs2 o) sz1 (Dt.two_sc (by omega) ok.ne) hn h1 (fun i j hi hj => Dt.abs_mul (tbd _ _ (sget i hi) (sget j hj)) (B := 9) (by omega) (by decide)) ?_
        rw [cn_pos m0]
        refine ⟨_, rfl, _, _, py_ti _, py_ti _, shaped_ti _, shaped_ti _, _, rfl, ?_⟩
        rw [nti]
        refine ite_f ?_
        refine ⟨_, rfl, _, rfl, ?_⟩
        have eT : (Dt.tab n (Dt.bent n R (Dt.mid bs))).map li = (List.range n).map fun i => li ((List.range n).map fun j => Dt.bent n R (Dt.mid bs) i j) := by
          rw [Dt.tab, List.map_map]
          rfl
        rw [eT]
        refine lcP_all (fun i : Nat => li ((List.range n).map fun j => Dt.bent n R (Dt.mid bs) i j)) (fun i => li ((List.range n).map fun j => 0 - Dt.bent n R (Dt.mid bs) i j)) (src := List.range n) (fun i hi => ?_) (by rw [List.length_range]; exact lsz n hn) ?_
        · refine ⟨_, rfl, _, rfl, ?_⟩
          rw [List.map_map]
          refine lcP_all (fun j : Nat => Da.int (Dt.bent n R (Dt.mid bs) i j)) (fun j => Da.int (0 - Dt.bent n R (Dt.mid bs) i j)) (src := List.range n) (fun j hj => ?_) (by rw [List.length_range]; exact lsz n hn) ?_
          · exact ⟨_, rfl, _, _, rfl, rfl, trivial, rfl, rfl⟩
          · exact ⟨congrArg Da.lst (int_map _ _), rfl⟩
        · have e : (List.range n).map (fun i => li ((List.range n).map fun j => 0 - Dt.bent n R (Dt.mid bs) i j)) = (Dt.tab n fun i j => 0 - Dt.bent n R (Dt.mid bs) i j).map li := by
            rw [Dt.tab, List.map_map]
            rfl
          rw [e]
          refine pN_i ?_
          refine sgn_told (b := false) (c := false) (bs := bs.map (Dt.scB (-1))) o sz2 (Dt.two_sc (by decide) ok.ne) hn h2 (fun i j hi hj => by rw [Int.zero_sub, Int.natAbs_neg]; exact Nat.le_trans (tbd i j hi hj) (by decide)) ?_
          rw [cn_neg]
          refine ⟨_, rfl, _, (1 : Int), .int ((Dt.cnt bs).2.1 : Nat), rfl, rfl, Fw.atI_nat (j := 1) rfl, _, rfl, _, (0 : Int), .int ((Dt.cnt bs).1 : Nat), rfl, rfl, Fw.atI_nat (j := 0) rfl, _, rfl, _, (2 : Int), .int ((Dt.cnt bs).2.2 : Nat), rfl, rfl, Fw.atI_nat (j := 2) rfl, by show 3 ≤ sizeLine; decide, ?_⟩
          refine ⟨_, _, py_ti _, py_ti [((Dt.cnt bs).2.1 : Nat), ((Dt.cnt bs).1 : Nat), ((Dt.cnt bs).2.2 : Nat)], shaped_ti _, shaped_ti _, _, rfl, ?_⟩
          rw [nti]
          exact ite_f ⟨_, rfl⟩
      rintro _ ⟨x13, rfl⟩
      clear h1 h2 hs2 sl slt sget sz1 sz2
      refine ⟨d, l, c, rfl, _, rfl, mD _ _, n, rfl, hn, fun R2 U2 bR2 => ?_⟩
      have wbd : ∀ i j, i < n → j < n → (Dt.mul n R2 (Dt.mid bs) i j).natAbs ≤ 2 ^ 200 := fun i j hi hj => Nat.le_trans (Dt.bd_mul hn bR2 dbd hi) (by decide)
      have wdet := Dt.det_whole U2 ok.sz
      have small : ∀ z : Int, z.natAbs ≤ 2 ^ 42 → -2 ^ 64 < z ∧ z < 2 ^ 64 := fun z hz => by omega
      refine sSeq_cut (I := fun ρ => ∃ p : Addr, ρ = [some (.dat (.obj 5 (ns.map Da.int))), some (.drw d l c), some (.dat (.int (j : Nat))), some (.dat (.int (n : Nat))), some (.dat (ll (Dt.tab n (Dt.mid bs)))), some (.dat (ti (cnL bs))), some (.dat (ll (Dt.tab n R))), some (.dat (ll (Dt.tab n (Dt.bent n R (Dt.mid bs))))), some (.dat (.int (Dt.due bs))), some (.dat (ti (cnL bs))), none, x11, x12, x13, none, none, none, some (.dat (ll (Dt.tab n R2))), some (.gro p ((Dt.tab n (Dt.mul n R2 (Dt.mid bs))).map li)), none, some (.tab TT)]) ?_ ?_
      · refine ⟨_, rfl, _, rfl, ?_⟩
        have eR : (Dt.tab n R2).map li = (List.range n).map fun i => li ((List.range n).map fun j => R2 i j) := by
          rw [Dt.tab, List.map_map]
          rfl
        rw [eR]
        refine lcP_all (fun i : Nat => li ((List.range n).map fun j => R2 i j)) (fun i => li ((List.range n).map fun b => Dt.mul n R2 (Dt.mid bs) i b)) (src := List.range n) (fun i hi => ?_) (by rw [List.length_range]; exact lsz n hn) ?_
        · have hi := List.mem_range.mp hi
          refine ⟨_, rfl, (n : Int), rfl, by omega, by omega, ?_⟩
          rw [rg_nat]
          refine lcP_all (fun i : Nat => Da.int (i : Nat)) (fun b => Da.int (Dt.mul n R2 (Dt.mid bs) i b)) (fun b hb => ?_) (by rw [List.length_range]; exact lsz n hn) ?_
          · have hb := List.mem_range.mp hb
            refine ⟨_, rfl, (n : Int), rfl, by omega, by omega, ?_⟩
            rw [rg_nat]
            refine lcP_all (fun i : Nat => Da.int (i : Nat)) (fun k => Da.int (R2 i k * Dt.mid bs k b)) (fun k hk => ?_) (by rw [List.length_range]; exact lsz n hn) ?_
            · have hk := List.mem_range.mp hk
              exact ⟨_, rfl, _, rfl, _, (k : Int), .int (R2 i k), rfl, rfl, at_rng hk, _, rfl, _, rfl, _, (k : Int), _, rfl, rfl, at_tab hk, _, rfl, _, (b : Int), .int (Dt.mid bs k b), rfl, rfl, at_rng hb, _, _, rfl, rfl, .inl (small _ (bR2 i k hi hk)), rfl, rfl⟩
            · refine ⟨(List.range n).map fun k => R2 i k * Dt.mid bs k b, congrArg (fun z => [Da.lst z]) (int_map _ _), ?_, rfl⟩
              rw [← Dt.sm_sum]
              rfl
          · exact ⟨congrArg Da.lst (int_map _ _), rfl⟩
        · have e : (List.range n).map (fun i => li ((List.range n).map fun b => Dt.mul n R2 (Dt.mid bs) i b)) = (Dt.tab n (Dt.mul n R2 (Dt.mid bs))).map li := by
            rw [Dt.tab, List.map_map]
            rfl
          rw [e]
          intro p hp
          exact ⟨p, rfl⟩
      rintro _ ⟨p, rfl⟩
      refine sSeq_cut (I := fun ρ => ρ = [some (.dat (.obj 5 (ns.map Da.int))), some (.drw d l c), some (.dat (.int (j : Nat))), some (.dat (.int (n : Nat))), some (.dat (ll (Dt.tab n (Dt.mid bs)))), some (.dat (ti (cnL bs))), some (.dat (ll (Dt.tab n R))), some (.dat (ll (Dt.tab n (Dt.bent n R (Dt.mid bs))))), some (.dat (.int (Dt.due bs))), some (.dat (ti (cnL bs))), none, x11, x12, x13, none, none, none, some (.dat (ll (Dt.tab n R2))), some (.gro p ((Dt.tab n (Dt.mul n R2 (Dt.mid bs))).map li)), none, some (.tab TT)]) ?_ ?_
      · refine ⟨p, _, rfl, ?_⟩
        refine det_ans (b := false) (c := false) hn wbd wdet ⟨_, rfl, _, rfl, _, _, rfl, rfl, rfl, rfl, _, rfl, ?_⟩
        rw [nint]
        refine ite_f ⟨p, _, rfl, ?_⟩
        refine det_ans (b := false) (c := false) hn wbd wdet ⟨_, rfl, p, _, rfl, ?_⟩
        refine ldet_ans hn wbd wdet ⟨_, rfl, _, _, rfl, rfl, rfl, rfl, _, rfl, ?_⟩
        rw [nint]
        exact ite_f rfl
      rintro _ rfl
      refine sSeq_cut (I := fun ρ => ∃ x18 : Option Sl, ρ = [some (.dat (.obj 5 (ns.map Da.int))), some (.drw d l c), some (.dat (.int (j : Nat))), some (.dat (.int (n : Nat))), some (.dat (ll (Dt.tab n (Dt.mid bs)))), some (.dat (ti (cnL bs))), some (.dat (ll (Dt.tab n R))), some (.dat (ll (Dt.tab n (Dt.bent n R (Dt.mid bs))))), some (.dat (.int (Dt.due bs))), some (.dat (ti (cnL bs))), none, x11, x12, x13, none, none, none, some (.dat (ll (Dt.tab n R2))), x18, none, some (.tab TT)]) ?_ ?_
      · refine ⟨_, rfl, _, _, rfl, rfl, trivial, _, rfl, bite (fun hz => ?_) fun _ => ⟨_, rfl⟩⟩
        have n1 : 1 < n := by
          have := of_decide_eq_true hz
          omega
        have e1 : ((n : Int) - 1) = ((n - 1 : Nat) : Int) := by omega
        refine ⟨p, _, rfl, _, rfl, _, _, rfl, rfl, trivial, _, ((n - 1 : Nat) : Int), _, rfl, (show Da.int ((n : Int) - 1) = _ by rw [e1]), at_tab (by omega), p, _, rfl, _, (0 : Int), _, rfl, rfl, at_tab (i := 0) (by omega), by show 2 ≤ sizeLine; decide, ?_⟩
        refine ⟨_, rfl, rfl, _, _, rfl, p, _, rfl, _, (0 : Int), 0, rfl, rfl, ixN_at (i := 0) (by rw [List.length_map, Dt.tab_len]; omega), ?_⟩
        refine ⟨_, _, rfl, p, _, rfl, _, rfl, _, _, rfl, rfl, trivial, _, ((n - 1 : Nat) : Int), n - 1, rfl, (show Da.int ((n : Int) - 1) = _ by rw [e1]), ixN_at (by rw [List.length_set, List.length_map, Dt.tab_len]; omega), rfl, ?_⟩
        rw [tab_swp n1]
        have sbd : ∀ i j, i < n → j < n → (Dt.swp (Dt.mul n R2 (Dt.mid bs)) 0 (n - 1) i j).natAbs ≤ 2 ^ 200 := fun i j hi hj => by
          unfold Dt.swp
          split
          · exact wbd _ _ (by omega) hj
          · split
            · exact wbd _ _ (by omega) hj
            · exact wbd _ _ hi hj
        have sdet : Dt.det n (Dt.swp (Dt.mul n R2 (Dt.mid bs)) 0 (n - 1)) = 0 - Dt.due bs := by
          rw [Dt.det_swp (by omega) (by omega) (by omega), wdet, Int.zero_sub]
        refine ⟨p, _, rfl, ?_⟩
        refine det_ans (b := false) (c := false) hn sbd sdet ⟨_, rfl, _, rfl, _, _, rfl, rfl, trivial, _, _, rfl, rfl, rfl, rfl, _, rfl, ?_⟩
        rw [nint]
        exact ite_f ⟨_, rfl⟩
      rintro _ ⟨x18, rfl⟩
      refine ⟨d, l, c, rfl, mD _ _, mT _ _ _ _ _ _ _ _ _ _ _ _ _ _ _ _ _ _ _ _, rfl, _, rfl, ?_⟩
      exact ite_f ⟨_, _, _, _, _, _, _, _, _, _, _, _, _, rfl⟩
    · rintro ρ ⟨x2, x3, x4, x5, x6, x7, x8, x9, x11, x12, x13, x17, x18, rfl⟩
      rfl
end
end Fv

namespace Fw
open PySem PySem.Spec PyProof.Rows L2 Fr
theorem law_endT {P : Program} {w : World} {K : Frag} {mg mb : Str → Option Value} {k : Nat} {fa a : Addr} {cs : List (Addr × Addr)} {fd : FuncData} {x : Str} {sp : Sp} {s₁ : Shared} {vs : List Value} {ns : List Int}
    (KX : K.In s₁.heap) (hns : s₁.heap.Ns mainGlobals mg) (hb : s₁.heap.Ns builtinsNs mb) (hbb : ∀ x : Str, x ≠ "__name__" → mb x = bootBuiltins x)
    (hlim : s₁.heap.NoLimit) (hg : s₁.gens = #[])
    (ct : ∀ p ∈ cs, s₁.heap.get? p.2 = some { cls := .none, data := .fields #[] }) (ck : ∀ p ∈ cs, K.lookup p.2 = none)
    (ch : ∀ p ∈ cs, PySem.W.CodeHd s₁.heap p.1 p.2)
    (hbm : ∃ bm ob, mg "__builtins__" = some (.ref bm) ∧ bm ≠ builtinsNs ∧ s₁.heap.get? bm = some ob ∧ ob.cls = .type "module" ∧ ob.dict = some builtinsNs ∧ ob.data = .plain)
    (ha : s₁.heap.get? a = some { cls := .type "list", data := .seq vs.toArray }) (hi : IntsAre vs ns) (hl : ns.length ≤ sizeLine) (hr : Room k callerA)
    (F : ∀ base : Heap, K.In base → base.Ns mainGlobals mg → (∀ p ∈ cs, LamX.TabB base mg p.1 p.2) → FnG P w K mg base C8.CX0 k fa fd [x] sp)
    (hbind : ∀ (s : Shared) (u : Value), BindsTo s fd ⟨[u], []⟩ [(x, u)])
    (hsp : ∀ H : Hp, (∀ p ∈ cs, H p.2 = some (.tbl #[])) → SqL K H a (ns.map V.int) →
      (∀ b, H b = none ∨ (∃ ob xs, H b = some (.frz ob (.lst xs))) ∨ ((∃ p ∈ cs, p.2 = b) ∧ H b = some (.tbl #[]))) →
      sp [.ref a] H (fun v _ => v = .bl true) fun _ _ _ => False) :
    codeAny (model P w) callerA (.call (.ref fa) ⟨[.ref a], []⟩)
      (fun r s' => r = .ok (.ret (.bool true)) ∧ OldK s₁.heap s'.heap ∧ s'.os = s₁.os ∧ AllBare s'.gens) s₁ := by
  have rv := vals_ints hi
  have lenV := hi.length
  have core : ∀ H : Hp, (∀ p ∈ cs, H p.2 = some (.tbl #[])) → SqL K H a (ns.map V.int) →
      (∀ b, H b = none ∨ (∃ ob xs, H b = some (.frz ob (.lst xs))) ∨ ((∃ p ∈ cs, p.2 = b) ∧ H b = some (.tbl #[]))) →
      HOk P w H s₁.heap → (∀ b, H b ≠ none → b = a ∨ ∃ p ∈ cs, p.2 = b) → (H a ≠ none → K.lookup a = none) →
      codeAny (model P w) callerA (.call (.ref fa) ⟨[.ref a], []⟩)
        (fun r s' => r = .ok (.ret (.bool true)) ∧ OldK s₁.heap s'.heap ∧ s'.os = s₁.os ∧ AllBare s'.gens) s₁ := by
    intro H hT hS hO hok hA hK
    have off : ∀ {b : Addr} {o : Obj}, s₁.heap.get? b = some o → (∀ z y, o.data ≠ .seq z y) → o.data ≠ .fields #[] → H b = none := by
      intro b o e n1 n2
      cases q : H b with
      | none => rfl
      | some u =>
        rcases hA b (by simp [q]) with rfl | ⟨p, hp, rfl⟩
        · rw [ha] at e
          cases e
          exact absurd rfl (n1 _ _)
        · rw [ct p hp] at e
          cases e
          exact absurd rfl n2
    have noA : ∀ {b : Addr} {o : Obj} {es : Array DictEntry} {ep : Nat}, s₁.heap.get? b = some o → o.data = .dict es ep → H b = none := fun e d =>
      off e (fun z y h => by rw [d] at h; cases h) fun h => by rw [d] at h; cases h
    have nsK : ∀ {b : Addr} {m : Str → Option Value}, s₁.heap.Ns b m → (hidT s₁.heap H).Ns b m := by
      rintro b m ⟨o, es, ep, e, d, r⟩
      exact ⟨o, es, ep, hidT_get e (noA e d), d, r⟩
    have hKb : K.In (hidT s₁.heap H) := by
      intro b o e
      refine hidT_get (KX b o e) ?_
      cases q : H b with
      | none => rfl
      | some u =>
        rcases hA b (by simp [q]) with rfl | ⟨p, hp, rfl⟩
        · rw [hK (by simp [q])] at e
          cases e
        · rw [ck p hp] at e
          cases e
    obtain ⟨mc, h1, h2⟩ := hlim
    have hM : Mod K mg (hidT s₁.heap H) := ⟨hKb, nsK hns, ⟨mb, nsK hb, hbb⟩, ⟨mc, nsK h1, h2⟩⟩
    have hTB : ∀ p ∈ cs, LamX.TabB (hidT s₁.heap H) mg p.1 p.2 := by
      intro p hp
      refine ⟨?_, ?_, ?_⟩
      · obtain ⟨o, us, file, tf, flags, tg, inF, text, tt, e, c1, d, v11, r⟩ := ch p hp
        refine ⟨o, us, file, tf, flags, tg, inF, text, tt, hidT_get e (off e (fun z y h => by rw [d] at h; cases h) fun h => ?_), c1, d, v11, r⟩
        rw [d] at h
        cases h
        simp at v11
      · obtain ⟨bm, ob, m1, m2, m3, m4, m5, m6⟩ := hbm
        refine ⟨bm, ob, m1, m2, ?_, ?_, hidT_get m3 (off m3 (fun z y h => by rw [m6] at h; cases h) fun h => by rw [m6] at h; cases h), m4, m5, m6⟩
        · rintro rfl
          obtain ⟨o, es, ep, e, d, r⟩ := hns
          rw [e] at m3
          cases m3
          rw [d] at m6
          cases m6
        · rintro rfl
          rw [ct p hp] at m3
          cases m3
          cases m6
      · rintro z
        obtain ⟨o, es, ep, e, d, r⟩ := hns
        rw [z, ct p hp] at e
        cases e
        cases d
    have e0 : Env0 P w K mg (hidT s₁.heap H) callerA [] s₁ H := by
      refine ⟨rfl, hM, fun b o e => of_hidT e, Nat.le_of_eq (hidT_size _ _), trivial, ?_, hok, .of_eq hg⟩
      intro b hb
      cases (show b ∈ ([] : List Addr) from hb)
    have z := (F _ hKb (nsK hns) hTB).run callerA [] s₁ H ⟨[.ref a], []⟩ [.ref a] [.ref a] _ _ hr rfl e0 (hbind s₁ (.ref a)) (.cons rfl .nil) (hsp H hT hS hO)
    refine codeAny_mono z ?_
    rintro (e | fl) s' h
    · exact (show False from h).elim
    · cases fl with
      | next => exact (show False from h).elim
      | brk => exact (show False from h).elim
      | cont => exact (show False from h).elim
      | ret u =>
        obtain ⟨v, H', os, bare, un, hok', r', q⟩ := h
        obtain rfl : v = .bl true := q
        obtain rfl : u = Value.bool true := r'
        refine ⟨rfl, ⟨?_, fun b o e => un.there b o e (by simp)⟩, os, bare⟩
        intro b o e
        rcases hO b with z | ⟨ob, xs, z⟩ | ⟨⟨p, hp, rfl⟩, z⟩
        · refine .inl (un.keep b o e z ?_ (by simp))
          intro z
          cases (show b ∈ ([] : List Addr) from z)
        · obtain ⟨e1, _⟩ := hok b _ z
          obtain ⟨e2, _⟩ := hok' b _ (un.frzs b ob _ z)
          rw [e] at e1
          cases e1
          exact .inl e2
        · obtain ⟨more, z'⟩ := un.tbls _ _ z
          have e2 := hok' _ _ z'
          simp only [ObjOk] at e2
          rw [ct p hp] at e
          cases e
          obtain ⟨o, us, file, tf, flags, tg, inF, text, tt, e, c1, d, v11, r⟩ := ch p hp
          exact .inr (.inl ⟨⟨p.1, o, us, e, c1, d, v11⟩, rfl, #[], more, rfl, e2⟩)
  have tabN : ∀ p ∈ cs, p.2 ≠ a := by
    rintro p hp rfl
    rw [ct p hp] at ha
    cases ha
  obtain ⟨Ht, t_at, t_off⟩ : ∃ Ht : Hp, (∀ p ∈ cs, Ht p.2 = some (.tbl #[])) ∧ ∀ b, Ht b = none ∨ ((∃ p ∈ cs, p.2 = b) ∧ Ht b = some (.tbl #[])) := by
    refine ⟨fun b => if (cs.any fun p => p.2 == b) = true then some (.tbl #[]) else none, fun p hp => if_pos (List.any_eq_true.mpr ⟨p, hp, by simp⟩), fun b => ?_⟩
    by_cases h : (cs.any fun p => p.2 == b) = true
    · refine .inr ⟨?_, if_pos h⟩
      obtain ⟨p, hp, e⟩ := List.any_eq_true.mp h
      exact ⟨p, hp, by simpa using e⟩
    · exact .inl (if_neg h)
  have hta : Ht a = none := by
    rcases t_off a with z | ⟨⟨p, hp, e⟩, _⟩
    · exact z
    · exact absurd e (tabN p hp)
  cases hk : K.lookup a with
  | some o =>
    have e := KX a o hk
    rw [ha] at e
    cases e
    refine core Ht t_at (.inr ?_) (fun b => (t_off b).imp id .inr) ?_ (fun b z => ?_) fun z => absurd hta z
    · refine ⟨_, vs.toArray, _, hk, rfl, rfl, rfl, ?_, by simpa using rv⟩
      rw [List.size_toArray, lenV]
      exact hl
    · intro b u z
      rcases t_off b with q | ⟨⟨p, hp, rfl⟩, q⟩
      · rw [q] at z
        cases z
      · rw [q] at z
        cases z
        exact ct p hp
    · rcases t_off b with q | ⟨h, _⟩
      · exact absurd q z
      · exact .inr h
  | none =>
    obtain ⟨Hs, at_, off⟩ : ∃ Hs : Hp, (∀ b, b = a → Hs b = some (.frz { cls := .type "list", data := .seq vs.toArray } (.lst (ns.map V.int)))) ∧ ∀ b, b ≠ a → Hs b = Ht b :=
      ⟨fun b => if b = a then some (.frz { cls := .type "list", data := .seq vs.toArray } (.lst (ns.map V.int))) else Ht b, fun b hb => if_pos hb, fun b hb => if_neg hb⟩
    refine core Hs (fun p hp => (off _ (tabN p hp)).trans (t_at p hp)) (.inl (.inr ⟨_, at_ a rfl⟩)) (fun b => ?_) (fun b u z => ?_) (fun b z => ?_) fun _ => hk
    · by_cases hb : b = a
      · exact .inr (.inl ⟨_, _, at_ b hb⟩)
      · rw [off b hb]
        exact (t_off b).imp id .inr
    · by_cases hb : b = a
      · have z' := (at_ b hb).symm.trans z
        cases z'
        subst hb
        refine ⟨ha, ?_, vs, _, rv, ha⟩
        rw [List.length_map]
        exact hl
      · rw [off b hb] at z
        rcases t_off b with q | ⟨⟨p, hp, rfl⟩, q⟩
        · rw [q] at z
          cases z
        · rw [q] at z
          cases z
          exact ct p hp
    · by_cases hb : b = a
      · exact .inl hb
      · rw [off b hb] at z
        rcases t_off b with q | ⟨h, _⟩
        · exact absurd q z
        · exact .inr h
theorem walkT {l : PySem.W.OpenLaw} {n k : Nat} {q : Program} {loose : List Str} {XP : (Str → Option Value) → Heap → Prop} {YP : World → Heap → Prop} {d : DefRec} {K : Params → Frag} {x : Str} {xs : List Str}
    (hn : l.most = some n) (hn2 : n ≤ sizeLine) (hdf : d.params.defaults = []) (hr : Room k callerA) (hY : ∀ (w : World) (h : Heap), YP w h → (K w.params).In h)
    (hxs : (xs.all fun x => ((recsOf q).find? fun e => e.name == x).isSome) = true)
    (F : ∀ (w : World) (mg : Str → Option Value) (fa : Addr) (h : Heap), (K w.params).In h → h.Ns mainGlobals mg → mg d.name = some (.ref fa) →
      ∃ (cs : List (Addr × Addr)) (fd : FuncData) (sp : Sp), (∀ p ∈ cs, (∃ x ∈ xs, PySem.W.tabIn (K w.params) x = some p) ∧ (K w.params).lookup p.2 = none) ∧
        (∀ (s : Shared) (u : Value), BindsTo s fd ⟨[u], []⟩ [(x, u)]) ∧
        (∀ base : Heap, (K w.params).In base → base.Ns mainGlobals mg → (∀ p ∈ cs, LamX.TabB base mg p.1 p.2) → FnG l.prog w (K w.params) mg base C8.CX0 k fa fd [x] sp) ∧
        ∀ (H : Hp) (a : Addr) (ns : List Int), ns.length ≤ n → (∀ p ∈ cs, H p.2 = some (.tbl #[])) → SqL (K w.params) H a (ns.map V.int) →
          (∀ b, H b = none ∨ (∃ ob xs, H b = some (.frz ob (.lst xs))) ∨ ((∃ p ∈ cs, p.2 = b) ∧ H b = some (.tbl #[]))) →
          sp [.ref a] H (fun v _ => v = .bl true) fun _ _ _ => False) :
    PySem.W.WalkO q loose XP YP l.row.toRowW d [] (fun f vs => PySem.call f vs) := by
  refine Att.attach_call hn hdf ?_
  intro w s₀ s₁ mg mb fa o pm cd doc a vs ns G Y ho hd hcd hmg hobj hints hlen hg
  have KX := hY w _ Y
  obtain ⟨cs, fd, sp, hcs, hb, hF, hsp⟩ := F w mg fa _ KX G.T.g hmg
  have hT : ∀ p ∈ cs, PySem.W.CodeHd s₁.heap p.1 p.2 ∧ s₁.heap.get? p.2 = some (PySem.W.tabObj #[]) := by
    intro p hp
    obtain ⟨⟨x, hx, ht⟩, _⟩ := hcs p hp
    have := List.all_eq_true.mp hxs x hx
    obtain ⟨d', hd'⟩ := Option.isSome_iff_exists.mp this
    exact PySem.W.tab_of G.T KX hd' ht
  exact law_endT KX G.T.g G.T.b G.T.builtins G.T.nolimit hg (fun p hp => (hT p hp).2) (fun p hp => (hcs p hp).2) (fun p hp => (hT p hp).1) G.T.bmain hobj hints (Nat.le_trans hlen hn2) hr hF hb
    fun H h1 h2 h3 => hsp H a ns hlen h1 h2 h3
end Fw

namespace Fv
open PySem PySem.Spec PyProof.Rows L2 Fr Fw Fs
def Tx (c9 : Addr) : Xt := fun n => (c9, none)
def ObC (K : Frag) (c9 : Addr) (n : Nat) : Hp → V → List V → Prop :=
  if n = 0 then ObEmp else if n = 3 then ObKeys else if n = 5 then (fun H v vs => ∃ a, v = .ref a ∧ SqL K H a vs) else if 20 ≤ n then ObE (Tx c9) (n - 20) else fun _ _ _ => False
theorem obC_mo {K : Frag} {c9 : Addr} {n : Nat} {H H' : Hp} {v : V} {vs : List V} (s : Same H H') (h : ObC K c9 n H v vs) : ObC K c9 n H' v vs := by
  unfold ObC at h ⊢
  by_cases h0 : n = 0
  · rw [if_pos h0] at h ⊢
    obtain ⟨a, kvs, e, h, r⟩ := h
    exact ⟨a, kvs, e, s _ _ h, r⟩
  rw [if_neg h0] at h ⊢
  by_cases h3 : n = 3
  · rw [if_pos h3] at h ⊢
    obtain ⟨a, od, ks, e, h, r⟩ := h
    exact ⟨a, od, ks, e, s _ _ h, r⟩
  rw [if_neg h3] at h ⊢
  by_cases h5 : n = 5
  · rw [if_pos h5] at h ⊢
    obtain ⟨a, e, h⟩ := h
    exact ⟨a, e, same_sql s h⟩
  rw [if_neg h5] at h ⊢
  by_cases h20 : 20 ≤ n
  · rw [if_pos h20] at h ⊢
    exact obE_mo s h
  rw [if_neg h20] at h
  exact h.elim
abbrev LyC (K : Frag) (c9 : Addr) : Ly := ⟨K, ObC K c9, obC_mo⟩
section
variable {K : Frag} {c9 : Addr}
theorem lyK : LyK (LyC K c9) := ⟨Iff.rfl, Iff.rfl⟩
theorem lyS : LyS (LyC K c9) := ⟨Iff.rfl⟩
theorem lyE : LyE (LyC K c9) (Tx c9) := ⟨fun {n H v vs} => by
  have e : ObC K c9 (20 + n) = ObE (Tx c9) n := by
    unfold ObC
    rw [if_neg (by omega), if_neg (by omega), if_neg (by omega), if_pos (by omega), Nat.add_sub_cancel_left]
  show ObC K c9 (20 + n) H v vs ↔ _
  rw [e]⟩
end
section
variable {P : Program} {w : World} {K : Frag} {mg : Str → Option Value} {base : Heap} {f : Addr} {fd : FuncData} {c9 cF : Addr}
theorem ok_all {fL  f_is_number f_is_list f_is_list_of_numbers f_determinant f_sign_counts f_stepped f_cleared f_is_square f_is_mirrored f_pivot_at f_with_pivot f_without f_law_begun f_law_mixed f_law_take f_law_pick f_law_shuffled f_law_caught f_law_cleared f_law_determinant f_law_rows_undone f_law_bent f_law_middle f_law_product_due f_law_refuses : Addr} {fdL  d_is_number d_is_list d_is_list_of_numbers d_determinant d_sign_counts d_stepped d_cleared d_is_square d_is_mirrored d_pivot_at d_with_pivot d_without d_law_begun d_law_mixed d_law_take d_law_pick d_law_shuffled d_law_caught d_law_cleared d_law_determinant d_law_rows_undone d_law_bent d_law_middle d_law_product_due d_law_refuses : FuncData} {T : List (Addr × Str)}
    (D_is_number : C8.Def K mg "is_number" s_is_number f_is_number d_is_number) (b_is_number : Binds K d_is_number ["thing"] [])
    (D_is_list : C8.Def K mg "is_list" s_is_list f_is_list d_is_list) (b_is_list : Binds K d_is_list ["thing"] [])
    (D_is_list_of_numbers : C8.Def K mg "is_list_of_numbers" s_is_list_of_numbers f_is_list_of_numbers d_is_list_of_numbers) (b_is_list_of_numbers : Binds K d_is_list_of_numbers ["thing"] [])
    (D_determinant : C8.Def K mg "determinant" s_determinant f_determinant d_determinant) (b_determinant : Binds K d_determinant ["table"] [])
    (D_sign_counts : C8.Def K mg "sign_counts" s_sign_counts f_sign_counts d_sign_counts) (b_sign_counts : Binds K d_sign_counts ["table"] [])
    (D_stepped : C8.Def K mg "stepped" s_stepped f_stepped d_stepped) (b_stepped : Binds K d_stepped ["rows"] [])
    (D_cleared : C8.Def K mg "_cleared" s_cleared f_cleared d_cleared) (b_cleared : Binds K d_cleared ["row", "step", "before"] [])
    (D_is_square : C8.Def K mg "_is_square" s_is_square f_is_square d_is_square) (b_is_square : Binds K d_is_square ["table"] [])
    (D_is_mirrored : C8.Def K mg "_is_mirrored" s_is_mirrored f_is_mirrored d_is_mirrored) (b_is_mirrored : Binds K d_is_mirrored ["table"] [])
    (D_pivot_at : C8.Def K mg "_pivot_at" s_pivot_at f_pivot_at d_pivot_at) (b_pivot_at : Binds K d_pivot_at ["left"] [])
    (D_with_pivot : C8.Def K mg "_with_pivot" s_with_pivot f_with_pivot d_with_pivot) (b_with_pivot : Binds K d_with_pivot ["left"] [])
    (D_without : C8.Def K mg "_without" s_without f_without d_without) (b_without : Binds K d_without ["left", "at", "before"] [])
    (D_law_begun : C8.Def K mg "_law_begun" Fr.s_law_begun f_law_begun d_law_begun) (b_law_begun : Binds K d_law_begun ["script"] [])
    (D_law_mixed : C8.Def K mg "_law_mixed" Fr.s_law_mixed f_law_mixed d_law_mixed) (b_law_mixed : Binds K d_law_mixed ["draw"] [])
    (D_law_take : C8.Def K mg "_law_take" Fr.s_law_take f_law_take d_law_take) (b_law_take : Binds K d_law_take ["draw", "amount"] [])
    (D_law_pick : C8.Def K mg "_law_pick" Fr.s_law_pick f_law_pick d_law_pick) (b_law_pick : Binds K d_law_pick ["draw", "some"] [])
    (D_law_shuffled : C8.Def K mg "_law_shuffled" s_law_shuffled f_law_shuffled d_law_shuffled) (b_law_shuffled : Binds K d_law_shuffled ["draw", "some"] [])
    (D_law_caught : C8.Def K mg "_law_caught" s_law_caught f_law_caught d_law_caught) (b_law_caught : Binds K d_law_caught ["work"] [])
    (D_law_cleared : C8.Def K mg "_law_cleared" s_law_cleared f_law_cleared d_law_cleared) (b_law_cleared : Binds K d_law_cleared ["left", "last"] [])
    (D_law_determinant : C8.Def K mg "_law_determinant" s_law_determinant f_law_determinant d_law_determinant) (b_law_determinant : Binds K d_law_determinant ["table"] [])
    (D_law_rows_undone : C8.Def K mg "_law_rows_undone" s_law_rows_undone f_law_rows_undone d_law_rows_undone) (b_law_rows_undone : Binds K d_law_rows_undone ["draw", "size"] [])
    (D_law_bent : C8.Def K mg "_law_bent" s_law_bent f_law_bent d_law_bent) (b_law_bent : Binds K d_law_bent ["rows", "middle"] [])
    (D_law_middle : C8.Def K mg "_law_middle" s_law_middle f_law_middle d_law_middle) (b_law_middle : Binds K d_law_middle ["draw", "size"] [])
    (D_law_product_due : C8.Def K mg "_law_product_due" s_law_product_due f_law_product_due d_law_product_due) (b_law_product_due : Binds K d_law_product_due ["middle"] [])
    (D_law_refuses : C8.Def K mg "_law_refuses" s_law_refuses f_law_refuses d_law_refuses) (b_law_refuses : Binds K d_law_refuses ["draw"] [])
    (kb_sign_counts : ∀ (s : Shared) (u : Value), K.In s.heap → BindsTo s d_sign_counts ⟨[], [("table", u)]⟩ [("table", u)])
    (FL : C8.Fun K "law" "law" s_law fL fdL)
    (gS : mg "BadTable" = some (.ref c9)) (kS : PySem.W.keepIn K (.ref c9) = true) (qS : PySem.W.excIn K c9 [.type "ValueError", .type "Exception", .type "BaseException", .type "object"] "ValueError.__new__" = true)
    (subS : PySem.W.subIn K (.ref c9) (.type "BaseException") = some true) (tyS : PySem.W.typeIn K (.ref c9) = some (.type "type"))
    (B : Bw mg) (Bx : Bx mg) (Kt : Kt19 K mg (Tx c9) cF c9)
    (h_sum : mg "sum" = none)
    (h_any : mg "any" = none)
    (g_FlatError : mg "FlatError" = some (.ref cF))
    (t_law_refuses : TabIn base mg d_law_refuses.code "_law_refuses.<locals>.<lambda>" T)
    : FnG P w K mg base C8.CX0 9 fL fdL ["script"] (spLaw (LyC K c9) T) := by
  let L : Ly := (LyC K c9)
  let X : Xt := Tx c9
  have Bi : Bi mg := ⟨B.abs, B.int, B.len⟩
  have By : By mg := ⟨h_any⟩
  have ET : ∀ B', ErTb P w L.K mg B' X c9 := fun B' => ⟨rfl, gS, kS, qS, subS, tyS⟩
  have c_begun : ∀ B', CalG P w L.K mg B' C8.CX0 1 "_law_begun" (spBegun L.K) := fun B' => CalG.of (ok_law_begun D_law_begun b_law_begun Bi)
  have k_take := fun B' => ok_law_take (P := P) (w := w) (base := B') D_law_take b_law_take Bi (ok_law_mixed D_law_mixed b_law_mixed Bi)
  have c_take : ∀ B', CalG P w L.K mg B' C8.CX0 2 "_law_take" (spD L fTake) := fun B' => calG_imp (CalG.of (k_take B')) fun vs H Q E h => take_D h
  have c_pick : ∀ B', CalG P w L.K mg B' C8.CX0 3 "_law_pick" (spD L fPick) := fun B' => calG_imp (CalG.of (ok_law_pick D_law_pick b_law_pick Bi (k_take B'))) fun vs H Q E h => pick_D h
  have c_law_shuffled := fun (B' : Heap) => ok_law_shuffled (L := L) (P := P) (w := w) (base := B') D_law_shuffled b_law_shuffled B (c_take B')
  have c_law_middle := fun (B' : Heap) => ok_law_middle (L := L) (P := P) (w := w) (base := B') D_law_middle b_law_middle B (c_take B') (c_pick B')
  have c_law_rows_undone := fun (B' : Heap) => ok_law_rows_undone (L := L) (P := P) (w := w) (base := B') D_law_rows_undone b_law_rows_undone B (c_take B')
  have c_law_bent := fun (B' : Heap) => ok_law_bent (L := L) (P := P) (w := w) (base := B') D_law_bent b_law_bent B h_sum
  have c_law_product_due := fun (B' : Heap) => ok_law_product_due (L := L) (P := P) (w := w) (base := B') D_law_product_due b_law_product_due B
  have c_law_cleared := fun (B' : Heap) => ok_law_cleared (L := L) (P := P) (w := w) (T := X) (base := B') D_law_cleared b_law_cleared B
  have c_law_determinant := fun (B' : Heap) => ok_law_determinant (L := L) (P := P) (w := w) (base := B') D_law_determinant b_law_determinant B (calm (c_law_cleared B'))
  have c_is_list := fun (B' : Heap) => ok_is_list (L := L) (P := P) (w := w) (base := B') D_is_list b_is_list B Bx lyK
  have c_is_number := fun (B' : Heap) => ok_is_number (L := L) (P := P) (w := w) (base := B') D_is_number b_is_number B Bx lyK
  have c_is_list_of_numbers := fun (B' : Heap) => ok_is_list_of_numbers (L := L) (P := P) (w := w) (base := B') D_is_list_of_numbers b_is_list_of_numbers B Bx (c_is_list B') (c_is_number B')
  have c_is_square := fun (B' : Heap) => ok_is_square (L := L) (P := P) (w := w) (base := B') D_is_square b_is_square B Bx (c_is_list B') (c_is_list_of_numbers B')
  have c_cleared := fun (B' : Heap) => ok_cleared (L := L) (P := P) (w := w) (base := B') D_cleared b_cleared B
  have c_stepped := fun (B' : Heap) => ok_stepped (L := L) (P := P) (w := w) (base := B') D_stepped b_stepped B (c_cleared B')
  have c_determinant := fun (B' : Heap) => ok_determinant (L := L) (P := P) (w := w) (base := B') D_determinant b_determinant B (ET B') (c_is_square B') (c_stepped B')
  have c_is_mirrored := fun (B' : Heap) => ok_is_mirrored (L := L) (P := P) (w := w) (base := B') D_is_mirrored b_is_mirrored B
  have c_pivot_at := fun (B' : Heap) => ok_pivot_at (L := L) (P := P) (w := w) (base := B') D_pivot_at b_pivot_at B
  have c_with_pivot := fun (B' : Heap) => ok_with_pivot (L := L) (P := P) (w := w) (base := B') D_with_pivot b_with_pivot B
  have c_without := fun (B' : Heap) => ok_without (L := L) (P := P) (w := w) (base := B') D_without b_without B (c_cleared B')
  have F_sign_counts := fun (B' : Heap) => fn_sign_counts (L := L) (P := P) (w := w) (base := B') D_sign_counts b_sign_counts B By h_any (ET B') (c_is_square B') (c_is_mirrored B') (c_pivot_at B') (c_with_pivot B') (c_without B')
  have c_sign_counts : ∀ B', CalG P w L.K mg B' (L2.CX P w) 4 "sign_counts" (spE L X fSgn) := fun B' => ⟨_, _, _, F_sign_counts B', D_sign_counts.mgf, D_sign_counts.kp, b_sign_counts⟩
  have c_law_refuses := ok_law_refuses (L := L) (P := P) (w := w) (base := base) lyK lyE Kt D_law_refuses b_law_refuses B Bx t_law_refuses (ET base) D_law_caught b_law_caught (c_pick base) (fun B' => (c_determinant B')) (fun B' => (c_sign_counts B'))
  exact ok_law (L := L) (by decide : (1 : Nat) ≤ 8) lyS FL B Bx h_sum (c_begun base) (c_take base) (c_pick base) (c_law_shuffled base) (c_law_middle base) (c_law_rows_undone base) (c_law_bent base) (c_law_product_due base) (c_law_determinant base) c_law_refuses (calm (c_determinant base)) (calm (c_sign_counts base)) (calK1 (calmF (F_sign_counts base)) D_sign_counts.mgf D_sign_counts.kp kb_sign_counts)
end
end Fv

namespace Fv
open PySem PySem.Spec PyProof.Rows L2 Fr Fw Fs
abbrev fI1 (K : Frag) (C : Addr) (x : Str) (b : String) : Bool := decide (PySem.W.findIn K (.ref C) x = some (some (.builtin b)))
abbrev fI0 (K : Frag) (C : Addr) (x : Str) : Bool := decide (PySem.W.findIn K (.ref C) x = some none)
def exB (K : Frag) (D : Addr) : Bool :=
  (fI1 K D "__getattribute__" "BaseException.__getattribute__" && fI0 K D "__getattr__") &&
  (decide (PySem.W.subIn K (.ref D) (.type "BaseException") = some true) && PySem.W.hasDictIn K D) && fI1 K D "__class__" "object.__class__" &&
  decide (PySem.W.mroIn K D (.type "object") = some true)
def exPl (K : Frag) (D : Addr) : Bool := exB K D && PySem.W.keepIn K (.ref D) && PySem.W.excIn K D [.type "ValueError", .type "Exception", .type "BaseException", .type "object"] "ValueError.__new__" && decide (PySem.W.typeIn K (.ref D) = some (.type "type"))
def exF (K : Frag) (D cF : Addr) : Bool := decide (PySem.W.exmOne K (.ref D) (.ref cF) = some true) && decide (PySem.W.kitOne K (.type "NoneType") (.ref D) = some false)
def obB (K : Frag) : Bool := decide (PySem.W.specialIn K (.builtin "object.__class__") "__get__" = some (some (.builtin "getset_descriptor.__get__"))) && decide (PySem.W.takesIn K (.builtin "object.__class__") = some true)
theorem ini_exc {K : Frag} {D : Addr} (ob : obB K = true) (h : exB K D = true) : ExcC K D := by
  unfold exB at h
  unfold obB at ob
  simp only [Bool.and_eq_true, decide_eq_true_eq] at h ob
  obtain ⟨⟨⟨⟨e1, e2⟩, ⟨e3, e4⟩⟩, e5⟩, e6⟩ := h
  exact ⟨e1, e2, e3, e4, e5, ob.1, ob.2, e6⟩
theorem pl_b {K : Frag} {D : Addr} (h : exPl K D = true) : exB K D = true := by
  unfold exPl at h
  simp only [Bool.and_eq_true] at h
  exact h.1.1.1
theorem pl_all {K : Frag} {D : Addr} (h : exPl K D = true) : PySem.W.keepIn K (.ref D) = true ∧ PySem.W.excIn K D [.type "ValueError", .type "Exception", .type "BaseException", .type "object"] "ValueError.__new__" = true ∧ PySem.W.subIn K (.ref D) (.type "BaseException") = some true ∧ PySem.W.typeIn K (.ref D) = some (.type "type") := by
  unfold exPl exB at h
  simp only [Bool.and_eq_true, decide_eq_true_eq] at h
  obtain ⟨⟨⟨⟨⟨⟨⟨g1, g2⟩, ⟨g3, g4⟩⟩, g5⟩, g6⟩, g7⟩, g8⟩, g9⟩ := h
  exact ⟨g7, g8, g3, g9⟩
theorem exf_all {K : Frag} {D cF : Addr} (h : exF K D cF = true) : PySem.W.exmOne K (.ref D) (.ref cF) = some true ∧ PySem.W.kitOne K (.type "NoneType") (.ref D) = some false := by
  unfold exF at h
  simp only [Bool.and_eq_true, decide_eq_true_eq] at h
  exact h
theorem tab_in {K : Frag} {x : Str} {F C P : Addr} {oc1 : Value} {od1 : Option Addr} {fd : FuncData} {sl1 : Array (Option Value)} {oc2 : Value} {od2 : Option Addr} {vs : Array Value} {sl2 : Array (Option Value)}
    (a : PySem.W.nsIn K mainGlobals x = some (some (.ref F))) (l : K.lookup F = some ⟨oc1, od1, .func fd, sl1⟩) (e : fd.code = .ref C) (o : K.lookup C = some ⟨oc2, od2, .fields vs, sl2⟩) (p : vs[11]? = some (.ref P)) : PySem.W.tabIn K x = some (C, P) := by
  unfold PySem.W.tabIn
  rw [a]
  simp only []
  rw [l]
  simp only []
  rw [e]
  simp only []
  rw [o]
  simp only []
  rw [p]
theorem law_at {K : Frag} {c9 : Addr} {T : List (Addr × Str)} {cs : List (Addr × Addr)} (hc : ∀ p ∈ T, ∃ q ∈ cs, q.2 = p.1) (hd : ∀ q ∈ cs, ∃ p ∈ T, p.1 = q.2) {H : Hp} {a : Addr} {ns : List Int} (hl : ns.length ≤ 63) (ht : ∀ p ∈ cs, H p.2 = some (.tbl #[])) (hs : SqL K H a (ns.map V.int)) :
    spLaw (LyC K c9) T [.ref a] H (fun v _ => v = .bl true) fun _ _ _ => False := by
  have hT : ∀ p ∈ T, H p.1 = some (.tbl #[]) := fun p hp => by
    obtain ⟨q, hq, e⟩ := hc p hp
    rw [← e]
    exact ht q hq
  obtain ⟨G, g1, g2⟩ : ∃ G : Hp, (∀ p ∈ T, G p.1 = none) ∧ ∀ b, (∃ p ∈ T, p.1 = b) ∨ G b = H b := by
    refine ⟨fun b => if (T.any fun p => p.1 == b) = true then none else H b, fun p hp => if_pos (List.any_eq_true.mpr ⟨p, hp, by simp⟩), fun b => ?_⟩
    by_cases h : (T.any fun p => p.1 == b) = true
    · obtain ⟨p, hp, e⟩ := List.any_eq_true.mp h
      exact .inl ⟨p, hp, by simpa using e⟩
    · exact .inr (if_neg h)
  have sG : Same G H := fun b o e => by
    rcases g2 b with ⟨p, hp, rfl⟩ | h
    · rw [g1 p hp] at e
      cases e
    · rw [← h]
      exact e
  have back : ∀ o : HO, (∀ ps, o ≠ .tbl ps) → H a = some o → G a = some o := fun o n e => by
    rcases g2 a with ⟨p, hp, rfl⟩ | h
    · rw [hT p hp] at e
      cases e
      exact absurd rfl (n _)
    · rw [h]
      exact e
  refine ⟨a, ns, G, rfl, ?_, hl, sG, g1, fun p hp => ?_, fun _ => rfl⟩
  · rcases hs with (h | ⟨o, h⟩) | h
    · exact .inl (.inl (back _ (fun _ z => by cases z) h))
    · exact .inl (.inr ⟨o, back _ (fun _ z => by cases z) h⟩)
    · exact .inr h
  · obtain ⟨ps, h1, h2, h3⟩ := LamX.TabS.nil (q := p.2) (hT p hp)
    have e := (hT p hp).symm.trans h1
    cases e
    exact ⟨#[], h1, h2, fun pos cv z => by cases z⟩
theorem all_mk {l : PySem.W.OpenLaw} {w : World} {K : Frag} {h : Heap} {mg : Str → Option Value} {fa c9 cF  F_is_number F_is_list F_is_list_of_numbers F_determinant F_sign_counts F_stepped F_cleared F_is_square F_is_mirrored F_pivot_at F_with_pivot F_without F_law_begun F_law_mixed F_law_take F_law_pick F_law_shuffled F_law_caught F_law_cleared F_law_determinant F_law_rows_undone F_law_bent F_law_middle F_law_product_due F_law_refuses F_law C_law_refuses P_law_refuses : Addr} (X : K.In h) (G : h.Ns mainGlobals mg) (hfa : mg "law" = some (.ref fa))
    (aS : PySem.W.nsIn K mainGlobals "BadTable" = some (some (.ref c9)))
    (aF : PySem.W.nsIn K mainGlobals "FlatError" = some (some (.ref cF)))
    (ob : obB K = true)
    (y9 : exPl K c9 = true)
    (v9 : exF K c9 cF = true)
    {oc_is_number kV_is_number dc_is_number pm_is_number cd_is_number ct_is_number : Value} {od_is_number an_is_number : Option Addr} {sl_is_number : Array (Option Value)}
    (a_is_number : PySem.W.nsIn K mainGlobals "is_number" = some (some (.ref F_is_number))) (l_is_number : K.lookup F_is_number = some ⟨oc_is_number, od_is_number, .func (PySem.W.fnOf "is_number" "is_number" (C8.fnArgs s_is_number) (C8.fnBody s_is_number) (C8.fnScope s_is_number) .none kV_is_number dc_is_number pm_is_number an_is_number cd_is_number ct_is_number), sl_is_number⟩) (c_is_number : PySem.W.codeIn K cd_is_number "is_number" = true) (k_is_number : PySem.W.keepIn K (.ref F_is_number) = true)
    {oc_is_list kV_is_list dc_is_list pm_is_list cd_is_list ct_is_list : Value} {od_is_list an_is_list : Option Addr} {sl_is_list : Array (Option Value)}
    (a_is_list : PySem.W.nsIn K mainGlobals "is_list" = some (some (.ref F_is_list))) (l_is_list : K.lookup F_is_list = some ⟨oc_is_list, od_is_list, .func (PySem.W.fnOf "is_list" "is_list" (C8.fnArgs s_is_list) (C8.fnBody s_is_list) (C8.fnScope s_is_list) .none kV_is_list dc_is_list pm_is_list an_is_list cd_is_list ct_is_list), sl_is_list⟩) (c_is_list : PySem.W.codeIn K cd_is_list "is_list" = true) (k_is_list : PySem.W.keepIn K (.ref F_is_list) = true)
    {oc_is_list_of_numbers kV_is_list_of_numbers dc_is_list_of_numbers pm_is_list_of_numbers cd_is_list_of_numbers ct_is_list_of_numbers : Value} {od_is_list_of_numbers an_is_list_of_numbers : Option Addr} {sl_is_list_of_numbers : Array (Option Value)}
    (a_is_list_of_numbers : PySem.W.nsIn K mainGlobals "is_list_of_numbers" = some (some (.ref F_is_list_of_numbers))) (l_is_list_of_numbers : K.lookup F_is_list_of_numbers = some ⟨oc_is_list_of_numbers, od_is_list_of_numbers, .func (PySem.W.fnOf "is_list_of_numbers" "is_list_of_numbers" (C8.fnArgs s_is_list_of_numbers) (C8.fnBody s_is_list_of_numbers) (C8.fnScope s_is_list_of_numbers) .none kV_is_list_of_numbers dc_is_list_of_numbers pm_is_list_of_numbers an_is_list_of_numbers cd_is_list_of_numbers ct_is_list_of_numbers), sl_is_list_of_numbers⟩) (c_is_list_of_numbers : PySem.W.codeIn K cd_is_list_of_numbers "is_list_of_numbers" = true) (k_is_list_of_numbers : PySem.W.keepIn K (.ref F_is_list_of_numbers) = true)
    {oc_determinant kV_determinant dc_determinant pm_determinant cd_determinant ct_determinant : Value} {od_determinant an_determinant : Option Addr} {sl_determinant : Array (Option Value)}
    (a_determinant : PySem.W.nsIn K mainGlobals "determinant" = some (some (.ref F_determinant))) (l_determinant : K.lookup F_determinant = some ⟨oc_determinant, od_determinant, .func (PySem.W.fnOf "determinant" "determinant" (C8.fnArgs s_determinant) (C8.fnBody s_determinant) (C8.fnScope s_determinant) .none kV_determinant dc_determinant pm_determinant an_determinant cd_determinant ct_determinant), sl_determinant⟩) (c_determinant : PySem.W.codeIn K cd_determinant "determinant" = true) (k_determinant : PySem.W.keepIn K (.ref F_determinant) = true)
    {oc_sign_counts kV_sign_counts dc_sign_counts pm_sign_counts cd_sign_counts ct_sign_counts : Value} {od_sign_counts an_sign_counts : Option Addr} {sl_sign_counts : Array (Option Value)}
    (a_sign_counts : PySem.W.nsIn K mainGlobals "sign_counts" = some (some (.ref F_sign_counts))) (l_sign_counts : K.lookup F_sign_counts = some ⟨oc_sign_counts, od_sign_counts, .func (PySem.W.fnOf "sign_counts" "sign_counts" (C8.fnArgs s_sign_counts) (C8.fnBody s_sign_counts) (C8.fnScope s_sign_counts) .none kV_sign_counts dc_sign_counts pm_sign_counts an_sign_counts cd_sign_counts ct_sign_counts), sl_sign_counts⟩) (c_sign_counts : PySem.W.codeIn K cd_sign_counts "sign_counts" = true) (k_sign_counts : PySem.W.keepIn K (.ref F_sign_counts) = true)
    {oc_stepped kV_stepped dc_stepped pm_stepped cd_stepped ct_stepped : Value} {od_stepped an_stepped : Option Addr} {sl_stepped : Array (Option Value)}
    (a_stepped : PySem.W.nsIn K mainGlobals "stepped" = some (some (.ref F_stepped))) (l_stepped : K.lookup F_stepped = some ⟨oc_stepped, od_stepped, .func (PySem.W.fnOf "stepped" "stepped" (C8.fnArgs s_stepped) (C8.fnBody s_stepped) (C8.fnScope s_stepped) .none kV_stepped dc_stepped pm_stepped an_stepped cd_stepped ct_stepped), sl_stepped⟩) (c_stepped : PySem.W.codeIn K cd_stepped "stepped" = true) (k_stepped : PySem.W.keepIn K (.ref F_stepped) = true)
    {oc_cleared kV_cleared dc_cleared pm_cleared cd_cleared ct_cleared : Value} {od_cleared an_cleared : Option Addr} {sl_cleared : Array (Option Value)}
    (a_cleared : PySem.W.nsIn K mainGlobals "_cleared" = some (some (.ref F_cleared))) (l_cleared : K.lookup F_cleared = some ⟨oc_cleared, od_cleared, .func (PySem.W.fnOf "_cleared" "_cleared" (C8.fnArgs s_cleared) (C8.fnBody s_cleared) (C8.fnScope s_cleared) .none kV_cleared dc_cleared pm_cleared an_cleared cd_cleared ct_cleared), sl_cleared⟩) (c_cleared : PySem.W.codeIn K cd_cleared "_cleared" = true) (k_cleared : PySem.W.keepIn K (.ref F_cleared) = true)
    {oc_is_square kV_is_square dc_is_square pm_is_square cd_is_square ct_is_square : Value} {od_is_square an_is_square : Option Addr} {sl_is_square : Array (Option Value)}
    (a_is_square : PySem.W.nsIn K mainGlobals "_is_square" = some (some (.ref F_is_square))) (l_is_square : K.lookup F_is_square = some ⟨oc_is_square, od_is_square, .func (PySem.W.fnOf "_is_square" "_is_square" (C8.fnArgs s_is_square) (C8.fnBody s_is_square) (C8.fnScope s_is_square) .none kV_is_square dc_is_square pm_is_square an_is_square cd_is_square ct_is_square), sl_is_square⟩) (c_is_square : PySem.W.codeIn K cd_is_square "_is_square" = true) (k_is_square : PySem.W.keepIn K (.ref F_is_square) = true)
    {oc_is_mirrored kV_is_mirrored dc_is_mirrored pm_is_mirrored cd_is_mirrored ct_is_mirrored : Value} {od_is_mirrored an_is_mirrored : Option Addr} {sl_is_mirrored : Array (Option Value)}
    (a_is_mirrored : PySem.W.nsIn K mainGlobals "_is_mirrored" = some (some (.ref F_is_mirrored))) (l_is_mirrored : K.lookup F_is_mirrored = some ⟨oc_is_mirrored, od_is_mirrored, .func (PySem.W.fnOf "_is_mirrored" "_is_mirrored" (C8.fnArgs s_is_mirrored) (C8.fnBody s_is_mirrored) (C8.fnScope s_is_mirrored) .none kV_is_mirrored dc_is_mirrored pm_is_mirrored an_is_mirrored cd_is_mirrored ct_is_mirrored), sl_is_mirrored⟩) (c_is_mirrored : PySem.W.codeIn K cd_is_mirrored "_is_mirrored" = true) (k_is_mirrored : PySem.W.keepIn K (.ref F_is_mirrored) = true)
    {oc_pivot_at kV_pivot_at dc_pivot_at pm_pivot_at cd_pivot_at ct_pivot_at : Value} {od_pivot_at an_pivot_at : Option Addr} {sl_pivot_at : Array (Option Value)}
    (a_pivot_at : PySem.W.nsIn K mainGlobals "_pivot_at" = some (some (.ref F_pivot_at))) (l_pivot_at : K.lookup F_pivot_at = some ⟨oc_pivot_at, od_pivot_at, .func (PySem.W.fnOf "_pivot_at" "_pivot_at" (C8.fnArgs s_pivot_at) (C8.fnBody s_pivot_at) (C8.fnScope s_pivot_at) .none kV_pivot_at dc_pivot_at pm_pivot_at an_pivot_at cd_pivot_at ct_pivot_at), sl_pivot_at⟩) (c_pivot_at : PySem.W.codeIn K cd_pivot_at "_pivot_at" = true) (k_pivot_at : PySem.W.keepIn K (.ref F_pivot_at) = true)
    {oc_with_pivot kV_with_pivot dc_with_pivot pm_with_pivot cd_with_pivot ct_with_pivot : Value} {od_with_pivot an_with_pivot : Option Addr} {sl_with_pivot : Array (Option Value)}
    (a_with_pivot : PySem.W.nsIn K mainGlobals "_with_pivot" = some (some (.ref F_with_pivot))) (l_with_pivot : K.lookup F_with_pivot = some ⟨oc_with_pivot, od_with_pivot, .func (PySem.W.fnOf "_with_pivot" "_with_pivot" (C8.fnArgs s_with_pivot) (C8.fnBody s_with_pivot) (C8.fnScope s_with_pivot) .none kV_with_pivot dc_with_pivot pm_with_pivot an_with_pivot cd_with_pivot ct_with_pivot), sl_with_pivot⟩) (c_with_pivot : PySem.W.codeIn K cd_with_pivot "_with_pivot" = true) (k_with_pivot : PySem.W.keepIn K (.ref F_with_pivot) = true)
    {oc_without kV_without dc_without pm_without cd_without ct_without : Value} {od_without an_without : Option Addr} {sl_without : Array (Option Value)}
    (a_without : PySem.W.nsIn K mainGlobals "_without" = some (some (.ref F_without))) (l_without : K.lookup F_without = some ⟨oc_without, od_without, .func (PySem.W.fnOf "_without" "_without" (C8.fnArgs s_without) (C8.fnBody s_without) (C8.fnScope s_without) .none kV_without dc_without pm_without an_without cd_without ct_without), sl_without⟩) (c_without : PySem.W.codeIn K cd_without "_without" = true) (k_without : PySem.W.keepIn K (.ref F_without) = true)
    {oc_law_begun kV_law_begun dc_law_begun pm_law_begun cd_law_begun ct_law_begun : Value} {od_law_begun an_law_begun : Option Addr} {sl_law_begun : Array (Option Value)}
    (a_law_begun : PySem.W.nsIn K mainGlobals "_law_begun" = some (some (.ref F_law_begun))) (l_law_begun : K.lookup F_law_begun = some ⟨oc_law_begun, od_law_begun, .func (PySem.W.fnOf "_law_begun" "_law_begun" (C8.fnArgs Fr.s_law_begun) (C8.fnBody Fr.s_law_begun) (C8.fnScope Fr.s_law_begun) .none kV_law_begun dc_law_begun pm_law_begun an_law_begun cd_law_begun ct_law_begun), sl_law_begun⟩) (c_law_begun : PySem.W.codeIn K cd_law_begun "_law_begun" = true) (k_law_begun : PySem.W.keepIn K (.ref F_law_begun) = true)
    {oc_law_mixed kV_law_mixed dc_law_mixed pm_law_mixed cd_law_mixed ct_law_mixed : Value} {od_law_mixed an_law_mixed : Option Addr} {sl_law_mixed : Array (Option Value)}
    (a_law_mixed : PySem.W.nsIn K mainGlobals "_law_mixed" = some (some (.ref F_law_mixed))) (l_law_mixed : K.lookup F_law_mixed = some ⟨oc_law_mixed, od_law_mixed, .func (PySem.W.fnOf "_law_mixed" "_law_mixed" (C8.fnArgs Fr.s_law_mixed) (C8.fnBody Fr.s_law_mixed) (C8.fnScope Fr.s_law_mixed) .none kV_law_mixed dc_law_mixed pm_law_mixed an_law_mixed cd_law_mixed ct_law_mixed), sl_law_mixed⟩) (c_law_mixed : PySem.W.codeIn K cd_law_mixed "_law_mixed" = true) (k_law_mixed : PySem.W.keepIn K (.ref F_law_mixed) = true)
    {oc_law_take kV_law_take dc_law_take pm_law_take cd_law_take ct_law_take : Value} {od_law_take an_law_take : Option Addr} {sl_law_take : Array (Option Value)}
    (a_law_take : PySem.W.nsIn K mainGlobals "_law_take" = some (some (.ref F_law_take))) (l_law_take : K.lookup F_law_take = some ⟨oc_law_take, od_law_take, .func (PySem.W.fnOf "_law_take" "_law_take" (C8.fnArgs Fr.s_law_take) (C8.fnBody Fr.s_law_take) (C8.fnScope Fr.s_law_take) .none kV_law_take dc_law_take pm_law_take an_law_take cd_law_take ct_law_take), sl_law_take⟩) (c_law_take : PySem.W.codeIn K cd_law_take "_law_take" = true) (k_law_take : PySem.W.keepIn K (.ref F_law_take) = true)
    {oc_law_pick kV_law_pick dc_law_pick pm_law_pick cd_law_pick ct_law_pick : Value} {od_law_pick an_law_pick : Option Addr} {sl_law_pick : Array (Option Value)}
    (a_law_pick : PySem.W.nsIn K mainGlobals "_law_pick" = some (some (.ref F_law_pick))) (l_law_pick : K.lookup F_law_pick = some ⟨oc_law_pick, od_law_pick, .func (PySem.W.fnOf "_law_pick" "_law_pick" (C8.fnArgs Fr.s_law_pick) (C8.fnBody Fr.s_law_pick) (C8.fnScope Fr.s_law_pick) .none kV_law_pick dc_law_pick pm_law_pick an_law_pick cd_law_pick ct_law_pick), sl_law_pick⟩) (c_law_pick : PySem.W.codeIn K cd_law_pick "_law_pick" = true) (k_law_pick : PySem.W.keepIn K (.ref F_law_pick) = true)
    {oc_law_shuffled kV_law_shuffled dc_law_shuffled pm_law_shuffled cd_law_shuffled ct_law_shuffled : Value} {od_law_shuffled an_law_shuffled : Option Addr} {sl_law_shuffled : Array (Option Value)}
    (a_law_shuffled : PySem.W.nsIn K mainGlobals "_law_shuffled" = some (some (.ref F_law_shuffled))) (l_law_shuffled : K.lookup F_law_shuffled = some ⟨oc_law_shuffled, od_law_shuffled, .func (PySem.W.fnOf "_law_shuffled" "_law_shuffled" (C8.fnArgs s_law_shuffled) (C8.fnBody s_law_shuffled) (C8.fnScope s_law_shuffled) .none kV_law_shuffled dc_law_shuffled pm_law_shuffled an_law_shuffled cd_law_shuffled ct_law_shuffled), sl_law_shuffled⟩) (c_law_shuffled : PySem.W.codeIn K cd_law_shuffled "_law_shuffled" = true) (k_law_shuffled : PySem.W.keepIn K (.ref F_law_shuffled) = true)
    {oc_law_caught kV_law_caught dc_law_caught pm_law_caught cd_law_caught ct_law_caught : Value} {od_law_caught an_law_caught : Option Addr} {sl_law_caught : Array (Option Value)}
    (a_law_caught : PySem.W.nsIn K mainGlobals "_law_caught" = some (some (.ref F_law_caught))) (l_law_caught : K.lookup F_law_caught = some ⟨oc_law_caught, od_law_caught, .func (PySem.W.fnOf "_law_caught" "_law_caught" (C8.fnArgs s_law_caught) (C8.fnBody s_law_caught) (C8.fnScope s_law_caught) .none kV_law_caught dc_law_caught pm_law_caught an_law_caught cd_law_caught ct_law_caught), sl_law_caught⟩) (c_law_caught : PySem.W.codeIn K cd_law_caught "_law_caught" = true) (k_law_caught : PySem.W.keepIn K (.ref F_law_caught) = true)
    {oc_law_cleared kV_law_cleared dc_law_cleared pm_law_cleared cd_law_cleared ct_law_cleared : Value} {od_law_cleared an_law_cleared : Option Addr} {sl_law_cleared : Array (Option Value)}
    (a_law_cleared : PySem.W.nsIn K mainGlobals "_law_cleared" = some (some (.ref F_law_cleared))) (l_law_cleared : K.lookup F_law_cleared = some ⟨oc_law_cleared, od_law_cleared, .func (PySem.W.fnOf "_law_cleared" "_law_cleared" (C8.fnArgs s_law_cleared) (C8.fnBody s_law_cleared) (C8.fnScope s_law_cleared) .none kV_law_cleared dc_law_cleared pm_law_cleared an_law_cleared cd_law_cleared ct_law_cleared), sl_law_cleared⟩) (c_law_cleared : PySem.W.codeIn K cd_law_cleared "_law_cleared" = true) (k_law_cleared : PySem.W.keepIn K (.ref F_law_cleared) = true)
    {oc_law_determinant kV_law_determinant dc_law_determinant pm_law_determinant cd_law_determinant ct_law_determinant : Value} {od_law_determinant an_law_determinant : Option Addr} {sl_law_determinant : Array (Option Value)}
    (a_law_determinant : PySem.W.nsIn K mainGlobals "_law_determinant" = some (some (.ref F_law_determinant))) (l_law_determinant : K.lookup F_law_determinant = some ⟨oc_law_determinant, od_law_determinant, .func (PySem.W.fnOf "_law_determinant" "_law_determinant" (C8.fnArgs s_law_determinant) (C8.fnBody s_law_determinant) (C8.fnScope s_law_determinant) .none kV_law_determinant dc_law_determinant pm_law_determinant an_law_determinant cd_law_determinant ct_law_determinant), sl_law_determinant⟩) (c_law_determinant : PySem.W.codeIn K cd_law_determinant "_law_determinant" = true) (k_law_determinant : PySem.W.keepIn K (.ref F_law_determinant) = true)
    {oc_law_rows_undone kV_law_rows_undone dc_law_rows_undone pm_law_rows_undone cd_law_rows_undone ct_law_rows_undone : Value} {od_law_rows_undone an_law_rows_undone : Option Addr} {sl_law_rows_undone : Array (Option Value)}
    (a_law_rows_undone : PySem.W.nsIn K mainGlobals "_law_rows_undone" = some (some (.ref F_law_rows_undone))) (l_law_rows_undone : K.lookup F_law_rows_undone = some ⟨oc_law_rows_undone, od_law_rows_undone, .func (PySem.W.fnOf "_law_rows_undone" "_law_rows_undone" (C8.fnArgs s_law_rows_undone) (C8.fnBody s_law_rows_undone) (C8.fnScope s_law_rows_undone) .none kV_law_rows_undone dc_law_rows_undone pm_law_rows_undone an_law_rows_undone cd_law_rows_undone ct_law_rows_undone), sl_law_rows_undone⟩) (c_law_rows_undone : PySem.W.codeIn K cd_law_rows_undone "_law_rows_undone" = true) (k_law_rows_undone : PySem.W.keepIn K (.ref F_law_rows_undone) = true)
    {oc_law_bent kV_law_bent dc_law_bent pm_law_bent cd_law_bent ct_law_bent : Value} {od_law_bent an_law_bent : Option Addr} {sl_law_bent : Array (Option Value)}
    (a_law_bent : PySem.W.nsIn K mainGlobals "_law_bent" = some (some (.ref F_law_bent))) (l_law_bent : K.lookup F_law_bent = some ⟨oc_law_bent, od_law_bent, .func (PySem.W.fnOf "_law_bent" "_law_bent" (C8.fnArgs s_law_bent) (C8.fnBody s_law_bent) (C8.fnScope s_law_bent) .none kV_law_bent dc_law_bent pm_law_bent an_law_bent cd_law_bent ct_law_bent), sl_law_bent⟩) (c_law_bent : PySem.W.codeIn K cd_law_bent "_law_bent" = true) (k_law_bent : PySem.W.keepIn K (.ref F_law_bent) = true)
    {oc_law_middle kV_law_middle dc_law_middle pm_law_middle cd_law_middle ct_law_middle : Value} {od_law_middle an_law_middle : Option Addr} {sl_law_middle : Array (Option Value)}
    (a_law_middle : PySem.W.nsIn K mainGlobals "_law_middle" = some (some (.ref F_law_middle))) (l_law_middle : K.lookup F_law_middle = some ⟨oc_law_middle, od_law_middle, .func (PySem.W.fnOf "_law_middle" "_law_middle" (C8.fnArgs s_law_middle) (C8.fnBody s_law_middle) (C8.fnScope s_law_middle) .none kV_law_middle dc_law_middle pm_law_middle an_law_middle cd_law_middle ct_law_middle), sl_law_middle⟩) (c_law_middle : PySem.W.codeIn K cd_law_middle "_law_middle" = true) (k_law_middle : PySem.W.keepIn K (.ref F_law_middle) = true)
    {oc_law_product_due kV_law_product_due dc_law_product_due pm_law_product_due cd_law_product_due ct_law_product_due : Value} {od_law_product_due an_law_product_due : Option Addr} {sl_law_product_due : Array (Option Value)}
    (a_law_product_due : PySem.W.nsIn K mainGlobals "_law_product_due" = some (some (.ref F_law_product_due))) (l_law_product_due : K.lookup F_law_product_due = some ⟨oc_law_product_due, od_law_product_due, .func (PySem.W.fnOf "_law_product_due" "_law_product_due" (C8.fnArgs s_law_product_due) (C8.fnBody s_law_product_due) (C8.fnScope s_law_product_due) .none kV_law_product_due dc_law_product_due pm_law_product_due an_law_product_due cd_law_product_due ct_law_product_due), sl_law_product_due⟩) (c_law_product_due : PySem.W.codeIn K cd_law_product_due "_law_product_due" = true) (k_law_product_due : PySem.W.keepIn K (.ref F_law_product_due) = true)
    {oc_law_refuses kV_law_refuses dc_law_refuses pm_law_refuses  ct_law_refuses : Value} {od_law_refuses an_law_refuses : Option Addr} {sl_law_refuses : Array (Option Value)}
    (a_law_refuses : PySem.W.nsIn K mainGlobals "_law_refuses" = some (some (.ref F_law_refuses))) (l_law_refuses : K.lookup F_law_refuses = some ⟨oc_law_refuses, od_law_refuses, .func (PySem.W.fnOf "_law_refuses" "_law_refuses" (C8.fnArgs s_law_refuses) (C8.fnBody s_law_refuses) (C8.fnScope s_law_refuses) .none kV_law_refuses dc_law_refuses pm_law_refuses an_law_refuses (.ref C_law_refuses) ct_law_refuses), sl_law_refuses⟩) (c_law_refuses : PySem.W.codeIn K (.ref C_law_refuses) "_law_refuses" = true) (k_law_refuses : PySem.W.keepIn K (.ref F_law_refuses) = true)
    {oc_law kV_law dc_law pm_law cd_law ct_law : Value} {od_law an_law : Option Addr} {sl_law : Array (Option Value)}
    (a_law : PySem.W.nsIn K mainGlobals "law" = some (some (.ref F_law))) (l_law : K.lookup F_law = some ⟨oc_law, od_law, .func (PySem.W.fnOf "law" "law" (C8.fnArgs s_law) (C8.fnBody s_law) (C8.fnScope s_law) .none kV_law dc_law pm_law an_law cd_law ct_law), sl_law⟩) (c_law : PySem.W.codeIn K cd_law "law" = true) (k_law : PySem.W.keepIn K (.ref F_law) = true)
    {oo_law_refuses : Value} {oe_law_refuses : Option Addr} {vs_law_refuses : Array Value} {sm_law_refuses : Array (Option Value)} (o_law_refuses : K.lookup C_law_refuses = some ⟨oo_law_refuses, oe_law_refuses, .fields vs_law_refuses, sm_law_refuses⟩) (p_law_refuses : vs_law_refuses[11]? = some (.ref P_law_refuses)) (n_law_refuses : (K.lookup P_law_refuses).isNone = true)
    (pn : decide [P_law_refuses].Nodup = true)
    (z_abs : PySem.W.nsIn K mainGlobals "abs" = some none)
    (z_int : PySem.W.nsIn K mainGlobals "int" = some none)
    (z_len : PySem.W.nsIn K mainGlobals "len" = some none)
    (z_list : PySem.W.nsIn K mainGlobals "list" = some none)
    (z_tuple : PySem.W.nsIn K mainGlobals "tuple" = some none)
    (z_max : PySem.W.nsIn K mainGlobals "max" = some none)
    (z_range : PySem.W.nsIn K mainGlobals "range" = some none)
    (z_sorted : PySem.W.nsIn K mainGlobals "sorted" = some none)
    (z_set : PySem.W.nsIn K mainGlobals "set" = some none)
    (z_zip : PySem.W.nsIn K mainGlobals "zip" = some none)
    (z_enumerate : PySem.W.nsIn K mainGlobals "enumerate" = some none)
    (z_isinstance : PySem.W.nsIn K mainGlobals "isinstance" = some none)
    (z_bool : PySem.W.nsIn K mainGlobals "bool" = some none)
    (z_all : PySem.W.nsIn K mainGlobals "all" = some none)
    (z_repr : PySem.W.nsIn K mainGlobals "repr" = some none)
    (z_min : PySem.W.nsIn K mainGlobals "min" = some none)
    (z_sum : PySem.W.nsIn K mainGlobals "sum" = some none)
    (z_any : PySem.W.nsIn K mainGlobals "any" = some none)
    : ∃ (cs : List (Addr × Addr)) (fd : FuncData) (sp : L2.Sp), (∀ p ∈ cs, (∃ x ∈ (["_law_refuses"] : List Str), PySem.W.tabIn K x = some p) ∧ K.lookup p.2 = none) ∧
      (∀ (s : Shared) (u : Value), BindsTo s fd ⟨[u], []⟩ [("script", u)]) ∧
      (∀ base : Heap, K.In base → base.Ns mainGlobals mg → (∀ p ∈ cs, LamX.TabB base mg p.1 p.2) → FnG l.prog w K mg base C8.CX0 9 fa fd ["script"] sp) ∧
      ∀ (H : Hp) (a : Addr) (ns : List Int), ns.length ≤ 63 → (∀ p ∈ cs, H p.2 = some (.tbl #[])) → SqL K H a (ns.map V.int) →
        (∀ b, H b = none ∨ (∃ ob xs, H b = some (.frz ob (.lst xs))) ∨ ((∃ p ∈ cs, p.2 = b) ∧ H b = some (.tbl #[]))) →
        sp [.ref a] H (fun v _ => v = .bl true) fun _ _ _ => False := by
  have e := hfa.symm.trans (PySem.W.mg_of X G a_law)
  cases e
  have ob0 := ob
  unfold obB at ob
  simp only [Bool.and_eq_true, decide_eq_true_eq] at ob
  have B : Bw mg := ⟨PySem.W.mg_none_of X G z_abs, PySem.W.mg_none_of X G z_int, PySem.W.mg_none_of X G z_len, PySem.W.mg_none_of X G z_list, PySem.W.mg_none_of X G z_tuple, PySem.W.mg_none_of X G z_max, PySem.W.mg_none_of X G z_range, PySem.W.mg_none_of X G z_sorted, PySem.W.mg_none_of X G z_set, PySem.W.mg_none_of X G z_zip, PySem.W.mg_none_of X G z_enumerate⟩
  have Bx : Bx mg := ⟨PySem.W.mg_none_of X G z_isinstance, PySem.W.mg_none_of X G z_bool, PySem.W.mg_none_of X G z_all, PySem.W.mg_none_of X G z_repr, PySem.W.mg_none_of X G z_min⟩
  have EF : ∀ n, PySem.W.exmOne K (.ref (Tx c9 n).1) (.ref cF) = some true := fun n => by
    unfold Tx
    exact (exf_all v9).1
  have XC : ∀ n, ExcC K (Tx c9 n).1 := fun n => by
    unfold Tx
    exact ini_exc ob0 (pl_b y9)
  have Kt : Kt19 K mg (Tx c9) cF c9 := ⟨PySem.W.mg_of X G aF, EF, XC, (exf_all v9).2⟩
  have D_is_number : C8.Def K mg "is_number" s_is_number F_is_number _ := ⟨⟨⟨_, _, _, _, _, _, _, _, _, _, rfl, l_is_number, c_is_number⟩⟩, PySem.W.mg_of X G a_is_number, k_is_number⟩
  have b_is_number := D_is_number.fn.binds rfl (ps := ["thing"]) fun _ _ _ _ _ _ us hl => match us, hl with | [_], _ => rfl
  have D_is_list : C8.Def K mg "is_list" s_is_list F_is_list _ := ⟨⟨⟨_, _, _, _, _, _, _, _, _, _, rfl, l_is_list, c_is_list⟩⟩, PySem.W.mg_of X G a_is_list, k_is_list⟩
  have b_is_list := D_is_list.fn.binds rfl (ps := ["thing"]) fun _ _ _ _ _ _ us hl => match us, hl with | [_], _ => rfl
  have D_is_list_of_numbers : C8.Def K mg "is_list_of_numbers" s_is_list_of_numbers F_is_list_of_numbers _ := ⟨⟨⟨_, _, _, _, _, _, _, _, _, _, rfl, l_is_list_of_numbers, c_is_list_of_numbers⟩⟩, PySem.W.mg_of X G a_is_list_of_numbers, k_is_list_of_numbers⟩
  have b_is_list_of_numbers := D_is_list_of_numbers.fn.binds rfl (ps := ["thing"]) fun _ _ _ _ _ _ us hl => match us, hl with | [_], _ => rfl
  have D_determinant : C8.Def K mg "determinant" s_determinant F_determinant _ := ⟨⟨⟨_, _, _, _, _, _, _, _, _, _, rfl, l_determinant, c_determinant⟩⟩, PySem.W.mg_of X G a_determinant, k_determinant⟩
  have b_determinant := D_determinant.fn.binds rfl (ps := ["table"]) fun _ _ _ _ _ _ us hl => match us, hl with | [_], _ => rfl
  have D_sign_counts : C8.Def K mg "sign_counts" s_sign_counts F_sign_counts _ := ⟨⟨⟨_, _, _, _, _, _, _, _, _, _, rfl, l_sign_counts, c_sign_counts⟩⟩, PySem.W.mg_of X G a_sign_counts, k_sign_counts⟩
  have b_sign_counts := D_sign_counts.fn.binds rfl (ps := ["table"]) fun _ _ _ _ _ _ us hl => match us, hl with | [_], _ => rfl
  have D_stepped : C8.Def K mg "stepped" s_stepped F_stepped _ := ⟨⟨⟨_, _, _, _, _, _, _, _, _, _, rfl, l_stepped, c_stepped⟩⟩, PySem.W.mg_of X G a_stepped, k_stepped⟩
  have b_stepped := D_stepped.fn.binds rfl (ps := ["rows"]) fun _ _ _ _ _ _ us hl => match us, hl with | [_], _ => rfl
  have D_cleared : C8.Def K mg "_cleared" s_cleared F_cleared _ := ⟨⟨⟨_, _, _, _, _, _, _, _, _, _, rfl, l_cleared, c_cleared⟩⟩, PySem.W.mg_of X G a_cleared, k_cleared⟩
  have b_cleared := D_cleared.fn.binds rfl (ps := ["row", "step", "before"]) fun _ _ _ _ _ _ us hl => match us, hl with | [_, _, _], _ => rfl
  have D_is_square : C8.Def K mg "_is_square" s_is_square F_is_square _ := ⟨⟨⟨_, _, _, _, _, _, _, _, _, _, rfl, l_is_square, c_is_square⟩⟩, PySem.W.mg_of X G a_is_square, k_is_square⟩
  have b_is_square := D_is_square.fn.binds rfl (ps := ["table"]) fun _ _ _ _ _ _ us hl => match us, hl with | [_], _ => rfl
  have D_is_mirrored : C8.Def K mg "_is_mirrored" s_is_mirrored F_is_mirrored _ := ⟨⟨⟨_, _, _, _, _, _, _, _, _, _, rfl, l_is_mirrored, c_is_mirrored⟩⟩, PySem.W.mg_of X G a_is_mirrored, k_is_mirrored⟩
  have b_is_mirrored := D_is_mirrored.fn.binds rfl (ps := ["table"]) fun _ _ _ _ _ _ us hl => match us, hl with | [_], _ => rfl
  have D_pivot_at : C8.Def K mg "_pivot_at" s_pivot_at F_pivot_at _ := ⟨⟨⟨_, _, _, _, _, _, _, _, _, _, rfl, l_pivot_at, c_pivot_at⟩⟩, PySem.W.mg_of X G a_pivot_at, k_pivot_at⟩
  have b_pivot_at := D_pivot_at.fn.binds rfl (ps := ["left"]) fun _ _ _ _ _ _ us hl => match us, hl with | [_], _ => rfl
  have D_with_pivot : C8.Def K mg "_with_pivot" s_with_pivot F_with_pivot _ := ⟨⟨⟨_, _, _, _, _, _, _, _, _, _, rfl, l_with_pivot, c_with_pivot⟩⟩, PySem.W.mg_of X G a_with_pivot, k_with_pivot⟩
  have b_with_pivot := D_with_pivot.fn.binds rfl (ps := ["left"]) fun _ _ _ _ _ _ us hl => match us, hl with | [_], _ => rfl
  have D_without : C8.Def K mg "_without" s_without F_without _ := ⟨⟨⟨_, _, _, _, _, _, _, _, _, _, rfl, l_without, c_without⟩⟩, PySem.W.mg_of X G a_without, k_without⟩
  have b_without := D_without.fn.binds rfl (ps := ["left", "at", "before"]) fun _ _ _ _ _ _ us hl => match us, hl with | [_, _, _], _ => rfl
  have D_law_begun : C8.Def K mg "_law_begun" Fr.s_law_begun F_law_begun _ := ⟨⟨⟨_, _, _, _, _, _, _, _, _, _, rfl, l_law_begun, c_law_begun⟩⟩, PySem.W.mg_of X G a_law_begun, k_law_begun⟩
  have b_law_begun := D_law_begun.fn.binds rfl (ps := ["script"]) fun _ _ _ _ _ _ us hl => match us, hl with | [_], _ => rfl
  have D_law_mixed : C8.Def K mg "_law_mixed" Fr.s_law_mixed F_law_mixed _ := ⟨⟨⟨_, _, _, _, _, _, _, _, _, _, rfl, l_law_mixed, c_law_mixed⟩⟩, PySem.W.mg_of X G a_law_mixed, k_law_mixed⟩
  have b_law_mixed := D_law_mixed.fn.binds rfl (ps := ["draw"]) fun _ _ _ _ _ _ us hl => match us, hl with | [_], _ => rfl
  have D_law_take : C8.Def K mg "_law_take" Fr.s_law_take F_law_take _ := ⟨⟨⟨_, _, _, _, _, _, _, _, _, _, rfl, l_law_take, c_law_take⟩⟩, PySem.W.mg_of X G a_law_take, k_law_take⟩
  have b_law_take := D_law_take.fn.binds rfl (ps := ["draw", "amount"]) fun _ _ _ _ _ _ us hl => match us, hl with | [_, _], _ => rfl
  have D_law_pick : C8.Def K mg "_law_pick" Fr.s_law_pick F_law_pick _ := ⟨⟨⟨_, _, _, _, _, _, _, _, _, _, rfl, l_law_pick, c_law_pick⟩⟩, PySem.W.mg_of X G a_law_pick, k_law_pick⟩
  have b_law_pick := D_law_pick.fn.binds rfl (ps := ["draw", "some"]) fun _ _ _ _ _ _ us hl => match us, hl with | [_, _], _ => rfl
  have D_law_shuffled : C8.Def K mg "_law_shuffled" s_law_shuffled F_law_shuffled _ := ⟨⟨⟨_, _, _, _, _, _, _, _, _, _, rfl, l_law_shuffled, c_law_shuffled⟩⟩, PySem.W.mg_of X G a_law_shuffled, k_law_shuffled⟩
  have b_law_shuffled := D_law_shuffled.fn.binds rfl (ps := ["draw", "some"]) fun _ _ _ _ _ _ us hl => match us, hl with | [_, _], _ => rfl
  have D_law_caught : C8.Def K mg "_law_caught" s_law_caught F_law_caught _ := ⟨⟨⟨_, _, _, _, _, _, _, _, _, _, rfl, l_law_caught, c_law_caught⟩⟩, PySem.W.mg_of X G a_law_caught, k_law_caught⟩
  have b_law_caught := D_law_caught.fn.binds rfl (ps := ["work"]) fun _ _ _ _ _ _ us hl => match us, hl with | [_], _ => rfl
  have D_law_cleared : C8.Def K mg "_law_cleared" s_law_cleared F_law_cleared _ := ⟨⟨⟨_, _, _, _, _, _, _, _, _, _, rfl, l_law_cleared, c_law_cleared⟩⟩, PySem.W.mg_of X G a_law_cleared, k_law_cleared⟩
  have b_law_cleared := D_law_cleared.fn.binds rfl (ps := ["left", "last"]) fun _ _ _ _ _ _ us hl => match us, hl with | [_, _], _ => rfl
  have D_law_determinant : C8.Def K mg "_law_determinant" s_law_determinant F_law_determinant _ := ⟨⟨⟨_, _, _, _, _, _, _, _, _, _, rfl, l_law_determinant, c_law_determinant⟩⟩, PySem.W.mg_of X G a_law_determinant, k_law_determinant⟩
  have b_law_determinant := D_law_determinant.fn.binds rfl (ps := ["table"]) fun _ _ _ _ _ _ us hl => match us, hl with | [_], _ => rfl
  have D_law_rows_undone : C8.Def K mg "_law_rows_undone" s_law_rows_undone F_law_rows_undone _ := ⟨⟨⟨_, _, _, _, _, _, _, _, _, _, rfl, l_law_rows_undone, c_law_rows_undone⟩⟩, PySem.W.mg_of X G a_law_rows_undone, k_law_rows_undone⟩
  have b_law_rows_undone := D_law_rows_undone.fn.binds rfl (ps := ["draw", "size"]) fun _ _ _ _ _ _ us hl => match us, hl with | [_, _], _ => rfl
  have D_law_bent : C8.Def K mg "_law_bent" s_law_bent F_law_bent _ := ⟨⟨⟨_, _, _, _, _, _, _, _, _, _, rfl, l_law_bent, c_law_bent⟩⟩, PySem.W.mg_of X G a_law_bent, k_law_bent⟩
  have b_law_bent := D_law_bent.fn.binds rfl (ps := ["rows", "middle"]) fun _ _ _ _ _ _ us hl => match us, hl with | [_, _], _ => rfl
  have D_law_middle : C8.Def K mg "_law_middle" s_law_middle F_law_middle _ := ⟨⟨⟨_, _, _, _, _, _, _, _, _, _, rfl, l_law_middle, c_law_middle⟩⟩, PySem.W.mg_of X G a_law_middle, k_law_middle⟩
  have b_law_middle := D_law_middle.fn.binds rfl (ps := ["draw", "size"]) fun _ _ _ _ _ _ us hl => match us, hl with | [_, _], _ => rfl
  have D_law_product_due : C8.Def K mg "_law_product_due" s_law_product_due F_law_product_due _ := ⟨⟨⟨_, _, _, _, _, _, _, _, _, _, rfl, l_law_product_due, c_law_product_due⟩⟩, PySem.W.mg_of X G a_law_product_due, k_law_product_due⟩
  have b_law_product_due := D_law_product_due.fn.binds rfl (ps := ["middle"]) fun _ _ _ _ _ _ us hl => match us, hl with | [_], _ => rfl
  have D_law_refuses : C8.Def K mg "_law_refuses" s_law_refuses F_law_refuses _ := ⟨⟨⟨_, _, _, _, _, _, _, _, _, _, rfl, l_law_refuses, c_law_refuses⟩⟩, PySem.W.mg_of X G a_law_refuses, k_law_refuses⟩
  have b_law_refuses := D_law_refuses.fn.binds rfl (ps := ["draw"]) fun _ _ _ _ _ _ us hl => match us, hl with | [_], _ => rfl
  have D_law : C8.Def K mg "law" s_law fa _ := ⟨⟨⟨_, _, _, _, _, _, _, _, _, _, rfl, l_law, c_law⟩⟩, PySem.W.mg_of X G a_law, k_law⟩
  obtain ⟨T, hT⟩ : ∃ T : List (Addr × Str), T = [(P_law_refuses, ("_law_refuses.<locals>.<lambda>" : Str))] := ⟨_, rfl⟩
  refine ⟨[(C_law_refuses, P_law_refuses)], PySem.W.fnOf "law" "law" (C8.fnArgs s_law) (C8.fnBody s_law) (C8.fnScope s_law) .none kV_law dc_law pm_law an_law cd_law ct_law, spLaw (LyC K c9) T, ?_, fun s u => .of_eq rfl, fun base _ _ tb => ?_, fun H a ns hl ht hs _ => law_at ?_ ?_ hl ht hs⟩
  · intro p hp
    simp only [List.mem_cons, List.not_mem_nil, or_false] at hp
    subst hp
    · exact ⟨⟨"_law_refuses", by simp, tab_in a_law_refuses l_law_refuses rfl o_law_refuses p_law_refuses⟩, Option.isNone_iff_eq_none.mp n_law_refuses⟩
  · have t_law_refuses : TabIn base mg (Value.ref C_law_refuses) "_law_refuses.<locals>.<lambda>" T := ⟨C_law_refuses, P_law_refuses, tb (C_law_refuses, P_law_refuses) (by simp), rfl, by rw [hT]; simp, fun p hp e => by
      rw [hT] at hp
      simp only [List.mem_cons, List.not_mem_nil, or_false] at hp
      subst hp
      · rfl⟩
    exact ok_all D_is_number b_is_number D_is_list b_is_list D_is_list_of_numbers b_is_list_of_numbers D_determinant b_determinant D_sign_counts b_sign_counts D_stepped b_stepped D_cleared b_cleared D_is_square b_is_square D_is_mirrored b_is_mirrored D_pivot_at b_pivot_at D_with_pivot b_with_pivot D_without b_without D_law_begun b_law_begun D_law_mixed b_law_mixed D_law_take b_law_take D_law_pick b_law_pick D_law_shuffled b_law_shuffled D_law_caught b_law_caught D_law_cleared b_law_cleared D_law_determinant b_law_determinant D_law_rows_undone b_law_rows_undone D_law_bent b_law_bent D_law_middle b_law_middle D_law_product_due b_law_product_due D_law_refuses b_law_refuses (fun _ _ _ => .of_eq rfl) D_law.fn (PySem.W.mg_of X G aS) (pl_all y9).1 (pl_all y9).2.1 (pl_all y9).2.2.1 (pl_all y9).2.2.2 B Bx Kt (PySem.W.mg_none_of X G z_sum) (PySem.W.mg_none_of X G z_any)  (PySem.W.mg_of X G aF) t_law_refuses 
  · intro p hp
    rw [hT] at hp
    simp only [List.mem_cons, List.not_mem_nil, or_false] at hp
    subst hp
    · exact ⟨(C_law_refuses, P_law_refuses), by simp, rfl⟩
  · intro p hp
    simp only [List.mem_cons, List.not_mem_nil, or_false] at hp
    subst hp
    · exact ⟨(P_law_refuses, ("_law_refuses.<locals>.<lambda>" : Str)), by rw [hT]; simp, rfl⟩
end Fv

open PySem PySem.W PyProof.Rows
set_option maxRecDepth 100000 in
set_option maxHeartbeats 0 in
theorem PySem.Challenge.cw_flatrooms_k19_signs_of_tables_holds : PySem.Challenge.rw_flatrooms_k19_signs_of_tables.Holds := by
  w_on; o_law; k_head; (case hw => w_witness2)
  k_fill
  refine Fw.walkT (l := PySem.Challenge.rw_flatrooms_k19_signs_of_tables) (n := 63) (k := 9) (x := "script") (xs := ["_law_refuses"]) rfl (by decide) rfl ⟨rfl, by decide, by decide⟩ (fun w h Y => Y.1) (by kernel_rfl) ?F
  case F =>
    intro w mg fa h KX G hmg
    refine' Fv.all_mk KX G hmg ?aS ?aF ?ob ?y9 ?v9 ?a_is_number ?l_is_number ?c_is_number ?k_is_number ?a_is_list ?l_is_list ?c_is_list ?k_is_list ?a_is_list_of_numbers ?l_is_list_of_numbers ?c_is_list_of_numbers ?k_is_list_of_numbers ?a_determinant ?l_determinant ?c_determinant ?k_determinant ?a_sign_counts ?l_sign_counts ?c_sign_counts ?k_sign_counts ?a_stepped ?l_stepped ?c_stepped ?k_stepped ?a_cleared ?l_cleared ?c_cleared ?k_cleared ?a_is_square ?l_is_square ?c_is_square ?k_is_square ?a_is_mirrored ?l_is_mirrored ?c_is_mirrored ?k_is_mirrored ?a_pivot_at ?l_pivot_at ?c_pivot_at ?k_pivot_at ?a_with_pivot ?l_with_pivot ?c_with_pivot ?k_with_pivot ?a_without ?l_without ?c_without ?k_without ?a_law_begun ?l_law_begun ?c_law_begun ?k_law_begun ?a_law_mixed ?l_law_mixed ?c_law_mixed ?k_law_mixed ?a_law_take ?l_law_take ?c_law_take ?k_law_take ?a_law_pick ?l_law_pick ?c_law_pick ?k_law_pick ?a_law_shuffled ?l_law_shuffled ?c_law_shuffled ?k_law_shuffled ?a_law_caught ?l_law_caught ?c_law_caught ?k_law_caught ?a_law_cleared ?l_law_cleared ?c_law_cleared ?k_law_cleared ?a_law_determinant ?l_law_determinant ?c_law_determinant ?k_law_determinant ?a_law_rows_undone ?l_law_rows_undone ?c_law_rows_undone ?k_law_rows_undone ?a_law_bent ?l_law_bent ?c_law_bent ?k_law_bent ?a_law_middle ?l_law_middle ?c_law_middle ?k_law_middle ?a_law_product_due ?l_law_product_due ?c_law_product_due ?k_law_product_due ?a_law_refuses ?l_law_refuses ?c_law_refuses ?k_law_refuses ?a_law ?l_law ?c_law ?k_law ?o_law_refuses ?p_law_refuses ?n_law_refuses ?pn ?z_abs ?z_int ?z_len ?z_list ?z_tuple ?z_max ?z_range ?z_sorted ?z_set ?z_zip ?z_enumerate ?z_isinstance ?z_bool ?z_all ?z_repr ?z_min ?z_sum ?z_any
    (case aS => k_is)
    (case aF => k_is)
    (case ob => kernel_rfl)
    (case y9 => kernel_rfl)
    (case v9 => kernel_rfl)
    (case a_is_number => k_is)
    (case l_is_number => k_is)
    (case c_is_number => k_is)
    (case k_is_number => k_is)
    (case a_is_list => k_is)
    (case l_is_list => k_is)
    (case c_is_list => k_is)
    (case k_is_list => k_is)
    (case a_is_list_of_numbers => k_is)
    (case l_is_list_of_numbers => k_is)
    (case c_is_list_of_numbers => k_is)
    (case k_is_list_of_numbers => k_is)
    (case a_determinant => k_is)
    (case l_determinant => k_is)
    (case c_determinant => k_is)
    (case k_determinant => k_is)
    (case a_sign_counts => k_is)
    (case l_sign_counts => k_is)
    (case c_sign_counts => k_is)
    (case k_sign_counts => k_is)
    (case a_stepped => k_is)
    (case l_stepped => k_is)
    (case c_stepped => k_is)
    (case k_stepped => k_is)
    (case a_cleared => k_is)
    (case l_cleared => k_is)
    (case c_cleared => k_is)
    (case k_cleared => k_is)
    (case a_is_square => k_is)
    (case l_is_square => k_is)
    (case c_is_square => k_is)
    (case k_is_square => k_is)
    (case a_is_mirrored => k_is)
    (case l_is_mirrored => k_is)
    (case c_is_mirrored => k_is)
    (case k_is_mirrored => k_is)
    (case a_pivot_at => k_is)
    (case l_pivot_at => k_is)
    (case c_pivot_at => k_is)
    (case k_pivot_at => k_is)
    (case a_with_pivot => k_is)
    (case l_with_pivot => k_is)
    (case c_with_pivot => k_is)
    (case k_with_pivot => k_is)
    (case a_without => k_is)
    (case l_without => k_is)
    (case c_without => k_is)
    (case k_without => k_is)
    (case a_law_begun => k_is)
    (case l_law_begun => k_is)
    (case c_law_begun => k_is)
    (case k_law_begun => k_is)
    (case a_law_mixed => k_is)
    (case l_law_mixed => k_is)
    (case c_law_mixed => k_is)
    (case k_law_mixed => k_is)
    (case a_law_take => k_is)
    (case l_law_take => k_is)
    (case c_law_take => k_is)
    (case k_law_take => k_is)
    (case a_law_pick => k_is)
    (case l_law_pick => k_is)
    (case c_law_pick => k_is)
    (case k_law_pick => k_is)
    (case a_law_shuffled => k_is)
    (case l_law_shuffled => k_is)
    (case c_law_shuffled => k_is)
    (case k_law_shuffled => k_is)
    (case a_law_caught => k_is)
    (case l_law_caught => k_is)
    (case c_law_caught => k_is)
    (case k_law_caught => k_is)
    (case a_law_cleared => k_is)
    (case l_law_cleared => k_is)
    (case c_law_cleared => k_is)
    (case k_law_cleared => k_is)
    (case a_law_determinant => k_is)
    (case l_law_determinant => k_is)
    (case c_law_determinant => k_is)
    (case k_law_determinant => k_is)
    (case a_law_rows_undone => k_is)
    (case l_law_rows_undone => k_is)
    (case c_law_rows_undone => k_is)
    (case k_law_rows_undone => k_is)
    (case a_law_bent => k_is)
    (case l_law_bent => k_is)
    (case c_law_bent => k_is)
    (case k_law_bent => k_is)
    (case a_law_middle => k_is)
    (case l_law_middle => k_is)
    (case c_law_middle => k_is)
    (case k_law_middle => k_is)
    (case a_law_product_due => k_is)
    (case l_law_product_due => k_is)
    (case c_law_product_due => k_is)
    (case k_law_product_due => k_is)
    (case a_law_refuses => k_is)
    (case l_law_refuses => k_is)
    (case c_law_refuses => k_is)
    (case k_law_refuses => k_is)
    (case a_law => k_is)
    (case l_law => k_is)
    (case c_law => k_is)
    (case k_law => k_is)
    (case o_law_refuses => k_is)
    (case p_law_refuses => rfl)
    (case n_law_refuses => kernel_rfl)
    (case pn => kernel_rfl)
    (case z_abs => k_is)
    (case z_int => k_is)
    (case z_len => k_is)
    (case z_list => k_is)
    (case z_tuple => k_is)
    (case z_max => k_is)
    (case z_range => k_is)
    (case z_sorted => k_is)
    (case z_set => k_is)
    (case z_zip => k_is)
    (case z_enumerate => k_is)
    (case z_isinstance => k_is)
    (case z_bool => k_is)
    (case z_all => k_is)
    (case z_repr => k_is)
    (case z_min => k_is)
    (case z_sum => k_is)
    (case z_any => k_is)

