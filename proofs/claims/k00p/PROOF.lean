import PyProof.Rows.All
import Wide.All
import OpenK.AllK
import Wide.FinOn
import PyProof.Rows.All
import Wide.All
import OpenK.AllK
import Wide.FinOn
import HandS.ForMost
import HandS.Wide
import HandS.Zip
import HandS.Codes
import HandS.ForSpec
import HandS.ExcInit
import HandS.ExcValue
import HandS.ExcIs
import HandS.ExcField
import HandS.IsInst
import HandS.Lambda
import PySem.Challenge.RW_flatrooms_k00_errors_of_all_parts
set_option Elab.async false
set_option linter.all false
set_option maxRecDepth 100000
set_option maxHeartbeats 4000000
namespace Fr
open PySem PySem.Spec PyProof.Rows L2
abbrev Frag := PySem.W.Frag
theorem same_upd {H : Hp} {p : Addr} {o : HO} (h : H p = none) : Same H (upd H p o) := fun b x e => by
  rw [upd_ne (ne_of_none e h)]
  exact e
theorem same_sqt {K : Frag} {H H' : Hp} {a : Addr} {xs : List V} (e : Same H H') (h : SqT K H a xs) : SqT K H' a xs := by
  rcases h with (h | ⟨o, h⟩) | h
  · exact .inl (.inl (e _ _ h))
  · exact .inl (.inr ⟨o, e _ _ h⟩)
  · exact .inr h
mutual
theorem dp_same {K : Frag} {H H' : Hp} (e : Same H H') : ∀ {v : V} {d : PyData}, Dp K H v d → Dp K H' v d
  | _, _, .non => .non
  | _, _, .bl b => .bl b
  | _, _, .int i => .int i
  | _, _, .str x => .str x
  | _, _, .lst h t => .lst (e.seq h) (dps_same e t)
  | _, _, .tup h t => .tup (same_sqt e h) (dps_same e t)
theorem dps_same {K : Frag} {H H' : Hp} (e : Same H H') : ∀ {vs : List V} {ds : List PyData}, DpAll K H vs ds → DpAll K H' vs ds
  | _, _, .nil => .nil
  | _, _, .cons h t => .cons (dp_same e h) (dps_same e t)
end
theorem dps_get {K : Frag} {H : Hp} : ∀ {vs : List V} {ds : List PyData} {i : Nat} {v : V}, DpAll K H vs ds → vs[i]? = some v → ∃ d, ds[i]? = some d ∧ Dp K H v d
  | _, _, _, _, .nil, e => by simp at e
  | _, _, 0, _, .cons h t, e => by
    simp at e
    subst e
    exact ⟨_, rfl, h⟩
  | _, _, i + 1, _, .cons h t, e => by
    obtain ⟨d, h1, h2⟩ := dps_get (i := i) t (by simpa using e)
    exact ⟨d, by simpa using h1, h2⟩
theorem dps_len {K : Frag} {H : Hp} : ∀ {vs : List V} {ds : List PyData}, DpAll K H vs ds → vs.length = ds.length
  | _, _, .nil => rfl
  | _, _, .cons h t => by simp [dps_len t]
theorem dps_app {K : Frag} {H : Hp} : ∀ {vs ws : List V} {ds es : List PyData}, DpAll K H vs ds → DpAll K H ws es → DpAll K H (vs ++ ws) (ds ++ es)
  | _, _, _, _, .nil, s => s
  | _, _, _, _, .cons h t, s => .cons h (dps_app t s)
theorem dps_ints {K : Frag} {H : Hp} : ∀ ns : List Int, DpAll K H (ns.map V.int) (ns.map PyData.int)
  | [] => .nil
  | n :: r => .cons (.int n) (dps_ints r)
/-! ### the heap of what never changes again (G) within the heap (H) -/
structure Grow (M : Addr → Prop) (G H G' H' : Hp) : Prop where
  gg : Same G G'
  gh : Same G' H'
  hh : ∀ b o, ¬ M b → H b = some o → H' b = some o
  tr : ∀ b, H b ≠ none → H' b ≠ none
  nw : ∀ b, H b ≠ none → G b = none → G' b = none
abbrev M0 : Addr → Prop := fun _ => False
theorem Grow.refl {M : Addr → Prop} {G H : Hp} (h : Same G H) : Grow M G H G H := ⟨Same.refl _, h, fun _ _ _ e => e, fun _ e => e, fun _ _ e => e⟩
theorem Grow.trans {M : Addr → Prop} {G H G1 H1 G2 H2 : Hp} (a : Grow M G H G1 H1) (b : Grow M G1 H1 G2 H2) : Grow M G H G2 H2 :=
  ⟨a.gg.trans b.gg, b.gh, fun c o n e => b.hh c o n (a.hh c o n e), fun c e => b.tr c (a.tr c e), fun c e n => b.nw c (a.tr c e) (a.nw c e n)⟩
theorem Grow.weak {M M' : Addr → Prop} {G H G' H' : Hp} (a : Grow M G H G' H') (h : ∀ b, M b → M' b) : Grow M' G H G' H' :=
  ⟨a.gg, a.gh, fun b o n e => a.hh b o (fun z => n (h b z)) e, a.tr, a.nw⟩
theorem Grow.same {G H G' H' : Hp} (a : Grow M0 G H G' H') : Same H H' := fun b o e => a.hh b o (fun z => z) e
/-- a new object that never changes -/
theorem Grow.lay {M : Addr → Prop} {G H : Hp} {p : Addr} {o : HO} (h : Same G H) (n : H p = none) : Grow M G H (upd G p o) (upd H p o) where
  gg := same_upd (h.free n)
  gh := fun b u e => by
    by_cases hb : b = p
    · subst hb
      rw [upd_same] at e ⊢
      exact e
    · rw [upd_ne hb] at e ⊢
      exact h _ _ e
  hh := fun b u _ e => same_upd n b u e
  tr := fun b e => by
    by_cases hb : b = p
    · subst hb
      rw [upd_same]
      simp
    · rw [upd_ne hb]
      exact e
  nw := fun b e z => by
    rw [upd_ne (fun hb => by subst hb; exact e n)]
    exact z
/-- a new object that may change still -/
theorem Grow.new {M : Addr → Prop} {G H : Hp} {p : Addr} {o : HO} (h : Same G H) (n : H p = none) : Grow M G H G (upd H p o) where
  gg := Same.refl _
  gh := h.trans (same_upd n)
  hh := fun b u _ e => same_upd n b u e
  tr := fun b e => by
    by_cases hb : b = p
    · subst hb
      rw [upd_same]
      simp
    · rw [upd_ne hb]
      exact e
  nw := fun b e z => z
/-- an object that may change is changed -/
theorem Grow.chg {M : Addr → Prop} {G H : Hp} {p : Addr} {o : HO} (h : Same G H) (hm : M p) (hg : G p = none) : Grow M G H G (upd H p o) where
  gg := Same.refl _
  gh := fun b u e => by
    rw [upd_ne (ne_of_none e hg)]
    exact h _ _ e
  hh := fun b u nm e => by
    rw [upd_ne (fun z => nm (by rw [z]; exact hm))]
    exact e
  tr := fun b e => by
    by_cases hb : b = p
    · subst hb
      rw [upd_same]
      simp
    · rw [upd_ne hb]
      exact e
  nw := fun b e z => z
/-- what no longer changes -/
theorem Grow.done {M : Addr → Prop} {G H G' H' : Hp} {p : Addr} {o : HO} (a : Grow M G H G' H') (hn : H p = none) (e : H' p = some o) : Grow M G H (upd G' p o) H' where
  gg := fun b u z => by
    by_cases hb : b = p
    · subst hb
      have q := a.gh _ _ (a.gg _ _ z)
      rw [upd_same]
      exact e.symm.trans q
    · rw [upd_ne hb]
      exact a.gg _ _ z
  gh := fun b u z => by
    by_cases hb : b = p
    · subst hb
      rw [upd_same] at z
      exact e.trans z
    · rw [upd_ne hb] at z
      exact a.gh _ _ z
  hh := a.hh
  tr := a.tr
  nw := fun b z q => by
    rw [upd_ne (fun hb => by subst hb; exact z hn)]
    exact a.nw b z q
theorem upd_in {G : Hp} {p : Addr} {o : HO} : upd G p o p = some o := upd_same
end Fr
namespace Fr
open PySem PySem.Spec PyProof.Rows L2
def topS (i : Nat) : Stmt := PySem.Challenge.pw_flatrooms_k00_errors_of_all_parts.main.body.getD i (.Pass ⟨0, 0, 0, 0⟩)
abbrev s_law_begun : Stmt := topS 21
abbrev s_law_mixed : Stmt := topS 22
abbrev s_law_take : Stmt := topS 23
abbrev s_law_pick : Stmt := topS 24
theorem sc_law_begun : FnScope ["script", "large", "grain"] ["script"] (C8.fnScope s_law_begun) := C8.fnScope_by (by decide +kernel)
theorem sc_law_mixed : FnScope ["draw", "turn", "found", "great", "blend", "grain"] ["draw"] (C8.fnScope s_law_mixed) := C8.fnScope_by (by decide +kernel)
theorem sc_law_take : FnScope ["draw", "amount", "found"] ["draw", "amount"] (C8.fnScope s_law_take) := C8.fnScope_by (by decide +kernel)
theorem sc_law_pick : FnScope ["draw", "some"] ["draw", "some"] (C8.fnScope s_law_pick) := C8.fnScope_by (by decide +kernel)
/-! ### the draws -/
def drawK (l c : Addr) (rest turn : Int) : List (Key × V) := [(Sum.inr "large", .ref l), (Sum.inr "rest", .int rest), (Sum.inr "cells", .ref c), (Sum.inr "turn", .int turn)]
structure DrawAt (d l c : Addr) (H : Hp) (large cells : List Int) (rest turn : Int) : Prop where
  hd : H d = some (.dK (drawK l c rest turn))
  hl : H l = some (.lst (large.map V.int))
  hc : H c = some (.lst (cells.map V.int))
  ne : c ≠ l
def Draw (d l c : Addr) (H : Hp) : Prop := ∃ large cells rest turn, DrawAt d l c H large cells rest turn
abbrev Mdl (d l : Addr) : Addr → Prop := fun b => b = d ∨ b = l
section
variable {l c : Addr} {r t : Int} {v : Int}
theorem dk_large : valV (drawK l c r t) (Sum.inr "large" : Key) = some (.ref l) := by rfl
theorem dk_rest : valV (drawK l c r t) (Sum.inr "rest" : Key) = some (.int r) := by rfl
theorem dk_cells : valV (drawK l c r t) (Sum.inr "cells" : Key) = some (.ref c) := by rfl
theorem dk_turn : valV (drawK l c r t) (Sum.inr "turn" : Key) = some (.int t) := by rfl
theorem dp_rest : putK (drawK l c r t) (Sum.inr "rest" : Key) (.int v) = drawK l c v t := by rfl
theorem dp_turn : putK (drawK l c r t) (Sum.inr "turn" : Key) (.int v) = drawK l c r v := by rfl
end
end Fr
namespace Fr
open PySem PySem.Spec PyProof.Rows L2
/-- the built-in names that no statement of the top takes -/
structure Bi (mg : Str → Option Value) : Prop where
  abs : mg "abs" = none
  int : mg "int" = none
  len : mg "len" = none
def spMixed : Sp := fun vs H Q _ => ∃ d l c large cells rest turn, vs = [.ref d] ∧ DrawAt d l c H large cells rest turn ∧
  ∀ (r : Int) H', (∀ b o, b ≠ d → H b = some o → H' b = some o) → (∀ b, H b ≠ none → H' b ≠ none) → DrawAt d l c H' large cells rest (turn + 1) → Q (.int r) H'
section
variable {P : Program} {w : World} {K : PySem.W.Frag} {mg : Str → Option Value} {base : Heap}
theorem DrawAt.step {d l c : Addr} {H H' : Hp} {large cells : List Int} {rest turn rest' turn' : Int} (D : DrawAt d l c H large cells rest turn) (h : ∀ b o, b ≠ d → H b = some o → H' b = some o) (e : H' d = some (.dK (drawK l c rest' turn'))) :
    DrawAt d l c H' large cells rest' turn' :=
  ⟨e, h _ _ (ne_of D.hl D.hd (by intro z; cases z)) D.hl, h _ _ (ne_of D.hc D.hd (by intro z; cases z)) D.hc, D.ne⟩
theorem list_item {xs : List Int} {i : Nat} {y : V} (h : (xs.map V.int)[i]? = some y) : ∃ z, xs[i]? = some z ∧ y = .int z := by
  rw [List.getElem?_map] at h
  cases e : xs[i]? with
  | none =>
    rw [e] at h
    cases h
  | some z =>
    rw [e] at h
    exact ⟨z, rfl, (Option.some.inj h).symm⟩
theorem fmod_lt {a b : Int} (h : 0 < b) : 0 ≤ a.fmod b ∧ a.fmod b < b := by
  rw [Int.fmod_eq_emod_of_nonneg a (by omega)]
  exact ⟨Int.emod_nonneg a (by omega), Int.emod_lt_of_pos a h⟩
theorem ok_law_mixed {f : Addr} {fd : FuncData} (F : C8.Def K mg "_law_mixed" s_law_mixed f fd) (b : Binds K fd ["draw"] []) (B : Bi mg) :
    C8.Cal P w K mg base 1 "_law_mixed" spMixed [] := by
  have sc := sc_law_mixed
  refine C8.cal0 F b .nil sc (fun vs H Q E h => ?_) (fun cdv A outer s H vs Q E hr h => ?_)
  · obtain ⟨_, _, _, _, _, _, _, rfl, _⟩ := h
    rfl
  · obtain ⟨d, l, c, large, cells, rest, turn, rfl, D, k⟩ := h
    refine ⟨_, pss_cons (ps_dput (hu_of hr) (pv 0) pe_str (pe_op op_add (pe_dget (hu_of hr) (pv 0) pe_str (fun _ _ => rfl)) pe_int) rfl)
      (pss_cons (ps_par (i := 1) (j := 2) (by rfl) sc.nd rfl rfl (by decide) rfl rfl (pa_cons (pe_callTy call_int1 (by rfl) B.int (by decide +kernel) (pa_cons (pe_dget (hu_of hr) (pv 0) pe_str (fun _ _ => rfl)) pa_nil)) (pa_cons pe_int pa_nil)) (by rfl))
      (pss_cons (ps_for PassesOwn.never rfl (pi_list (pe_lst (pa_cons pe_int (pa_cons pe_int (pa_cons pe_int pa_nil))))) (pg_name (i := 3) sc.nd rfl (by first | exact Or.inl rfl | exact Or.inr rfl))
        (pss_cons (ps_set (i := 4) sc.nd rfl (by first | exact Or.inl rfl | exact Or.inr rfl) (pe_op op_modN (pe_op op_add (pe_op op_mul (pv 1) pe_int) (pe_op op_fdivN (pv 3) pe_int)) (pv 3)))
          (pss_cons (ps_for PassesOwn.never rfl (pi_list (pe_dget (hu_of hr) (pv 0) pe_str (fun _ _ => rfl))) (pg_name (i := 5) sc.nd rfl (by first | exact Or.inl rfl | exact Or.inr rfl))
            (pss_one (ps_set (i := 4) sc.nd rfl (by first | exact Or.inl rfl | exact Or.inr rfl) (pe_op op_modN (pe_op op_add (pe_op op_mul (pv 4) pe_int) (pe_callTy call_int1 (by rfl) B.int (by decide +kernel) (pa_cons (pv 5) pa_nil))) (pv 3)))))
          (pss_one (ps_set (i := 2) sc.nd rfl (by first | exact Or.inl rfl | exact Or.inr rfl) (pe_op op_add (pe_op op_mul (pv 2) pe_int) (pe_op op_modN (pe_op op_pow (pv 4) pe_int) (pv 3))))))))
      (pss_one (ps_ret (pv 2))))), ?_⟩
    -- draw["turn"] = draw["turn"] + 1
    refine ⟨_, rfl, _, _, rfl, DGet.k (k := Sum.inr "turn") D.hd, _, _, rfl, rfl, ?_⟩
    refine ⟨_, rfl, _, _, rfl, DPut.k (k := Sum.inr "turn") D.hd (by show 4 < sizeLine; decide), ?_⟩
    have k1 : ∀ b o, b ≠ d → H b = some o → (upd H d (.dK (putK (drawK l c rest turn) (Sum.inr "turn" : Key) (.int (turn + 1))))) b = some o := fun b o n e => by
      rw [upd_ne n]
      exact e
    have D1 : DrawAt d l c (upd H d (.dK (putK (drawK l c rest turn) (Sum.inr "turn" : Key) (.int (turn + 1))))) large cells rest (turn + 1) := D.step k1 (by rw [upd_same, dp_turn])
    have t1 : ∀ b, H b ≠ none → (upd H d (.dK (putK (drawK l c rest turn) (Sum.inr "turn" : Key) (.int (turn + 1))))) b ≠ none := fun b e => by
      by_cases hb : b = d
      · subst hb
        rw [upd_same]
        simp
      · rw [upd_ne hb]
        exact e
    generalize (upd H d (.dK (putK (drawK l c rest turn) (Sum.inr "turn" : Key) (.int (turn + 1))))) = H1 at k1 D1 t1 ⊢
    -- turn, found = int(draw["turn"]), 0
    refine ⟨_, rfl, _, _, rfl, DGet.k (k := Sum.inr "turn") D1.hd, .inl ⟨_, rfl, _, _, rfl, ?_⟩⟩
    refine ⟨by show 3 ≤ sizeLine; decide, fun p hp => ⟨_, rfl, ⟨_, .inl (.inl upd_same)⟩, ?_⟩⟩
    generalize hH2 : upd H1 p (.lst [V.int 2147483629, .int 2147483587, .int 2147483579]) = H2
    have s2 : Same H1 H2 := by
      subst hH2
      exact same_upd hp
    have hP : H2 p = some (.lst ([2147483629, 2147483587, 2147483579].map V.int)) := by
      subst hH2
      exact upd_same
    have pd : p ≠ d := fun e => by
      rw [e, D1.hd] at hp
      cases hp
    refine for_list (K := K) (a := p) (xs := [2147483629, 2147483587, 2147483579].map V.int) (fun i σ H3 => ∃ (fo : Int) (v3 v4 v5 : Option V), σ = [some (.ref d), some (.int (turn + 1)), some (.int fo), v3, v4, v5] ∧ Same H2 H3)
      ⟨0, none, none, none, rfl, fun _ _ e => e⟩ (fun i σ H3 _ ⟨_, _, _, _, _, s3⟩ => .inl (.inl (s3 _ _ hP))) ?_ ?_
    · rintro i y σ H3 hi ⟨fo, v3, v4, v5, rfl, s3⟩
      obtain ⟨g, hg, rfl⟩ := list_item hi
      have gb : 0 < g ∧ g < 2147483648 := by
        match i, hg with
        | 0, hg => cases hg; decide
        | 1, hg => cases hg; decide
        | 2, hg => cases hg; decide
        | n + 3, hg => simp at hg
      have D3 : DrawAt d l c H3 large cells rest (turn + 1) := D1.step (fun b o _ e => s3 _ _ (s2 _ _ e)) (s3 _ _ (s2 _ _ D1.hd))
      refine ⟨_, rfl, _, _, rfl, rfl, .inr ⟨by decide, by decide⟩, _, rfl, _, _, rfl, rfl, ⟨by decide, by decide⟩, _, _, rfl, rfl, _, rfl, _, _, rfl, rfl, by omega, ?_⟩
      have hb0 := fmod_lt (a := (turn + 1) * 69621 + g.fdiv 7) gb.1
      refine ⟨_, rfl, _, _, rfl, DGet.k (k := Sum.inr "cells") D3.hd, _, rfl, ⟨_, .inl (.inl D3.hc)⟩, ?_⟩
      refine for_list (K := K) (a := c) (xs := cells.map V.int) (fun j σ H4 => ∃ (bl : Int) (v5 : Option V), σ = [some (.ref d), some (.int (turn + 1)), some (.int fo), some (.int g), some (.int bl), v5] ∧ (0 ≤ bl ∧ bl < g) ∧ H4 = H3)
        ⟨_, _, rfl, hb0, rfl⟩ (fun j σ H4 _ ⟨_, _, _, _, e⟩ => by rw [e]; exact .inl (.inl D3.hc)) ?_ ?_
      · rintro j y σ H4 hj ⟨bl, w5, rfl, hbl, rfl⟩
        obtain ⟨z, hz, rfl⟩ := list_item hj
        refine ⟨_, rfl, _, _, rfl, rfl, .inr ⟨by decide, by decide⟩, _, rfl, .inl ⟨_, rfl, _, _, rfl, rfl, _, rfl, _, _, rfl, rfl, by omega, ?_⟩⟩
        exact ⟨_, _, rfl, fmod_lt gb.1, rfl⟩
      · rintro σ H4 ⟨bl, w5, rfl, hbl, rfl⟩
        refine ⟨_, rfl, _, _, rfl, rfl, .inr ⟨by decide, by decide⟩, _, rfl, _, _, rfl, rfl, ⟨by decide, by decide, by omega⟩, _, rfl, _, _, rfl, rfl, by omega, _, _, rfl, rfl, ?_⟩
        exact ⟨_, _, _, _, rfl, s3⟩
    · rintro σ H3 ⟨fo, v3, v4, v5, rfl, s3⟩
      refine ⟨_, rfl, k fo H3 (fun b o n e => s3 _ _ (s2 _ _ (k1 b o n e))) (fun b e => ?_) (D1.step (fun b o _ e => s3 _ _ (s2 _ _ e)) (s3 _ _ (s2 _ _ D1.hd)))⟩
      cases q : H1 b with
      | none => exact absurd q (t1 b e)
      | some o =>
        rw [s3 _ _ (s2 _ _ q)]
        simp
end
end Fr
namespace Fr
open PySem PySem.Spec PyProof.Rows L2
/-- a number from 0 to amount - 1; the draw's own two objects alone have changed -/
def spTake : Sp := fun vs H Q _ => ∃ (d l c : Addr) (amount : Int), vs = [.ref d, .int amount] ∧ 0 < amount ∧ amount.natAbs.log2 < 9000 ∧ Draw d l c H ∧
  ∀ (r : Int) H', 0 ≤ r → r < amount → (∀ b o, ¬ Mdl d l b → H b = some o → H' b = some o) → (∀ b, H b ≠ none → H' b ≠ none) → Draw d l c H' → Q (.int r) H'
section
variable {P : Program} {w : World} {K : PySem.W.Frag} {mg : Str → Option Value} {base : Heap}
theorem trk_upd {H : Hp} {a : Addr} {o : HO} : ∀ b, H b ≠ none → (upd H a o) b ≠ none := fun b e => by
  by_cases hb : b = a
  · subst hb
    rw [upd_same]
    simp
  · rw [upd_ne hb]
    exact e
theorem shaped_ints (ns : List Int) : SeqAt.shaped (.list (ns.map .int)) = true := by
  have h : PyData.depthAll (ns.map PyData.int) ≤ 1 := by
    induction ns with
    | nil => simp [PyData.depthAll]
    | cons n r ih => simp only [List.map, PyData.depthAll, PyData.depth]; omega
  have h2 : PyData.canLayAll0 (ns.map PyData.int) = true := by
    induction ns with
    | nil => simp [PyData.canLayAll0]
    | cons n r ih =>
      have h' : PyData.depthAll (r.map PyData.int) ≤ 1 := by
        simp only [List.map, PyData.depthAll, PyData.depth] at h
        omega
      simp only [List.map, PyData.canLayAll0, PyData.canLay0, ih h', Bool.and_self]
  unfold SeqAt.shaped
  rw [Bool.and_eq_true]
  refine ⟨by simpa only [PyData.canLay0] using h2, decide_eq_true ?_⟩
  simp only [PyData.depth]
  omega
theorem eqv_nil {ns : List Int} : (!PyData.eqv (.list (ns.map PyData.int)) (.list [])) = !ns.isEmpty := by
  cases ns with
  | nil => rfl
  | cons n r => rfl
theorem ok_law_take {f : Addr} {fd : FuncData} (F : C8.Def K mg "_law_take" s_law_take f fd) (b : Binds K fd ["draw", "amount"] []) (B : Bi mg) (c_law_mixed : C8.Cal P w K mg base 1 "_law_mixed" spMixed []) :
    C8.Cal P w K mg base 2 "_law_take" spTake [] := by
  have sc := sc_law_take
  refine C8.cal0 F b .nil sc (fun vs H Q E h => ?_) (fun cdv A outer s H vs Q E hr h => ?_)
  · obtain ⟨_, _, _, _, rfl, _⟩ := h
    rfl
  · obtain ⟨d, l, c, amount, rfl, h0, h9, ⟨large, cells, rest, turn, D⟩, k⟩ := h
    refine ⟨_, pss_cons (ps_if (pt_cmpR op_eq (pe_dget (hu_of hr) (pv 0) pe_str (fun _ _ => rfl)) pe_int (nomark _))
        (pss_one (ps_dput (hu_of hr) (pv 0) pe_str (pe_ifExp (pt_cmpR (op_neD hr.units) (pe_dget (hu_of hr) (pv 0) pe_str (fun _ _ => rfl)) (pe_lst pa_nil) (nomark _)) (pe_bm PySem.F.plainAttrs_list PySem.F.slot_list_pop PySem.F.type_list_pop mt_popAt (pe_dget (hu_of hr) (pv 0) pe_str (fun _ _ => rfl)) (pa_cons pe_int pa_nil)) (C8.pe_c c_law_mixed hr (by decide) rfl (pa_cons (pv 0) pa_nil))) rfl))
        (pss_nil))
      (pss_cons (ps_set (i := 2) sc.nd rfl (by first | exact Or.inl rfl | exact Or.inr rfl) (pe_op op_modN (pe_callTy call_int1 (by rfl) B.int (by decide +kernel) (pa_cons (pe_dget (hu_of hr) (pv 0) pe_str (fun _ _ => rfl)) pa_nil)) (pv 1)))
      (pss_cons (ps_dput (hu_of hr) (pv 0) pe_str (pe_op op_fdivW (pe_callTy call_int1 (by rfl) B.int (by decide +kernel) (pa_cons (pe_dget (hu_of hr) (pv 0) pe_str (fun _ _ => rfl)) pa_nil)) (pv 1)) rfl)
      (pss_one (ps_ret (pv 2))))), ?_⟩
    -- what follows the if, from any draw
    have tail : ∀ (H1 : Hp) (large cells : List Int) (rest turn : Int), DrawAt d l c H1 large cells rest turn → (∀ b o, ¬ Mdl d l b → H b = some o → H1 b = some o) → (∀ b, H b ≠ none → H1 b ≠ none) →
        (tSeq (tAsg (tOp (rI (fun _ j => j ≠ 0) fun i j => V.int (i.fmod j)) (tCB (fun xs H Q => (∃ i, xs = [.int i] ∧ Q (.int i) H) ∨ ∃ k, xs = [.bl k] ∧ Q (.int (if k then 1 else 0)) H) (tCons (tDGet (tVar 0) (tC (.str "rest"))) tNil)) (tVar 1)) (gName 2))
          (tSeq (sDPut (tVar 0) (tC (.str "rest")) (tOp (rI CDivW fun i j => V.int (i / j)) (tCB (fun xs H Q => (∃ i, xs = [.int i] ∧ Q (.int i) H) ∨ ∃ k, xs = [.bl k] ∧ Q (.int (if k then 1 else 0)) H) (tCons (tDGet (tVar 0) (tC (.str "rest"))) tNil)) (tVar 1)))
            (tRet (tVar 2)))) { nx := fun _ H' => Q .non H', rt := Q } [some (.ref d), some (.int amount), none] H1 := by
      intro H1 large cells rest turn D1 k1 t1
      refine ⟨_, rfl, _, _, rfl, DGet.k (k := Sum.inr "rest") D1.hd, .inl ⟨_, rfl, _, rfl, _, _, rfl, rfl, by omega, ?_⟩⟩
      refine ⟨_, rfl, _, _, rfl, DGet.k (k := Sum.inr "rest") D1.hd, .inl ⟨_, rfl, _, rfl, _, _, rfl, rfl, ⟨h0, h9⟩, ?_⟩⟩
      refine ⟨_, rfl, _, _, rfl, DPut.k (k := Sum.inr "rest") D1.hd (by show 4 < sizeLine; decide), ?_⟩
      have z := fmod_lt (a := rest) h0
      refine ⟨_, rfl, k _ _ z.1 z.2 (fun b o n e => ?_) (fun b e => trk_upd b (t1 b e)) ⟨large, cells, _, turn, D1.step (fun b o n e => ?_) (by rw [upd_same]; exact congrArg (fun z => some (HO.dK z)) dp_rest)⟩⟩
      · rw [upd_ne (fun z => n (.inl z))]
        exact k1 b o n e
      · rw [upd_ne n]
        exact e
    refine ⟨_, rfl, _, _, rfl, DGet.k (k := Sum.inr "rest") D.hd, rfl, _, rfl, ?_⟩
    refine ite2 (fun _ => ?_) (fun _ => ?_)
    · -- draw["large"] != []
      refine ⟨_, rfl, _, _, rfl, DGet.k (k := Sum.inr "large") D.hd, by show 0 ≤ sizeLine; decide, fun p hp => ?_⟩
      have s1 : Same H (upd H p (.lst [])) := same_upd hp
      refine ⟨.list (large.map PyData.int), .list [], .lst (.inl (.inl (s1 _ _ D.hl))) (dps_ints large), .lst (.inl (.inl upd_same)) .nil, ?_⟩
      refine ⟨shaped_ints large, by decide, _, rfl, ?_⟩
      rw [eqv_nil]
      have k1 : ∀ b o, ¬ Mdl d l b → H b = some o → (upd H p (.lst [])) b = some o := fun b o _ e => s1 _ _ e
      have D1 : DrawAt d l c (upd H p (.lst [])) large cells rest turn := D.step (fun b o _ e => s1 _ _ e) (s1 _ _ D.hd)
      have t1 : ∀ b, H b ≠ none → (upd H p (.lst [])) b ≠ none := trk_upd
      generalize (upd H p (.lst [])) = H1 at k1 D1 t1 ⊢
      cases large with
      | nil =>
        refine iteF ?_
        refine ⟨_, rfl, d, l, c, _, _, _, _, rfl, D1, fun r H2 k2 t2 D2 => ?_⟩
        refine ⟨_, rfl, _, _, rfl, DPut.k (k := Sum.inr "rest") D2.hd (by show 4 < sizeLine; decide), ?_⟩
        refine tail _ [] cells r (turn + 1) (D2.step (fun b o n e => by rw [upd_ne n]; exact e) (by rw [upd_same]; exact congrArg (fun z => some (HO.dK z)) dp_rest)) (fun b o n e => ?_) (fun b e => trk_upd b (t2 b (t1 b e)))
        rw [upd_ne (fun z => n (.inl z))]
        exact k2 b o (fun z => n (.inl z)) (k1 b o n e)
      | cons x xs =>
        refine iteT ?_
        have nl : l ≠ d := ne_of D1.hl D1.hd (by intro z; cases z)
        refine ⟨_, rfl, _, _, rfl, DGet.k (k := Sum.inr "large") D1.hd, .inl ⟨rfl, _, .inl (.inl D1.hl)⟩, l, _, 0, 0, .int x, rfl, rfl, D1.hl, by decide, by decide, ?_, rfl, ?_⟩
        · unfold seqIndex?
          rw [List.length_map, List.length_cons]
          simp
        have D2 : DrawAt d l c (upd H1 l (.lst ((V.int x :: xs.map V.int).eraseIdx 0))) xs cells rest turn := ⟨by rw [upd_ne nl.symm]; exact D1.hd, upd_same, by rw [upd_ne D1.ne]; exact D1.hc, D1.ne⟩
        refine ⟨_, rfl, _, _, rfl, DPut.k (k := Sum.inr "rest") D2.hd (by show 4 < sizeLine; decide), ?_⟩
        refine tail _ xs cells x turn (D2.step (fun b o n e => by rw [upd_ne n]; exact e) (by rw [upd_same]; exact congrArg (fun z => some (HO.dK z)) dp_rest)) (fun b o n e => ?_) (fun b e => trk_upd b (trk_upd b (t1 b e)))
        rw [upd_ne (fun z => n (.inl z)), upd_ne (fun z => n (.inr z))]
        exact k1 b o n e
    · exact tail H large cells rest turn D (fun b o _ e => e) (fun b e => e)
end
end Fr
namespace Fr
open PySem PySem.Spec PyProof.Rows L2
theorem take_more {α : Type} {l : List α} {i : Nat} {x : α} (h : l[i]? = some x) : l.take (i + 1) = l.take i ++ [x] := by
  rw [List.take_add_one, h]
  rfl
/-- [f x for x in xs if p x], of ints, no object made on the way -/
theorem lc_ints {K : Frag} {a : Addr} {xs : List Int} {g : TG} {tt : TT} {te : TE} {vs : List Nat} {σ : L2.St} {H1 : Hp} {D : Addr} {Qd : Hp → Prop} (p : Int → Bool) (f : Int → Int) (hS : SqL K H1 a (xs.map V.int)) (hD : H1 D = none) (hlen : xs.length < sizeLine)
    (turn : ∀ (x : Int) (H : Hp) (Qy : VK) (Qn : Hp → Prop), x ∈ xs → Same H1 H → (p x = true → Qy (.int (f x)) H) → (p x = false → Qn H) →
      g (.int x) (wipe σ vs) H fun σ2 H2 => wipe σ2 vs = wipe σ vs ∧ tt σ2 H2 fun b H3 => if b = true then te σ2 H3 Qy else Qn H3)
    (hd : ∀ H, Same H1 H → H D = some (.lst (((xs.filter p).map f).map V.int)) → Qd H) :
    ∃ W : Nat → Nat → Hp → Prop, (∃ m, W 0 m (upd H1 D (.lst []))) ∧ ∀ i m H, W i m H →
      ((Itl K a).stop i H ∧ Qd H) ∨ ((Itl K a).go i H ∧ ∃ Nx : Hp → Prop, (∀ H', Nx H' → ∃ m', m' < m ∧ W (i + 1) m' H') ∧ ∀ x H', (Itl K a).yld i H x H' → g x (wipe σ vs) H' fun σ2 H2 => wipe σ2 vs = wipe σ vs ∧ tt σ2 H2 fun b H3 =>
        if b = true then te σ2 H3 fun y H4 => ∃ acc, H4 D = some (.lst acc) ∧ acc.length < sizeLine ∧ Nx (upd H4 D (.lst (acc ++ [y]))) else Nx H3) := by
  refine lc_list (K := K) (a := a) (xs := xs.map V.int) (fun i H => Same H1 H ∧ H D = some (.lst ((((xs.take i).filter p).map f).map V.int))) ⟨same_upd hD, upd_same⟩ (fun i H _ h => h.1.seq hS) ?_ (fun H h => hd H h.1 ?_)
  · rintro i y H hi ⟨s, e⟩
    obtain ⟨x, hx, rfl⟩ := list_item hi
    have hm : x ∈ xs := List.mem_of_getElem? hx
    have ht := take_more hx
    refine turn x H _ _ hm s (fun hp => ⟨_, e, ?_, fun b o q => ?_, ?_⟩) (fun hp => ⟨s, ?_⟩)
    · have h1 : i < xs.length := (List.getElem?_eq_some_iff.mp hx).1
      have h2 : ((xs.take i).filter p).length ≤ (xs.take i).length := List.length_filter_le _ _
      rw [List.length_map, List.length_map]
      rw [List.length_take] at h2
      omega
    · rw [upd_ne (ne_of_none q hD)]
      exact s _ _ q
    · rw [upd_same, ht, List.filter_append, List.map_append, List.map_append]
      have e1 : [x].filter p = [x] := by simp [hp]
      rw [e1]
      rfl
    · rw [ht, List.filter_append, List.map_append, List.map_append]
      have e1 : [x].filter p = [] := by simp [hp]
      rw [e1, e]
      simp
  · have := h.2
    rw [List.length_map, List.take_length] at this
    exact this
def spBegun (K : Frag) : Sp := fun vs H Q _ => ∃ (a : Addr) (ns : List Int), vs = [.ref a] ∧ SqL K H a (ns.map V.int) ∧ ns.length ≤ 63 ∧
  ∀ (d l c : Addr) H', H d = none → H l = none → H c = none → Same H H' → Draw d l c H' → Q (.ref d) H'
section
variable {P : Program} {w : World} {K : PySem.W.Frag} {mg : Str → Option Value} {base : Heap}
theorem sz63 {n : Nat} (h : n ≤ 63) : n < sizeLine := Nat.lt_of_le_of_lt h (by decide)
theorem ok_law_begun {f : Addr} {fd : FuncData} (F : C8.Def K mg "_law_begun" s_law_begun f fd) (b : Binds K fd ["script"] []) (B : Bi mg) :
    C8.Cal P w K mg base 1 "_law_begun" (spBegun K) [] := by
  have sc := sc_law_begun
  refine C8.cal0 F b .nil sc (fun vs H Q E h => ?_) (fun cdv A outer s H vs Q E hr h => ?_)
  · obtain ⟨_, _, rfl, _⟩ := h
    rfl
  · obtain ⟨a, ns, rfl, hS, hlen, k⟩ := h
    refine ⟨_, pss_cons (ps_setLc (i := 1) (own := [("grain", 2)]) (g := gName 2) (by rfl) sc.nd rfl (by rfl) (sw_true rfl (by rfl) rfl (by decide +kernel)) (pi_list (pv 0)) (blkOk_by (by kernel_rfl)) (fun _ _ _ _ _ => (pg_name (i := 2) sc.nd rfl (by first | exact Or.inl rfl | exact Or.inr rfl))) (fun _ _ _ _ _ => pts_one (pt_cmpR op_ge (pe_callB call_abs (by rfl) B.abs (by decide +kernel) (pa_cons (pv 2) pa_nil)) (pe_op op_pow pe_int pe_int) (nomark _))) (fun _ _ _ _ _ => (pe_op op_sub (pe_callB call_abs (by rfl) B.abs (by decide +kernel) (pa_cons (pv 2) pa_nil)) (pe_op op_pow pe_int pe_int))))
      (pss_one (ps_ret (pe_disp (pps_cons pe_str (pv 1) (pps_cons pe_str pe_int (pps_cons pe_str (pe_lc (own := [("grain", 2)]) (g := gName 2) (tt := tYes) (by rfl) sc.nd (pi_list (pv 0)) (blkOk_by (by kernel_rfl)) (fun _ _ _ _ _ => (pg_name (i := 2) sc.nd rfl (by first | exact Or.inl rfl | exact Or.inr rfl))) (fun _ _ _ _ _ => pts_nil) (fun _ _ _ _ _ => (pe_callB call_abs (by rfl) B.abs (by decide +kernel) (pa_cons (pv 2) pa_nil)))) (pps_cons pe_str pe_int pps_nil)))) (by rfl) (by rfl) (fun z => by cases z) (by decide)))), ?_⟩
    refine ⟨_, rfl, a, rfl, ⟨_, hS⟩, fun l hl => ?_⟩
    refine lc_ints (xs := ns) (fun x => decide (10 ^ 18 ≤ if x < 0 then -x else x)) (fun x => (if x < 0 then -x else x) - 10 ^ 18) hS hl (sz63 hlen) ?_ ?_
    · intro x H1 Qy Qn hx s1 q1 q2
      refine ⟨rfl, _, rfl, _, rfl, _, _, rfl, rfl, ⟨by decide, by decide, by decide⟩, _, _, rfl, rfl, _, rfl, ?_⟩
      refine ite2 (fun hb => ?_) (fun hb => ?_)
      · exact ⟨_, rfl, _, rfl, _, _, rfl, rfl, ⟨by decide, by decide, by decide⟩, _, _, rfl, rfl, q1 hb⟩
      · exact q2 (by simpa using hb)
    · intro H1 s1 e1
      intro d hd
      have ld : l ≠ d := ne_of_none e1 hd
      have s2 : Same H1 (upd H1 d (.dK [])) := same_upd hd
      refine ⟨_, rfl, _, rfl, a, rfl, ⟨_, s2.seq (s1.seq hS)⟩, fun c hc => ?_⟩
      refine lc_ints (xs := ns) (fun _ => true) (fun x => if x < 0 then -x else x) (s2.seq (s1.seq hS)) hc (sz63 hlen) ?_ ?_
      · intro x H2 Qy Qn hx s3 q1 q2
        exact ⟨rfl, _, rfl, _, rfl, q1 rfl⟩
      · intro H2 s3 e3
        have n1 : H d = none := s1.free hd
        have n2 : H c = none := s1.free (s2.free hc)
        have cd : c ≠ d := fun z => by
          rw [z, upd_same] at hc
          cases hc
        have cl : c ≠ l := fun z => by
          rw [z, s2 _ _ e1] at hc
          cases hc
        refine ⟨s3 _ _ upd_same, drawK l c 0 0, rfl, (by show 4 ≤ 15; decide), ?_⟩
        obtain ⟨large, el⟩ : ∃ large : List Int, H1 l = some (.lst (large.map V.int)) := ⟨_, e1⟩
        obtain ⟨cells, ec⟩ : ∃ cells : List Int, H2 c = some (.lst (cells.map V.int)) := ⟨_, e3⟩
        refine k d l c _ n1 hl n2 (fun b o e => ?_) ⟨large, cells, 0, 0, by rw [upd_same]; rfl, ?_, ?_, cl⟩
        · rw [upd_ne (ne_of_none e n1)]
          exact s3 _ _ (s2 _ _ (s1 _ _ e))
        · rw [upd_ne ld]
          exact s3 _ _ (s2 _ _ el)
        · rw [upd_ne cd]
          exact ec
def spPick (K : Frag) : Sp := fun vs H Q _ => ∃ (d l c a : Addr) (xs : List V) (G : Hp), vs = [.ref d, .ref a] ∧ SqL K G a xs ∧ xs ≠ [] ∧ xs.length ≤ 1000000 ∧ Same G H ∧ G d = none ∧ G l = none ∧ Draw d l c H ∧
  ∀ (i : Nat) (v : V) H', xs[i]? = some v → Grow (Mdl d l) G H G H' → Draw d l c H' → Q v H'
theorem log2_small {n : Nat} (h : n ≤ 1000000) (h0 : 0 < n) : n.log2 < 9000 := by
  have := Nat.log2_lt (n := n) (k := 20) (by omega)
  have h2 : n < 2 ^ 20 := by omega
  have := this.mpr h2
  omega
theorem ok_law_pick {f : Addr} {fd : FuncData} (F : C8.Def K mg "_law_pick" s_law_pick f fd) (b : Binds K fd ["draw", "some"] []) (B : Bi mg) (c_law_take : C8.Cal P w K mg base 2 "_law_take" spTake []) :
    C8.Cal P w K mg base 3 "_law_pick" (spPick K) [] := by
  have sc := sc_law_pick
  refine C8.cal0 F b .nil sc (fun vs H Q E h => ?_) (fun cdv A outer s H vs Q E hr h => ?_)
  · obtain ⟨_, _, _, _, _, _, rfl, _⟩ := h
    rfl
  · obtain ⟨d, l, c, a, xs, G, rfl, hS, hne, hlen, hG, gd, gl, D, k⟩ := h
    refine ⟨_, pss_one (ps_ret (pe_ix ix_list (pv 1) (C8.pe_c c_law_take hr (by decide) rfl (pa_cons (pv 0) (pa_cons (pe_callB call_len_seq (by rfl) B.len (by decide +kernel) (pa_cons (pv 1) pa_nil)) pa_nil))) (fun _ _ => rfl))), ?_⟩
    have h0 : 0 < xs.length := List.length_pos_iff.mpr hne
    refine ⟨_, rfl, _, rfl, _, rfl, a, xs, rfl, .inl (hG.seq hS), d, l, c, (xs.length : Int), rfl, by omega, log2_small hlen h0, D, fun r H' r0 r1 k1 t1 D1 => ?_⟩
    have g1 : Same G H' := fun b o e => k1 b o (fun z => by
      rcases z with z | z
      · rw [z, gd] at e
        cases e
      · rw [z, gl] at e
        cases e) (hG b o e)
    have hi : r.toNat < xs.length := by omega
    have er : r = ((r.toNat : Nat) : Int) := by omega
    have hx : xs[r.toNat]? = some xs[r.toNat] := List.getElem?_eq_getElem hi
    refine ⟨a, xs, r, _, rfl, rfl, g1.seq hS, (congrArg (atI xs) er).trans (atI_nat hx), k r.toNat _ H' hx ⟨Same.refl _, g1, k1, t1, fun _ _ e => e⟩ D1⟩
end
end Fr
namespace Fr
open PySem PySem.Spec PyProof.Rows L2
/-! ### defs whose promise asks that no guard stands around (repr's, the comparisons') -/
structure FnG (P : Program) (w : World) (K : Frag) (mg : Str → Option Value) (base : Heap) (CX : CXT) (k : Nat) (f : Addr) (fd : FuncData) (ps : List Str) (sp : Sp) : Prop where
  len : ∀ vs H Q E, sp vs H Q E → vs.length = ps.length
  run : ∀ (A : Around) (outer : List Env) (s : Shared) (H : Hp) (args : Args) (us : List Value) (vs : List V) (Q : VK) (E : XK),
    Room k A → A.guards = some [] → Env0 P w K mg base A outer s H → BindsTo s fd args (ps.zip us) → Vals vs us → sp vs H Q E →
      codeAny (model P w) A (.call (.ref f) args) (CR CX outer P w H s Q E) s
section
variable {P : Program} {w : World} {K : Frag} {mg : Str → Option Value} {base : Heap} {CX : CXT} {k : Nat} {f : Addr} {fd : FuncData} {N ps : List Str} {sp : Sp}
theorem FnG.of (F : FnOk P w K mg base CX k f fd ps sp) : FnG P w K mg base CX k f fd ps sp :=
  ⟨F.len, fun A outer s H args us vs Q E hr _ => F.run A outer s H args us vs Q E hr⟩
theorem FnG.mono {j : Nat} (F : FnG P w K mg base CX j f fd ps sp) (h : j ≤ k) : FnG P w K mg base CX k f fd ps sp :=
  ⟨F.len, fun A outer s H args us vs Q E hr => F.run A outer s H args us vs Q E (hr.mono h)⟩
/-- a def by its body -/
theorem FnG.mk' {x qual : Str} {st : Stmt} (F : C8.Fun K x qual st f fd) (S : FnScope N ps (C8.fnScope st)) (len : ∀ vs H Q E, sp vs H Q E → vs.length = ps.length)
    (hbody : ∀ (cdv : Value) (A : Around) (outer : List Env) (s : Shared) (H : Hp) (vs : List V) (Q : VK) (E : XK),
      Room k (A.deeper (envOfC qual (C8.fnScope st) s.heap.objs.size f cdv)) → A.guards = some [] → sp vs H Q E →
      ∃ t, PSs (cxOf CX P w K mg base N qual (C8.fnScope st) f cdv A outer s H E) (C8.fnBody st) t ∧
        t { nx := fun _ H' => Q .non H', rt := Q } (start N vs) H) : FnG P w K mg base CX (k + 1) f fd ps sp := by
  obtain ⟨oc, od, dV, kV, doc, pm, an, cdv, ct, osl, rfl, lk, hcd⟩ := F.ex
  refine ⟨len, ?_⟩
  intro A outer s H args us vs Q E hr hgu e0 hb r hsp
  have KX : K.In s.heap := by
    refine e0.mod.kin.keeps ?_
    intro b o e
    exact (e0.bs b o e).1
  have lim : s.heap.NoLimit := by
    refine e0.mod.nolimit.keeps ?_
    intro b o e
    exact (e0.bs b o e).1
  refine codeAny_call_function hr.depth (KX _ _ lk) rfl S.co S.gen rfl
    (PySem.W.codeRec_of KX hcd) (hb _ _ _ _ ?_)
  refine wpAny_newFunctionEnv_cells S.kind ?_ ?_
  · rintro ⟨n, v⟩ hy
    rcases S.par n (List.of_mem_zip hy).1 with q | q
    · exact .inl q
    · refine .inr ⟨q, ?_⟩
      exact PySem.W.cellsFrom_some _ _ _ (.inl q)
  intro env he s1 x
  subst he
  refine ⟨lim.keeps x.toInCall.keep, ?_⟩
  refine codeAny_func ?_
  obtain ⟨t, ht, hq⟩ := hbody cdv A outer s H vs Q E (hr.deeper _) hgu hsp
  have I := inv_start (CX := CX) (E := E) S hr.hd e0 (len _ _ _ _ hsp) r x
  refine wpAny_mono (ht.run [] s1 (start N vs) H _ I hq) ?_ (fun _ _ z => z)
  intro fl s' hs
  cases fl with
  | ret u =>
    obtain ⟨v, σ', H', J, rv, q⟩ := hs
    exact ⟨v, H', J.os, J.bare, J.base, J.hok, rv, q⟩
  | next =>
    obtain ⟨σ', H', J, q⟩ := hs
    exact ⟨.non, H', J.os, J.bare, J.base, J.hok, rfl, q⟩
  | brk =>
    obtain ⟨_, _, _, q⟩ := hs
    cases q
  | cont =>
    obtain ⟨_, _, _, q⟩ := hs
    cases q
end
/-- a def that may be called by its name -/
structure CalG (P : Program) (w : World) (K : Frag) (mg : Str → Option Value) (base : Heap) (CX : CXT) (k : Nat) (x : Str) (sp : Sp) : Prop where
  ex : ∃ (f : Addr) (fd : FuncData) (ps : List Str), FnG P w K mg base CX k f fd ps sp ∧ mg x = some (.ref f) ∧ PySem.W.keepIn K (.ref f) = true ∧ Binds K fd ps []
theorem CalG.of {P : Program} {w : World} {K : Frag} {mg : Str → Option Value} {base : Heap} {k : Nat} {x : Str} {sp : Sp} (c : C8.Cal P w K mg base k x sp []) : CalG P w K mg base C8.CX0 k x sp := by
  obtain ⟨f, fd, ps, ds, F, hm, kp, b, d⟩ := c.ex
  cases d
  exact ⟨f, fd, ps, .of F, hm, kp, b⟩
section
variable {X : Cx} {CX : CXT} {k j : Nat} {x : Str} {sp : Sp} {p pos : Pos} {e : Expr} {es : List Expr} {t : TA}
theorem run_g {f : Addr} {fd : FuncData} {ps : List Str} {E : XK} {pins : List (Addr × Obj)} {σ : L2.St} {H : Hp} {s : Shared} {Q : VK} {us : List Value} {vs : List V} (F : FnG X.prog X.w X.K X.mg X.base CX k f fd ps sp) (hr : Room k X.A) (hgu : X.A.guards = some []) (hb : Binds X.K fd ps [])
    (hx : ∀ e s', CX X.stack H s E e s' → X.xe e s') (I : Inv X pins σ H s) (r : Vals vs us) (h : sp vs H Q E) : wpAny (model X.prog X.w) X.A (call (.ref f) us) (EP X pins σ Q) X.xe s := by
  have hl : us.length = ps.length := r.length.symm.trans (F.len _ _ _ _ h)
  have hbb := hb s us I.kIn (by simpa using hl)
  rw [List.append_nil] at hbb
  have z := F.run X.A X.stack s H ⟨us, []⟩ us vs Q E hr hgu I.env0 hbb r h
  refine wpAny_call (codeAny_mono z ?_)
  rintro (er | fl) s' hq
  · exact hx er s' hq
  · cases fl with
    | ret u => exact I.after hq
    | next => cases hq
    | brk => cases hq
    | cont => cases hq
theorem pe_cg (c : CalG X.prog X.w X.K X.mg X.base C8.CX0 k x sp) (hr : Room j X.A) (hk : k ≤ j) (hgu : X.A.guards = some []) (hg : Gl X x) (ha : PA X (e :: es) t)
    (hdb : (x == ("__debug__" : Str)) = false := by decide) (he : starEach (e :: es) X.env = (false, eval e X.env) :: starEach es X.env := by rfl)
    (hpl : (backTo pos (starEach es X.env)).any (·.1) = false := by rfl) : PE X (.Call (.Name x p) (e :: es) [] pos) (tCall sp [] C8.E0 t) := by
  obtain ⟨f, fd, ps, F, hm, kp, b⟩ := c.ex
  refine ⟨?_⟩
  intro pins s σ H Q I h
  refine wpAny_Call_Name_kw (ld_glob I hg hm ?_ hdb)
  refine PySem.W.callWith_K (h₀ := X.base) I.ok.mod.kin kp (thn (ha.run pos pins s σ H _ I h) ?_) he hpl
  rintro us s1 ⟨vs, H1, I1, r, q⟩
  refine ⟨I1.kIn, ?_⟩
  have q' : sp (vs ++ []) H1 Q C8.E0 := q
  rw [List.append_nil] at q'
  exact run_g F (hr.mono hk) hgu b (fun _ _ z => z.elim) I1 r q'
/-- a def that may raise, called under a try -/
theorem pe_cgS {E : L2.St → XK} (c : CalG X.prog X.w X.K X.mg X.base CX k x sp) (hr : Room j X.A) (hk : k ≤ j) (hgu : X.A.guards = some []) (hg : Gl X x) (hx : ∀ σ, PassesAt CX X σ (E σ)) (ha : PA X (e :: es) t)
    (hdb : (x == ("__debug__" : Str)) = false := by decide) (he : starEach (e :: es) X.env = (false, eval e X.env) :: starEach es X.env := by rfl)
    (hpl : (backTo pos (starEach es X.env)).any (·.1) = false := by rfl) : PE X (.Call (.Name x p) (e :: es) [] pos) (tCallS sp E t) := by
  obtain ⟨f, fd, ps, F, hm, kp, b⟩ := c.ex
  refine ⟨?_⟩
  intro pins s σ H Q I h
  refine wpAny_Call_Name_kw (ld_glob I hg hm ?_ hdb)
  refine PySem.W.callWith_K (h₀ := X.base) I.ok.mod.kin kp (thn (ha.run pos pins s σ H _ I h) ?_) he hpl
  rintro us s1 ⟨vs, H1, I1, r, q⟩
  exact ⟨I1.kIn, run_g F (hr.mono hk) hgu b (fun e s' z => hx σ pins H1 s1 e s' I1 z) I1 r q⟩
end
theorem calG0 {P : Program} {w : World} {K : Frag} {mg : Str → Option Value} {base : Heap} {x : Str} {st : Stmt} {f : Addr} {fd : FuncData} {N ps : List Str} {k : Nat} {sp : Sp} (F : C8.Def K mg x st f fd) (b : Binds K fd ps []) (S : FnScope N ps (C8.fnScope st))
    (len : ∀ vs H Q E, sp vs H Q E → vs.length = ps.length)
    (hbody : ∀ (cdv : Value) (A : Around) (outer : List Env) (s : Shared) (H : Hp) (vs : List V) (Q : VK) (E : XK),
      Room k (A.deeper (envOfC x (C8.fnScope st) s.heap.objs.size f cdv)) → A.guards = some [] → sp vs H Q E →
      ∃ t, PSs (cxOf C8.CX0 P w K mg base N x (C8.fnScope st) f cdv A outer s H E).nox (C8.fnBody st) t ∧
        t { nx := fun _ H' => Q .non H', rt := Q } (start N vs) H) : CalG P w K mg base C8.CX0 (k + 1) x sp := by
  refine ⟨f, fd, ps, FnG.mk' F.fn S len ?_, F.mgf, F.kp, b⟩
  intro cdv A outer s H vs Q E hr hgu hsp
  obtain ⟨t, h, q⟩ := hbody cdv A outer s H vs Q E hr hgu hsp
  exact ⟨t, h.nox, q⟩
end Fr
namespace Fr
open PySem PySem.Spec PyProof.Rows L2
/-- the end of a law's row, from the promise of its def where no guard stands around -/
theorem law_endG {P : Program} {w : World} {K : Frag} {mg mb : Str → Option Value} {k : Nat} {fa a : Addr} {fd : FuncData} {x : Str} {sp : Sp} {s₁ : Shared} {vs : List Value} {ns : List Int}
    (KX : K.In s₁.heap) (hns : s₁.heap.Ns mainGlobals mg) (hb : s₁.heap.Ns builtinsNs mb) (hbb : ∀ x : Str, x ≠ "__name__" → mb x = bootBuiltins x)
    (hlim : s₁.heap.NoLimit) (hg : s₁.gens = #[])
    (ha : s₁.heap.get? a = some { cls := .type "list", data := .seq vs.toArray }) (hi : IntsAre vs ns) (hl : ns.length ≤ sizeLine) (hr : Room k callerA)
    (F : ∀ base : Heap, K.In base → base.Ns mainGlobals mg → FnG P w K mg base C8.CX0 k fa fd [x] sp)
    (hbind : ∀ (s : Shared) (u : Value), BindsTo s fd ⟨[u], []⟩ [(x, u)])
    (hsp : ∀ H : Hp, Only H → SqL K H a (ns.map V.int) → sp [.ref a] H (fun v _ => v = .bl true) fun _ _ _ => False) :
    codeAny (model P w) callerA (.call (.ref fa) ⟨[.ref a], []⟩)
      (fun r s' => r = .ok (.ret (.bool true)) ∧ OldK s₁.heap s'.heap ∧ s'.os = s₁.os ∧ AllBare s'.gens) s₁ := by
  have rv := vals_ints hi
  have lenV := hi.length
  have core : ∀ H : Hp, Only H → SqL K H a (ns.map V.int) → HOk P w H s₁.heap → (∀ b, H b ≠ none → b = a) → (H a ≠ none → K.lookup a = none) →
      codeAny (model P w) callerA (.call (.ref fa) ⟨[.ref a], []⟩)
        (fun r s' => r = .ok (.ret (.bool true)) ∧ OldK s₁.heap s'.heap ∧ s'.os = s₁.os ∧ AllBare s'.gens) s₁ := by
    intro H hO hS hok hA hK
    have noA : ∀ {b : Addr} {o : Obj} {es : Array DictEntry} {ep : Nat}, s₁.heap.get? b = some o → o.data = .dict es ep → H b = none := by
      intro b o es ep e d
      cases q : H b with
      | none => rfl
      | some u =>
        obtain rfl : b = a := hA b (by simp [q])
        rw [ha] at e
        cases e
        have d' : Data.seq vs.toArray _ = Data.dict es ep := d
        cases d'
    have nsK : ∀ {b : Addr} {m : Str → Option Value}, s₁.heap.Ns b m → (hidT s₁.heap H).Ns b m := by
      rintro b m ⟨o, es, ep, e, d, r⟩
      exact ⟨o, es, ep, hidT_get e (noA e d), d, r⟩
    have hKb : K.In (hidT s₁.heap H) := by
      intro b o e
      refine hidT_get (KX b o e) ?_
      cases q : H b with
      | none => rfl
      | some u =>
        obtain rfl : b = a := hA b (by simp [q])
        rw [hK (by simp [q])] at e
        cases e
    obtain ⟨mc, h1, h2⟩ := hlim
    have hM : Mod K mg (hidT s₁.heap H) := ⟨hKb, nsK hns, ⟨mb, nsK hb, hbb⟩, ⟨mc, nsK h1, h2⟩⟩
    have e0 : Env0 P w K mg (hidT s₁.heap H) callerA [] s₁ H := by
      refine ⟨rfl, hM, fun b o e => of_hidT e, Nat.le_of_eq (hidT_size _ _), trivial, ?_, hok, .of_eq hg⟩
      intro b hb
      cases (show b ∈ ([] : List Addr) from hb)
    have z := (F _ hKb (nsK hns)).run callerA [] s₁ H ⟨[.ref a], []⟩ [.ref a] [.ref a] _ _ hr rfl e0 (hbind s₁ (.ref a)) (.cons rfl .nil) (hsp H hO hS)
    refine codeAny_mono z ?_
    rintro (e | fl) s' h
    · exact (show False from h).elim
    · cases fl with
      | next => exact (show False from h).elim
      | brk => exact (show False from h).elim
      | cont => exact (show False from h).elim
      | ret u =>
        obtain ⟨v, H', os, bare, un, hok', r', q⟩ := h
        obtain rfl : v = .bl true := q
        obtain rfl : u = Value.bool true := r'
        refine ⟨rfl, OldK.of_keep ?_, os, bare⟩
        intro b o e
        cases q : H b with
        | none =>
          refine un.keep b o e q ?_ (by simp)
          intro z
          cases (show b ∈ ([] : List Addr) from z)
        | some u =>
          rcases hO b with z | ⟨ob, xs, z⟩
          · rw [q] at z
            cases z
          · obtain ⟨e1, _⟩ := hok b _ z
            obtain ⟨e2, _⟩ := hok' b _ (un.frzs b ob _ z)
            rw [e] at e1
            cases e1
            exact e2
  cases hk : K.lookup a with
  | some o =>
    have e := KX a o hk
    rw [ha] at e
    cases e
    refine core (fun _ => none) (fun _ => .inl rfl) (.inr ?_) ?_ (fun b z => absurd rfl z) fun z => absurd rfl z
    · refine ⟨_, vs.toArray, _, hk, rfl, rfl, rfl, ?_, by simpa using rv⟩
      rw [List.size_toArray, lenV]
      exact hl
    · intro b u z
      cases (show (none : Option HO) = some u from z)
  | none =>
    obtain ⟨Hs, at_, off⟩ : ∃ Hs : Hp, (∀ b, b = a → Hs b = some (.frz { cls := .type "list", data := .seq vs.toArray } (.lst (ns.map V.int)))) ∧ ∀ b, b ≠ a → Hs b = none :=
      ⟨fun b => if b = a then some (.frz { cls := .type "list", data := .seq vs.toArray } (.lst (ns.map V.int))) else none, fun b hb => if_pos hb, fun b hb => if_neg hb⟩
    refine core Hs (fun b => ?_) (.inl (.inr ⟨_, at_ a rfl⟩)) (fun b u z => ?_) (fun b z => ?_) fun _ => hk
    · by_cases hb : b = a
      · exact .inr ⟨_, _, at_ b hb⟩
      · exact .inl (off b hb)
    · by_cases hb : b = a
      · have z' := (at_ b hb).symm.trans z
        cases z'
        subst hb
        refine ⟨ha, ?_, vs, _, rv, ha⟩
        rw [List.length_map]
        exact hl
      · have z' := (off b hb).symm.trans z
        cases z'
    · by_cases hb : b = a
      · exact hb
      · exact absurd (off b hb) z
theorem walkG {l : PySem.W.OpenLaw} {n k : Nat} {q : Program} {loose : List Str} {XP : (Str → Option Value) → Heap → Prop} {YP : World → Heap → Prop} {d : DefRec} {K : Params → Frag} {sp : World → Sp} {x : Str}
    (hn : l.most = some n) (hn2 : n ≤ sizeLine) (hdf : d.params.defaults = []) (hr : Room k callerA) (hY : ∀ (w : World) (h : Heap), YP w h → (K w.params).In h)
    (F : ∀ (w : World) (mg : Str → Option Value) (fa : Addr) (h : Heap), (K w.params).In h → h.Ns mainGlobals mg → mg d.name = some (.ref fa) →
      ∃ fd : FuncData, (∀ (s : Shared) (u : Value), BindsTo s fd ⟨[u], []⟩ [(x, u)]) ∧
        ∀ base : Heap, (K w.params).In base → base.Ns mainGlobals mg → FnG l.prog w (K w.params) mg base C8.CX0 k fa fd [x] (sp w))
    (hsp : ∀ (w : World) (H : Hp) (a : Addr) (ns : List Int), ns.length ≤ n → Only H → SqL (K w.params) H a (ns.map V.int) →
      sp w [.ref a] H (fun v _ => v = .bl true) fun _ _ _ => False) :
    PySem.W.WalkO q loose XP YP l.row.toRowW d [] (fun f vs => PySem.call f vs) := by
  refine Att.attach_call hn hdf ?_
  intro w s₀ s₁ mg mb fa o pm cd doc a vs ns G Y ho hd hcd hmg hobj hints hlen hg
  have KX := hY w _ Y
  obtain ⟨fd, hb, hF⟩ := F w mg fa _ KX G.T.g hmg
  exact law_endG KX G.T.g G.T.b G.T.builtins G.T.nolimit hg hobj hints (Nat.le_trans hlen hn2) hr hF hb fun H hO hS => hsp w H a ns hlen hO hS
/-! ### repr -/
section
variable {X : Cx} {pins : List (Addr × Obj)} {σ : L2.St} {H : Hp} {s : Shared}
/-- repr of data: its text -/
def rRepr (K : Frag) : List V → Hp → VK → Prop := fun xs H Q => ∃ (a : Addr) (d : PyData), xs = [.ref a] ∧ Dp K H (.ref a) d ∧ d.showable = true ∧ d.hasDict = false ∧ d.depth ≤ 60 ∧ d.shown.length ≤ sizeLine ∧ Q (.str d.shown) H
theorem call_reprD (hgu : X.A.guards = some []) (hu : X.A.units + 64 < cLine) : CallR X (.builtin "repr") (rRepr X.K) := by
  intro pins s σ H xs us Q I r h
  obtain ⟨a, d, rfl, hd, hs, hnd, hdp, hsz, q⟩ := h
  cases r with
  | cons rx rr =>
    cases rr
    cases rx
    obtain ⟨as, hr⟩ := Dp.reads I d _ _ hd rfl
    refine PySem.repr_of_reads' hr hs (fun z => by rw [hnd] at z; cases z) hgu (by omega) (fun _ _ z => z) ?_ hsz
    intro h' u tk k
    exact ⟨.str d.shown, H, I.kept (t' := tk) k, ⟨u, rfl⟩, q⟩
end
end Fr
namespace PySem.W
open PySem PySem.Spec PySem.Calls PyProof.Rows
section
variable {prog : Program} {w : World} {A : Around} {E : Value → Shared → Prop} {s : Shared} {K : Frag} {x D : Addr} {ox : Obj} {od : Option Obj}
theorem fr_findData {C : Addr} {name : Str} {a g : Value} (hc : (clsIn K C).isSome = true) (ha : findIn K (.ref C) name = some (some a))
    (hg : specialIn K a "__get__" = some (some g)) (ht : takesIn K a = some true) : findObj K C od name = some (.bind g a) := by
  obtain ⟨cd, hc⟩ := Option.isSome_iff_exists.mp hc
  simp [findObj, hc, ha, hg, ht]
/-- e.__class__ of an exception, whatever its own dict holds -/
theorem fr_class {Q : Option Value → Shared → Prop}
    (hga : findIn K (.ref D) "__getattribute__" = some (some (.builtin "BaseException.__getattribute__")))
    (hgt : findIn K (.ref D) "__getattr__" = some none) (hsub : subIn K (.ref D) (.type "BaseException") = some true)
    (hdct : hasDictIn K D = true) (ha : findIn K (.ref D) "__class__" = some (some (.builtin "object.__class__")))
    (hn : specialIn K (.builtin "object.__class__") "__get__" = some (some (.builtin "getset_descriptor.__get__")))
    (htk : takesIn K (.builtin "object.__class__") = some true) (hm : mroIn K D (.type "object") = some true)
    (X : K.In s.heap) (I : InstAt s.heap x ox D od) (h : Q (some (.ref D)) { s with toks := s.toks + 1 }) :
    wpAny (model prog w) A (getAttr? (.ref x) "__class__") Q E s := by
  have hcs : (clsIn K D).isSome = true := by
    obtain ⟨cd, hc, _⟩ := any_some hdct
    rw [hc]
    rfl
  have hf := fr_findData (od := od) hcs ha hn htk
  obtain ⟨hp, g, d, t, os⟩ := s
  have L0 := I.type (M := model prog w)
  have L1 := looks_findIn (M := model prog w) X hga
  have L2 := looks_findIn (M := model prog w) X hgt
  have L3 := looks_find (M := model prog w) X I hf
  have sub : Looks (model prog w) hp (isInstance (.ref x) (.type "BaseException"))
      true := L0.andThen (looks_subIn X hsub)
  have e2 : (Value.builtin "BaseException.__getattribute__" == Value.builtin "object.__getattribute__") = false := by decide +kernel
  have e1 : (onTheHeap (Value.ref D) && Value.builtin "BaseException.__getattribute__" == Value.builtin "object.__getattribute__") = false := by
    rw [e2]
    rfl
  unfold getAttr? getAttrBy? getAttrBy
  refine wpAny_bind (wpAny_mkText (wpAny_bind (wpAny_attempt (wpAny_holding ?_))))
  refine wpAny_bind (L0.at (wpAny_bind (L1.at ?_)))
  show wpAny _ _ (if (onTheHeap (Value.ref D) && Value.builtin "BaseException.__getattribute__" == Value.builtin "object.__getattribute__") = true
    then _ else _) _ _ _
  rw [e1]
  rw [if_neg Bool.false_ne_true]
  unfold getAttrByItsOwn hookBefore
  refine wpAny_bind ?_
  rw [if_pos (by rfl : onTheHeap (Value.ref D) = true)]
  refine L2.at (wpAny_bind (wpAny_attempt (wpAny_holding ?_)))
  unfold callGetattribute
  have e0 : (false && onTheHeap (Value.builtin "BaseException.__getattribute__")) = false := by rfl
  rw [e0]
  rw [if_neg Bool.false_ne_true]
  unfold boundAndCalled
  rw [PySem.F.excAttr_ValueError.ga.bind (.ref x)]
  refine wpAny_bind (wpAny_pure ?_)
  show wpAny _ _ (call (.builtin "BaseException.__getattribute__") [.ref x, .str "__class__" t])
    _ _ _
  refine wpAny_call (codeAny_call_builtin PySem.F.excAttr_ValueError.ga.plain
    PySem.F.entry_bexc_ga ?_)
  refine @check_slot (model prog w) _ _ ⟨hp, g, d, t + 1, os⟩ "BaseException.__getattribute__" "BaseException" "__getattribute__"
    (.ref x) [.str "__class__" t] [] _ (by decide +kernel) (by decide +kernel) sub (PySem.F.args_bexc_ga _ _) ?_
  unfold Builtin.«object.__getattribute__»
  refine wpAny_bind (wpAny_of_eq (a := ((Value.ref x : Value), [Value.str "__class__" t]))
    (by first | rfl | (simp only [slotArgs]; rfl)) ?_)
  refine wpAny_bind (wpAny_pure ?_)
  refine wpAny_bind (L0.at (wpAny_bind (L3.at ?_)))
  show wpAny _ _ (holding [Value.builtin "object.__class__"]
    (call (.builtin "getset_descriptor.__get__") [.builtin "object.__class__", .ref x, .ref D]) >>= ret) _ _ _
  refine wpAny_bind (wpAny_holding (wpAny_call ?_))
  refine class_get (s := ⟨hp, g, d, t + 1, os⟩) (ox := ox) (od := od) X I hm ?_
  refine wpAny_pure ?_
  show wpAny _ _ (handedOut (.ref D))
    _ _ _
  rw [handedOut_of (v := .ref D) rfl]
  first
    | exact wpAny_pure (wpAny_pure h) | exact wpAny_pure h
    | exact wpAny_pure (wpAny_bind (wpAny_pure (wpAny_pure h)))
theorem fr_kitx
    (hga : findIn K (.ref D) "__getattribute__" = some (some (.builtin "BaseException.__getattribute__")))
    (hgt : findIn K (.ref D) "__getattr__" = some none) (hsub : subIn K (.ref D) (.type "BaseException") = some true)
    (hdct : hasDictIn K D = true) (ha : findIn K (.ref D) "__class__" = some (some (.builtin "object.__class__")))
    (hn : specialIn K (.builtin "object.__class__") "__get__" = some (some (.builtin "getset_descriptor.__get__")))
    (htk : takesIn K (.builtin "object.__class__") = some true) (hm : mroIn K D (.type "object") = some true) :
    KitX K (.ref x) (.ref D) (fun h => InstAt h x ox D od) := by
  obtain ⟨cdD, hcD, _⟩ := any_some hdct
  unfold clsIn at hcD
  split at hcD
  · rename_i c' d' cd' sl' ho
    refine ⟨fun _ _ _ I => I.type, fun _ _ X _ => ?_, fun h tp dd its n sl X htp => ?_, fun X I k => fr_class hga hgt hsub hdct ha hn htk hm X I k⟩
    · intro A' Q' E' s' k q
      unfold isType loadHead
      refine wpAny_bind (wpAny_loadPart (k _ _ (X _ _ ho)) ?_)
      exact wpAny_pure q
    · refine Bool.eq_false_iff.mpr ?_
      intro q
      obtain rfl : D = tp := Value.ref.inj (beq_iff_eq.mp q)
      cases (X _ _ ho).symm.trans htp
  · cases hcD
end
end PySem.W
namespace Fr
open PySem PySem.Spec PyProof.Rows L2
/-! ### exceptions as values -/
/-- at a: an exception of the class at C, its own dict (none, or at d) -/
def exv (a C : Addr) (d : Option Addr) : HO := .ext fun h => ∃ (oe : Obj) (vs : Array Value), h.get? a = some oe ∧ oe.cls = .ref C ∧ oe.dict = d ∧ oe.data = .fields vs
theorem exv_ok {P : Program} {w : World} {H : Hp} {h : Heap} {a C : Addr} {d : Option Addr} {oe : Obj} {vs : Array Value} (e : h.get? a = some oe) (c : oe.cls = .ref C) (z : oe.dict = d) (q : oe.data = .fields vs) : ObjOk P w H h a (exv a C d) :=
  ⟨⟨oe, vs, e, c, z, q⟩, ⟨oe, e⟩, fun _ _ ⟨o, v, q, r⟩ k => ⟨o, v, k o q, r⟩⟩
/-- the own dict of an exception holds these fields -/
def XD (H : Hp) (d : Addr) (fs : List (Str × V)) : Prop := H d = some (.xd fs) ∨ H d = some (exd d fs)
theorem XD.at {P : Program} {w : World} {H : Hp} {h : Heap} {d : Addr} {fs : List (Str × V)} (x : XD H d fs) (ok : HOk P w H h) : ∃ mA, h.Ns1 d mA ∧ ∀ f, RelO (fs.lookup f) (mA f) := by
  rcases x with x | x
  · exact ok d _ x
  · exact exd_at ok x
/-- an exception of the class at C stands at a -/
def XV (H : Hp) (a C : Addr) (d : Option Addr) : Prop := H a = some (exv a C d) ∨ H a = some (exo a C d) ∨ (d = none ∧ H a = some (ExO (.ref C) a))
theorem XV.at {P : Program} {w : World} {H : Hp} {h : Heap} {a C : Addr} {d : Option Addr} (x : XV H a C d) (ok : HOk P w H h) : ∃ (oe : Obj) (vs : Array Value), h.get? a = some oe ∧ oe.cls = .ref C ∧ oe.dict = d ∧ oe.data = .fields vs := by
  rcases x with x | x | ⟨rfl, x⟩
  · exact (ok a _ x).1
  · obtain ⟨t1, e⟩ := exo_at ok x
    exact ⟨_, _, e, rfl, rfl, rfl⟩
  · obtain ⟨⟨oe, vs, e, z, q, _⟩, _, _⟩ := ok a _ x
    exact ⟨oe, vs, e, z.1, z.2, q⟩
theorem XV.same {H H' : Hp} {a C : Addr} {d : Option Addr} (x : XV H a C d) (s : Same H H') : XV H' a C d := by
  rcases x with x | x | ⟨e, x⟩
  · exact .inl (s _ _ x)
  · exact .inr (.inl (s _ _ x))
  · exact .inr (.inr ⟨e, s _ _ x⟩)
theorem XD.same {H H' : Hp} {d : Addr} {fs : List (Str × V)} (x : XD H d fs) (s : Same H H') : XD H' d fs := x.elim (fun x => .inl (s _ _ x)) fun x => .inr (s _ _ x)
theorem inst_of {P : Program} {w : World} {H : Hp} {h : Heap} {a C : Addr} {d : Option Addr} (x : XV H a C d) (ok : HOk P w H h) (hd : ∀ dd, d = some dd → ∃ fs, XD H dd fs) : ∃ ox od, PySem.W.InstAt h a ox C od := by
  obtain ⟨oe, vs, e, c, z, q⟩ := x.at ok
  have no : PySem.W.notCls oe = true := by
    unfold PySem.W.notCls
    rw [q]
  cases d with
  | none => exact ⟨oe, none, e, c, no, by rw [z]; trivial⟩
  | some dd =>
    obtain ⟨fs, y⟩ := hd dd rfl
    obtain ⟨mA, ⟨o, es, ep, ho, _⟩, _⟩ := y.at ok
    exact ⟨oe, some o, e, c, no, by rw [z]; exact ho⟩
/-- isinstance(e, c), e a tracked exception -/
def rIsX (K : Frag) : List V → Hp → VK → Prop := fun xs H Q => ∃ (a D : Addr) (d : Option Addr) (c : V) (cv : Value) (b : Bool), xs = [.ref a, c] ∧ XV H a D d ∧ (∀ dd, d = some dd → ∃ fs, XD H dd fs) ∧ ExcC K D ∧
  (∀ u, RelV c u → u = cv) ∧ PySem.W.kitOne K (.ref D) cv = some b ∧ Q (.bl b) H
theorem call_isX {X : Cx} : CallR X (.builtin "isinstance") (rIsX X.K) := by
  intro pins s σ H xs us Q I r h
  obtain ⟨a, D, d, c, cv, b, rfl, hx, hd, T, hcv, e, q⟩ := h
  cases r with
  | cons rx rr =>
    cases rr with
    | cons rt rr =>
      cases rr
      cases rx
      have ec := hcv _ rt
      subst ec
      obtain ⟨ox, od, J⟩ := inst_of hx I.hok hd
      refine PySem.W.kia_one (PySem.W.fr_kitx T.hg T.hk T.hs T.hd T.ha T.hn T.ht T.hm) I.kIn J e (fun z => nomatch z) ?_
      exact fun tk => ⟨.bl b, H, I.kept (t' := tk) fun _ _ z => z, rfl, q⟩
/-- e.f, e a tracked exception with its own dict -/
def tXv (K : Frag) (f : Str) (te : TE) : TE := fun σ H Q => te σ H fun x H1 => ∃ (a C d : Addr) (fs : List (Str × V)) (v : V), x = .ref a ∧ XV H1 a C (some d) ∧ XD H1 d fs ∧ XfC K C ∧ PySem.W.findIn K (.ref C) f = some none ∧ fs.lookup f = some v ∧ Q v H1
theorem pe_xv {X : Cx} {e : Expr} {te : TE} {pos : Pos} {n : Str} (he : PE X e te) (hb : attributeBase e n X.env (eval e X.env) = eval e X.env := by rfl) : PE X (.Attribute e n pos) (tXv X.K n te) := by
  refine ⟨?_⟩
  intro pins s σ H Q I h
  refine attr_of hb (thn (he.run pins s σ H _ I h) ?_)
  rintro u s1 ⟨x, H1, I1, rx, a, C, d, fs, v, rfl, xv, xd, T, hno, l, q⟩
  obtain rfl : u = Value.ref a := rx
  obtain ⟨oe, vs, ea, ec, ed, eq⟩ := xv.at I1.hok
  obtain ⟨mA, hns, hr⟩ := xd.at I1.hok
  obtain ⟨od, ho, hl⟩ := lookIn_ns hns
  obtain ⟨u, hu, ru⟩ := RelO.some_of (v := v) (o := mA n) (by rw [← l]; exact hr n)
  have J : PySem.W.InstAt s1.heap a oe C (some od) := by
    refine ⟨ea, ec, ?_, ?_⟩
    · unfold PySem.W.notCls
      rw [eq]
    · rw [ed]
      exact ho
  refine HandSPX.exc_get I1.kIn J T.ga T.gg T.exC (PySem.W.findObj_own T.hdC hno rfl (by rw [hl, hu])) (handed_of ru) ?_
  exact ⟨v, H1, I1.tok _, ru, q⟩
end Fr
namespace PySem
namespace FrX
open PySem.W PySem.Calls PyProof.Rows PySem.HandSPX
section
variable {M : Model} {prog : Program} {w : World} {A : Around} {E : Value → Shared → Prop} {R : Result → Shared → Prop} {h : Heap} {g : Array GenState} {d : Drawn} {t : Nat} {os : OsState}
variable {nm q : Str} {C N : Addr} {bs bm bmB : List Value} {hdct : Bool} {sn : List Str} {sub : List Value} {ab : Bool} {col : Option Bool} {dd : Option Addr}
variable {k0 k1 k2 k3 k5 : Option Value} {B newId initId : String} {rest : List Value} {kn : Str} {kv : Value}
theorem chk_new (F : ExcBaseFacts B newId initId bmB) (hT : ∀ X : String, bm.contains (.type X) = bmB.contains (.type X)) {Q : Unit → Shared → Prop}
    (hC : h.get? C = some (excClassObj nm q C N bs bm hdct sn sub ab col dd k0 k1 k2 k3 k5 newId)) (hq : Q () ⟨h, g, d, t, os⟩) :
    wpAny M A (checkBuiltinCall newId ⟨.ref C :: rest, [(kn, kv)]⟩) Q E ⟨h, g, d, t, os⟩ := by
  have hcont : (Value.ref C :: bm).contains (.type B) = true := by
    rw [List.contains_cons, hT]
    rw [F.hasB, Bool.or_true]
  have hstar := F.noStar
  simp only [checkBuiltinCall]
  simp only [F.newKind, F.newSplit, F.newRow]
  repeat (first
    | refine wpAny_loadPart_at hC ?_
    | (refine wpAny_isSubtype_exc hC ?_; rw [hcont])
    | refine wpAny_staticBase_exc hC ?_
    | refine wpAny_madeBy_exc hC ?_
    | simp only [bne_self_eq_false, Bool.false_eq_true, if_false]
    | wp_step)
  exact hq
theorem new_kw (F : ExcBaseFacts B newId initId bmB) (hT : ∀ X : String, bm.contains (.type X) = bmB.contains (.type X))
    (hC : h.get? C = some (excClassObj nm q C N bs bm hdct sn sub ab col dd k0 k1 k2 k3 k5 newId))
    (hq : R (.ok (.ret (.ref (h.objs.size + 1)))) ⟨(h.push (W.kdv_tup rest)).push (excO C h.objs.size), g, d, t, os⟩) (hrest : rest.length ≤ sizeLine) :
    codeAny (model prog w) A (.builtin newId ⟨.ref C :: rest, [(kn, kv)]⟩) R ⟨h, g, d, t, os⟩ := by
  have hends := F.ends
  have hcB : (Value.ref C :: bm).contains (.type B) = true := by
    rw [List.contains_cons, hT]
    rw [F.hasB, Bool.or_true]
  have hcA : (Value.ref C :: bm).contains (.type "AttributeError") = false := by
    rw [List.contains_cons, hT, F.noAttr]
    rfl
  have hcN : (Value.ref C :: bm).contains (.type "NameError") = false := by
    rw [List.contains_cons, hT, F.noName]
    rfl
  refine codeAny_builtinAt F.entry ?_
  unfold Builtin.«BaseException.__new__»
  refine wpAt_bind ?_
  show wpAt _ _ _ (stack >>= _)
    _ _ _
  refine wpAt_bind (wpAt_stack ?_)
  intro p below
  refine wpAt_of_wpAny ?_
  wp_walk
  refine wpAt_of_wpAny ?_
  rw [F.owner]
  repeat (first
    | with_reducible refine wpAny_madeHere_exc F.canon hC ?_
    | with_reducible refine wpAny_loadPart_at hC ?_
    | (with_reducible refine wpAny_isSubtype_exc hC ?_; first | rw [hcB] | rw [hcA] | rw [hcN])
    | wp_step)
  show R _ _
  rw [Heap.size_push]
  exact hq
theorem type_kw (F : ExcBaseFacts B newId initId bmB) (hT : ∀ X : String, bm.contains (.type X) = bmB.contains (.type X)) {fI : Addr} {Q : Fin → Shared → Prop}
    (hC : h.get? C = some (excClassObj nm q C N bs bm hdct sn sub ab col dd k0 k1 k2 k3 k5 newId))
    (hi : W.Looks (model prog w) h (typeLookup (.ref C) "__init__") (some (.ref fI)))
    (hb : ∀ self, W.Looks (model prog w) h (bindSpecial (.ref fI) self) (.ref fI, [self])) (hrest : rest.length ≤ sizeLine)
    (hq : codeAny (model prog w) A (.call (.ref fI) ⟨.ref (h.objs.size + 1) :: rest, [(kn, kv)]⟩)
      (fun r s' => match r with
        | .ok (.ret v) => v = .none ∧ Q (.done (.ret (.ref (h.objs.size + 1)))) s'
        | .ok _ => False
        | .error e => E e s')
      ⟨(h.push (W.kdv_tup rest)).push (excO C h.objs.size), g, d, t, os⟩) :
    wpAny (model prog w) A (Builtin.«type.__call__» ⟨.ref C :: rest, [(kn, kv)]⟩) Q E ⟨h, g, d, t, os⟩ := by
  repeat (first
    | with_reducible refine wpAny_loadPart_at hC ?_
    | with_reducible refine wpAny_madeBy_exc hC ?_
    | wp_step)
  refine codeAny_call_builtin_code (Code.quiet_builtin _ F.quiet) (chk_new F hT hC ?_)
  refine new_kw F hT hC ?_ hrest
  show wpAny _ _ _
    _ _ _
  have k : ∀ b o, h.get? b = some o → ((h.push (W.kdv_tup rest)).push (excO C h.objs.size)).get? b = some o := by
    intro b o e
    exact Heap.get?_push_of_some _ (Heap.get?_push_of_some _ e)
  have hC₁ := k _ _ hC
  have hget : ((h.push (W.kdv_tup rest)).push (excO C h.objs.size)).get? (h.objs.size + 1) = some (excO C h.objs.size) := by
    heap_get
  have hcC : (Value.ref C :: bm).contains (.ref C) = true := by simp
  have i1 := hi.keeps k
  have b1 := (hb (.ref (h.objs.size + 1))).keeps k
  unfold isInstance
  repeat (first
    | with_reducible refine wpAny_loadPart_at hget ?_
    | (with_reducible refine wpAny_isSubtype_exc hC₁ ?_; rw [hcC])
    | wp_step)
  show wpAny _ _ (typeLookup (.ref C) _)
    _ _ _
  refine i1.at (wpAny_holding (wpAny_bind (b1.at ?_)))
  refine wpAny_bind (wpAny_call (codeAny_mono hq ?_))
  intro r s' z
  rcases r with e | (v | _ | _ | _) <;> first | exact z | exact z.elim | skip
  obtain ⟨rfl, z⟩ := z
  first
    | exact wpAny_pure (wpAny_pure z)
    | (wp_walk
       exact z)
end
end FrX
end PySem
namespace PySem
namespace FrX
open PySem.W PySem.Calls PyProof.Rows PySem.HandSPX
section
variable {prog : Program} {w : World} {A : Around} {R : Result → Shared → Prop} {h : Heap} {g : Array GenState} {d : Drawn} {t : Nat} {os : OsState}
variable {nm q : Str} {C N : Addr} {bs bm bmB : List Value} {hdct : Bool} {sn : List Str} {sub : List Value} {ab : Bool} {col : Option Bool} {dd : Option Addr}
variable {k0 k1 k2 k3 k5 : Option Value} {B newId initId : String} {rest : List Value} {kn : Str} {kv : Value}
theorem chk_type {M : Model} {E : Value → Shared → Prop} {Q : Unit → Shared → Prop}
    (hC : h.get? C = some (excClassObj nm q C N bs bm hdct sn sub ab col dd k0 k1 k2 k3 k5 newId)) (hq : Q () ⟨h, g, d, t, os⟩) :
    wpAny M A (checkBuiltinCall "type.__call__" ⟨.ref C :: rest, [(kn, kv)]⟩) Q E ⟨h, g, d, t, os⟩ := by
  have f3 := tc_sub
  have hT : (⟨h, g, d, t, os⟩ : Shared).TypeIs (.ref C) "type" := by
    exact ⟨_, hC, rfl⟩
  simp only [checkBuiltinCall]
  simp only [tc_kind, tc_split]
  repeat (any_goals (first
    | assumption
    | with_reducible refine wpAny_loadPart_at hC ?_
    | with_reducible refine wpAny_onRaise ?_
    | with_reducible refine wpAny_map ?_
    | wp_step))
theorem call_kw (F : ExcBaseFacts B newId initId bmB) (hT : ∀ X : String, bm.contains (.type X) = bmB.contains (.type X)) {fI : Addr}
    (hC : h.get? C = some (excClassObj nm q C N bs bm hdct sn sub ab col dd k0 k1 k2 k3 k5 newId))
    (hi : W.Looks (model prog w) h (typeLookup (.ref C) "__init__") (some (.ref fI)))
    (hb : ∀ self, W.Looks (model prog w) h (bindSpecial (.ref fI) self) (.ref fI, [self])) (hrest : rest.length ≤ sizeLine)
    (hq : codeAny (model prog w) (A.under (.builtin "type.__call__" ⟨.ref C :: rest, [(kn, kv)]⟩))
      (.call (.ref fI) ⟨.ref (h.objs.size + 1) :: rest, [(kn, kv)]⟩) (W.InitBack (h.objs.size + 1) R)
      ⟨(h.push (W.kdv_tup rest)).push (excO C h.objs.size), g, d, t, os⟩) :
    codeAny (model prog w) A (.call (.ref C) ⟨rest, [(kn, kv)]⟩) R ⟨h, g, d, t, os⟩ := by
  have f1 := tc_lookup
  have f2 := tc_bind (.ref C)
  have hTy : (⟨h, g, d, t, os⟩ : Shared).TypeIs (.ref C) "type" := by
    exact ⟨_, hC, rfl⟩
  refine codeAny_of_tree ?_
  show wpAny _ _ (callAny (.ref C) _)
    _ _ _
  repeat (any_goals (first
    | assumption
    | with_reducible refine wpAny_loadPart_at hC ?_
    | wp_step))
  refine ⟨rfl, ?_⟩
  refine codeAny_call_builtin_at (Code.quiet_builtin _ (by decide +kernel)) entry_typeCall (chk_type hC ?_)
  refine type_kw F hT hC hi hb hrest (codeAny_mono hq ?_)
  intro r s' z
  rcases r with e | (v | _ | _ | _)
  all_goals exact z
end
end FrX
end PySem
namespace Fr
open PySem PySem.Spec PyProof.Rows L2
/-- C(e, ..), as a value: sp is __init__'s promise -/
def tMkV (C : Addr) (sp : Sp) (ta : TA) : TE := fun σ H Q => ta σ H fun vs H1 => vs.length ≤ 1000 ∧ ∀ a, H1 a = none → sp (.ref a :: vs) (upd H1 a (exo a C none)) (fun u H2 => u = .non ∧ Q (.ref a) H2) (fun _ _ _ => False)
section
variable {X : Cx} {x : Str} {C fI : Addr} {k : Nat} {fd : FuncData} {ps : List Str} {sp : Sp} {e : Expr} {es : List Expr} {ta : TA} {p pos kpos : Pos}
theorem pe_oexV (T : OexC X.K C) (iC : PySem.W.findIn X.K (.ref C) "__init__" = some (some (.ref fI))) (tI : PySem.W.typeIn X.K (.ref fI) = some (.type "function"))
    (F1 : FnOk X.prog X.w X.K X.mg X.base C8.CX0 k fI fd ps sp) (hr : Room (k + 1) X.A) (hb : Binds X.K fd ps []) (hg : Gl X x) (hm : X.mg x = some (.ref C)) (ha : PA X (e :: es) ta)
    (hdb : (x == ("__debug__" : Str)) = false := by decide) (he : starEach (e :: es) X.env = (false, eval e X.env) :: starEach es X.env := by rfl)
    (hpl : (backTo pos (starEach es X.env)).any (·.1) = false := by rfl) : PE X (.Call (.Name x p) (e :: es) [] pos) (tMkV C sp ta) := by
  obtain ⟨nm, q, N, bs, bm, sn, sub, ab, col, dd, k0, k1, k2, k3, k5, hC, hbm⟩ := T.cls
  refine ⟨?_⟩
  intro pins s σ H Q I h
  refine wpAny_Call_Name_kw (ld_glob I hg hm ?_ hdb)
  refine PySem.W.callWith_K (h₀ := X.base) I.ok.mod.kin T.kC (thn (ha.run pos pins s σ H _ I h) ?_) he hpl
  rintro us s1 ⟨vs, H1, I1, r1, hz, q1⟩
  refine ⟨I1.kIn, ?_⟩
  show wpAny _ _ (call (.ref C) us)
    _ _ _
  obtain ⟨hp, g, dr, tk, os⟩ := s1
  have hn : H1 (hp.objs.size + 1) = none := I1.hok.fresh (Nat.le_succ _)
  have kk : ∀ b o, hp.get? b = some o → ((hp.push (PySem.W.kdv_tup us)).push (PySem.HandSPX.excO C hp.objs.size)).get? b = some o := by
    intro b o e
    exact Heap.get?_push_of_some _ (Heap.get?_push_of_some _ e)
  have hget : ((hp.push (PySem.W.kdv_tup us)).push (PySem.HandSPX.excO C hp.objs.size)).get? (hp.objs.size + 1) = some (PySem.HandSPX.excO C hp.objs.size) := by
    heap_get
  have I2 := I1.laid (t' := tk) (a := hp.objs.size + 1) (o := exo (hp.objs.size + 1) C none) kk (Nat.le_succ _) (exo_ok hget)
  have hus : us.length ≤ sizeLine := by
    rw [← Paired.length r1, sizeLine_eq]
    omega
  have hq := q1 (hp.objs.size + 1) hn
  have r2 : Vals (V.ref (hp.objs.size + 1) :: vs) (Value.ref (hp.objs.size + 1) :: us) := .cons rfl r1
  have hl : (Value.ref (hp.objs.size + 1) :: us).length = ps.length := r2.length.symm.trans (F1.len _ _ _ _ hq)
  have hbb := hb _ (Value.ref (hp.objs.size + 1) :: us) I2.kIn (by simpa using hl)
  rw [List.append_nil] at hbb
  refine wpAny_call (PySem.HandSPX.call_own F.excBase_ValueError (fun Y => PySem.HandSPX.refsVE_contains Y bm hbm) (I1.kIn _ _ hC)
    (PySem.W.looks_findIn I1.kIn iC) (fun self => PySem.W.bind_fn I1.kIn self tI) hus ?_)
  refine codeAny_mono (F1.run _ X.stack _ _ ⟨_, []⟩ _ _ _ _ (hr.make C us []) (I2.env0.make C us []) hbb r2 hq) ?_
  rintro (er | fl) s' hq'
  · exact (show False from hq').elim
  · cases fl with
    | ret u =>
      obtain ⟨v, H', I3, rv, ev, q3⟩ := I2.after hq'
      subst ev
      exact ⟨rv, V.ref (hp.objs.size + 1), H', I3, rfl, q3⟩
    | next => exact (show False from hq').elim
    | brk => exact (show False from hq').elim
    | cont => exact (show False from hq').elim
/-- C(n = e), as a value -/
theorem pe_oexK {kn : Str} {kws : List Keyword} {t : TA} (T : OexC X.K C) (iC : PySem.W.findIn X.K (.ref C) "__init__" = some (some (.ref fI))) (tI : PySem.W.typeIn X.K (.ref fI) = some (.type "function"))
    (F1 : FnOk X.prog X.w X.K X.mg X.base C8.CX0 k fI fd ps sp) (hr : Room (k + 1) X.A) (hlen : ∀ vs H Q E, sp vs H Q E → vs.length = 2)
    (hb : ∀ (s : Shared) (a : Addr) (u : Value), X.K.In s.heap → BindsTo s fd ⟨[.ref a], [(kn, u)]⟩ (ps.zip [.ref a, u])) (hg : Gl X x) (hm : X.mg x = some (.ref C)) (hkw : PK X kws t)
    (hall : (backToKw pos (keywordEach kws X.env)).all (·.1.isSome) = true := by rfl) (hks : (backToKw pos (keywordEach kws X.env)).filterMap (·.1) = [kn] := by rfl)
    (hdb : (x == ("__debug__" : Str)) = false := by decide)
    (hpl : ((backTo pos (starEach [] X.env)).any (·.1) || (backToKw pos (keywordEach kws X.env)).any (·.1.isNone)) = false := by rfl) :
    PE X (.Call (.Name x p) [] kws pos) (tMkV C sp t) := by
  obtain ⟨nm, q, N, bs, bm, sn, sub, ab, col, dd, k0, k1, k2, k3, k5, hC, hbm⟩ := T.cls
  refine ⟨?_⟩
  intro pins s σ H Q I h
  refine wpAny_Call_Name_kw (ld_glob I hg hm ?_ hdb)
  refine PySem.W.callWith_KW0 (h₀ := X.base) I.ok.mod.kin T.kC hall (thn (hkw.run pos pins s σ H _ I h) ?_) hpl
  rintro us s1 ⟨vs, H1, I1, r1, hz, q1⟩
  refine ⟨I1.kIn, ?_⟩
  rw [hks]
  obtain ⟨hp, g, dr, tk, os⟩ := s1
  have hn : H1 (hp.objs.size + 1) = none := I1.hok.fresh (Nat.le_succ _)
  have hq := q1 (hp.objs.size + 1) hn
  have hl2 := hlen _ _ _ _ hq
  match vs, us, r1, hl2, hq with
  | [v], _, .cons (b := u) ru .nil, _, hq =>
    show wpAny _ _ (call (.ref C) [] [(kn, u)])
      _ _ _
    have kk : ∀ b o, hp.get? b = some o → ((hp.push (PySem.W.kdv_tup [])).push (PySem.HandSPX.excO C hp.objs.size)).get? b = some o := by
      intro b o e
      exact Heap.get?_push_of_some _ (Heap.get?_push_of_some _ e)
    have hget : ((hp.push (PySem.W.kdv_tup [])).push (PySem.HandSPX.excO C hp.objs.size)).get? (hp.objs.size + 1) = some (PySem.HandSPX.excO C hp.objs.size) := by
      heap_get
    have I2 := I1.laid (t' := tk) (a := hp.objs.size + 1) (o := exo (hp.objs.size + 1) C none) kk (Nat.le_succ _) (exo_ok hget)
    have r2 : Vals [V.ref (hp.objs.size + 1), v] [Value.ref (hp.objs.size + 1), u] := .cons rfl (.cons ru .nil)
    have hbb := hb _ (hp.objs.size + 1) u I2.kIn
    refine wpAny_call (PySem.FrX.call_kw F.excBase_ValueError (fun Y => PySem.HandSPX.refsVE_contains Y bm hbm) (I1.kIn _ _ hC)
      (PySem.W.looks_findIn I1.kIn iC) (fun self => PySem.W.bind_fn I1.kIn self tI) (Nat.zero_le _) ?_)
    refine codeAny_mono (F1.run _ X.stack _ _ ⟨_, _⟩ _ _ _ _ (hr.make C [] [(kn, u)]) (I2.env0.make C [] [(kn, u)]) hbb r2 hq) ?_
    rintro (er | fl) s' hq'
    · exact (show False from hq').elim
    · cases fl with
      | ret u' =>
        obtain ⟨v', H', I3, rv, ev, q3⟩ := I2.after hq'
        subst ev
        exact ⟨rv, V.ref (hp.objs.size + 1), H', I3, rfl, q3⟩
      | next => exact (show False from hq').elim
      | brk => exact (show False from hq').elim
      | cont => exact (show False from hq').elim
end
end Fr
namespace Fr
open PySem PySem.Spec PyProof.Rows L2
/-! ### data, a dict perhaps -/
inductive Dx (K : Frag) (H : Hp) : V → PyData → Prop
  | dp {v : V} {d : PyData} : Dp K H v d → d.hasDict = false → Dx K H v d
  | emp {a : Addr} : H a = some (.dK []) → Dx K H (.ref a) (.dict [])
  | one {a t : Addr} {x : Str} {ns : List Int} : H a = some (.dK [(Sum.inr x, .ref t)]) → H t = some (.tup (ns.map V.int)) → Dx K H (.ref a) (.dict [(.str x, .tuple (ns.map PyData.int))])
theorem Dx.same {K : Frag} {H H' : Hp} {v : V} {d : PyData} (x : Dx K H v d) (s : Same H H') : Dx K H' v d := by
  cases x with
  | dp h n => exact .dp (dp_same s h) n
  | emp h => exact .emp (s _ _ h)
  | one h t => exact .one (s _ _ h) (s _ _ t)
section
variable {X : Cx} {pins : List (Addr × Obj)} {σ : L2.St} {H : Hp} {s : Shared}
theorem dict_ne {P : Program} {w : World} {h : Heap} {a : Addr} {kvs : List (Key × V)} (ok : HOk P w H h) (e : H a = some (.dK kvs)) : a ≠ sysModules := by
  obtain ⟨_, z, _⟩ := ok a _ e
  exact beq_eq_false_iff_ne.mp z
theorem reads_ints {h : Heap} : ∀ {ns : List Int} {its : List Value}, Vals (ns.map V.int) its → ReadsAll h its (ns.map PyData.int) []
  | [], _, .nil => .nil
  | n :: r, _, .cons ⟨t, e⟩ q => by
    subst e
    exact ReadsAll.cons (as := []) (bs := []) (.int n t) (reads_ints q)
theorem Dx.reads (I : Inv X pins σ H s) {v : V} {d : PyData} {u : Value} (x : Dx X.K H v d) (r : RelV v u) : ∃ as, Reads s.heap u d as ∧ (d.hasDict = true → sysModules ∉ as) := by
  cases x with
  | dp h n =>
    obtain ⟨as, q⟩ := Dp.reads I d v u h r
    exact ⟨as, q, fun z => by rw [n] at z; cases z⟩
  | @emp a h =>
    cases r
    have hne := dict_ne I.hok h
    obtain ⟨_, _, vs, kv, o, es, ep, ho, hx, hd, hk, hp, hn⟩ := I.hok a _ h
    cases kv
    have e : es.toList = [] := by
      cases q : es.toList with
      | nil => rfl
      | cons y r =>
        rw [q] at hp
        cases hp
    refine ⟨_, .dict (as := []) (bs := []) ho hx.1 hd ?_ ?_, fun _ z => ?_⟩
    · rw [e]
      exact .nil
    · rw [e]
      exact .nil
    · simp at z
      exact hne z.symm
  | @one a t x ns h ht =>
    cases r
    have hne := dict_ne I.hok h
    obtain ⟨its, rv, ⟨ot, hot, hct, nt, hdt⟩, _⟩ := I.tuple (.inl (.inl ht))
    obtain ⟨_, _, vs, kv, o, es, ep, ho, hx, hd, hk, hp, hn⟩ := I.hok a _ h
    cases kv with
    | @cons _ q _ _ e1 e2 =>
      cases e2
      obtain ⟨qk, qv⟩ := q
      obtain ⟨e3, e4⟩ := e1
      dsimp only at e3 e4
      subst e3
      cases e4
      generalize hes : es.toList = el at hp
      cases hp with
      | @cons en _ es' _ h1 h2 h3 =>
        cases h3
        rcases keyIs_shape (show keyIs (Sum.inr x) en.key = true from h1) with ⟨i, tk, z, _⟩ | ⟨y, tk, z, e5⟩
        · cases z
        · cases z
          dsimp only at h2
          refine ⟨_, .dict (as := []) (bs := []) ho hx.1 hd ?_ ?_, fun _ z => ?_⟩
          · rw [hes]
            show ReadsAll _ [en.key] [.str x] ([] ++ [])
            rw [e5]
            exact .cons (.str x tk) .nil
          · rw [hes]
            show ReadsAll _ [en.val] [.tuple (ns.map PyData.int)] ([] ++ [])
            rw [h2]
            exact .cons (.tuple hot hct hdt (reads_ints rv)) .nil
          · simp at z
            exact hne z.symm
/-- [x, y], a new list; its place is not that of the modules' own dict -/
def tLst' (t : TA) : TE := fun σ H Q => t σ H fun xs H1 => xs.length ≤ sizeLine ∧ ∀ p, H1 p = none → p ≠ sysModules → Q (.ref p) (upd H1 p (.lst xs))
theorem pe_lst' {es : List Expr} {t : TA} {pos : Pos} (h : PA X es t) : PE X (.List es pos) (tLst' t) := by
  refine ⟨?_⟩
  intro pins s σ H Q I hq
  refine wpAny_List_spliced (thn (h.run pos pins s σ H _ I hq) ?_)
  rintro us s1 ⟨xs, H1, I1, r, z, q⟩
  refine ⟨by rw [← r.length]; exact z, ?_⟩
  have hb := I1.big
  have hf : H1 s1.heap.objs.size = none := I1.hok.fresh (Nat.le_refl _)
  refine ⟨.ref s1.heap.objs.size, _, I1.laid (t' := s1.toks) (o := .lst xs) ?_ (Nat.le_refl _) ?_, rfl, q _ hf (Nat.ne_of_gt hb)⟩
  · intro b u e
    exact Heap.get?_push_of_some _ e
  · exact ⟨z, us, 0, r, Heap.get?_push_size _ rfl⟩
/-- repr([x, y]) -/
def rRepr2 (K : Frag) : List V → Hp → VK → Prop := fun xs H Q => ∃ (p : Addr) (x y : V) (d : PyData), xs = [.ref p] ∧ H p = some (.lst [x, y]) ∧ p ≠ sysModules ∧ Dx K H x d ∧ Dx K H y d ∧
  (PyData.list [d, d]).showable = true ∧ (PyData.list [d, d]).depth ≤ 60 ∧ (PyData.list [d, d]).shown.length ≤ sizeLine ∧ Q (.str (PyData.list [d, d]).shown) H
theorem call_repr2 (hgu : X.A.guards = some []) (hu : X.A.units + 64 < cLine) : CallR X (.builtin "repr") (rRepr2 X.K) := by
  intro pins s σ H xs us Q I r h
  obtain ⟨p, x, y, d, rfl, hp, hne, hx, hy, hs, hdp, hsz, q⟩ := h
  cases r with
  | cons rx rr =>
    cases rr
    cases rx
    obtain ⟨its, rv, ⟨o, n, ho, hc, _, hd⟩, _⟩ := I.list (.inl (.inl hp))
    cases rv with
    | cons r1 r2 =>
      cases r2 with
      | cons r2 r3 =>
        cases r3
        obtain ⟨a1, q1, n1⟩ := Dx.reads I hx r1
        obtain ⟨a2, q2, n2⟩ := Dx.reads I hy r2
        have hr : Reads s.heap (.ref p) (.list [d, d]) (p :: (a1 ++ (a2 ++ []))) := .list ho hc hd (.cons q1 (.cons q2 .nil))
        refine PySem.repr_of_reads' hr hs (fun z => ?_) hgu (by omega) (fun _ _ z => z) ?_ hsz
        · have zd : d.hasDict = true := by simpa [PyData.hasDict, PyData.hasDictAll] using z
          intro m
          rcases List.mem_cons.mp m with m | m
          · exact hne m.symm
          · rcases List.mem_append.mp m with m | m
            · exact n1 zd m
            · rcases List.mem_append.mp m with m | m
              · exact n2 zd m
              · cases m
        · intro h' u tk k
          exact ⟨.str (PyData.list [d, d]).shown, H, I.kept (t' := tk) k, ⟨u, rfl⟩, q⟩
end
end Fr
namespace Fr
open PySem PySem.Spec PyProof.Rows L2
abbrev veBase : List Value := [.type "ValueError", .type "Exception", .type "BaseException", .type "object"]
/-- what the top has written of the errors: c tells where the classes stand, in the sequence of the law's own list, behind them FlatError -/
structure Cs (K : Frag) (mg : Str → Option Value) (c f : Nat → Addr) : Prop where
  g0 : mg "BadPrime" = some (.ref (c 0))
  g1 : mg "BadLot" = some (.ref (c 1))
  g2 : mg "BadThing" = some (.ref (c 2))
  g3 : mg "BadTable" = some (.ref (c 3))
  g4 : mg "BadSum" = some (.ref (c 4))
  g5 : mg "BadDeed" = some (.ref (c 5))
  g6 : mg "BadLive" = some (.ref (c 6))
  g7 : mg "BadName" = some (.ref (c 7))
  g8 : mg "BadStart" = some (.ref (c 8))
  g9 : mg "NothingLeft" = some (.ref (c 9))
  g10 : mg "BadRow" = some (.ref (c 10))
  g11 : mg "BadTower" = some (.ref (c 11))
  g12 : mg "BadWeights" = some (.ref (c 12))
  g13 : mg "BadNumber" = some (.ref (c 13))
  g14 : mg "BadBook" = some (.ref (c 14))
  g15 : mg "TooMany" = some (.ref (c 15))
  g16 : mg "BadText" = some (.ref (c 16))
  g17 : mg "NoWatch" = some (.ref (c 17))
  g18 : mg "FlatError" = some (.ref (c 18))
  kits : ∀ i, i < 19 → ∀ j, j < 18 → PySem.W.kitOne K (.ref (c i)) (.ref (c j)) = some (decide (i = j))
  kitF : ∀ i, i < 19 → PySem.W.kitOne K (.ref (c i)) (.ref (c 18)) = some true
  kitV : ∀ i, i < 19 → PySem.W.kitOne K (.ref (c i)) (.type "ValueError") = some true
  ex : ∀ i, i < 19 → ExcC K (c i)
  plain : ∀ i, i < 19 → ¬ (13 ≤ i ∧ i < 18) → PySem.W.excIn K (c i) veBase "ValueError.__new__" = true ∧ PySem.W.keepIn K (.ref (c i)) = true
  own : ∀ i, 13 ≤ i → i < 18 → OexC K (c i) ∧ XfC K (c i)
  n13 : PySem.W.findIn K (.ref (c 13)) "part" = some none
  i13 : PySem.W.findIn K (.ref (c 13)) "__init__" = some (some (.ref (f 13)))
  t13 : PySem.W.typeIn K (.ref (f 13)) = some (.type "function")
  n14 : PySem.W.findIn K (.ref (c 14)) "part" = some none
  i14 : PySem.W.findIn K (.ref (c 14)) "__init__" = some (some (.ref (f 14)))
  t14 : PySem.W.typeIn K (.ref (f 14)) = some (.type "function")
  n15 : PySem.W.findIn K (.ref (c 15)) "most" = some none
  i15 : PySem.W.findIn K (.ref (c 15)) "__init__" = some (some (.ref (f 15)))
  t15 : PySem.W.typeIn K (.ref (f 15)) = some (.type "function")
  n16 : PySem.W.findIn K (.ref (c 16)) "at" = some none
  i16 : PySem.W.findIn K (.ref (c 16)) "__init__" = some (some (.ref (f 16)))
  t16 : PySem.W.typeIn K (.ref (f 16)) = some (.type "function")
  n17 : PySem.W.findIn K (.ref (c 17)) "name" = some none
  i17 : PySem.W.findIn K (.ref (c 17)) "__init__" = some (some (.ref (f 17)))
  t17 : PySem.W.typeIn K (.ref (f 17)) = some (.type "function")
structure Bk (mg : Str → Option Value) : Prop extends Bi mg where
  isinstance : mg "isinstance" = none
  repr : mg "repr" = none
  range : mg "range" = none
  enumerate : mg "enumerate" = none
  valueError : mg "ValueError" = none
/-! ### __init__ -/
def spInit (C : Addr) (n : Str) : Sp := fun vs H Q _ => ∃ (a : Addr) (v : V), vs = [.ref a, v] ∧ H a = some (exo a C none) ∧
  ∀ dx, H dx = none → dx ≠ a → Q .non (upd (upd H dx (exd dx [(n, v)])) a (exo a C (some dx)))
section
variable {P : Program} {w : World} {K : Frag} {mg : Str → Option Value} {base : Heap} {c f : Nat → Addr}
def s_init13 : Stmt := (C8.clsBody (topS 7)).getD 0 (.Pass ⟨0, 0, 0, 0⟩)
theorem sc_init13 : FnScope ["self", "part"] ["self", "part"] (C8.fnScope s_init13) := C8.fnScope_by (by decide +kernel)
theorem ok_init13 {fd : FuncData} (F : C8.Fun K "__init__" "BadNumber.__init__" s_init13 (f 13) fd) (T : Cs K mg c f) : FnOk P w K mg base C8.CX0 1 (f 13) fd ["self", "part"] (spInit (c 13) "part") := by
  have sc := sc_init13
  refine C8.fn0 F sc (fun vs H Q E h => ?_) (fun cdv A outer s H vs Q E hr h => ?_)
  · obtain ⟨_, _, rfl, _⟩ := h
    rfl
  · obtain ⟨a, v, rfl, ha, k⟩ := h
    refine ⟨_, pss_one (ps_ost (pv 0) (pv 1)), ?_⟩
    exact ⟨_, rfl, _, rfl, a, c 13, rfl, (T.own 13 (by decide) (by decide)).1, T.n13, .inl ⟨ha, fun dx n ne => k dx n ne⟩⟩
def s_init14 : Stmt := (C8.clsBody (topS 2)).getD 0 (.Pass ⟨0, 0, 0, 0⟩)
theorem sc_init14 : FnScope ["self", "part"] ["self", "part"] (C8.fnScope s_init14) := C8.fnScope_by (by decide +kernel)
theorem ok_init14 {fd : FuncData} (F : C8.Fun K "__init__" "BadBook.__init__" s_init14 (f 14) fd) (T : Cs K mg c f) : FnOk P w K mg base C8.CX0 1 (f 14) fd ["self", "part"] (spInit (c 14) "part") := by
  have sc := sc_init14
  refine C8.fn0 F sc (fun vs H Q E h => ?_) (fun cdv A outer s H vs Q E hr h => ?_)
  · obtain ⟨_, _, rfl, _⟩ := h
    rfl
  · obtain ⟨a, v, rfl, ha, k⟩ := h
    refine ⟨_, pss_one (ps_ost (pv 0) (pv 1)), ?_⟩
    exact ⟨_, rfl, _, rfl, a, c 14, rfl, (T.own 14 (by decide) (by decide)).1, T.n14, .inl ⟨ha, fun dx n ne => k dx n ne⟩⟩
def s_init15 : Stmt := (C8.clsBody (topS 19)).getD 0 (.Pass ⟨0, 0, 0, 0⟩)
theorem sc_init15 : FnScope ["self", "most"] ["self", "most"] (C8.fnScope s_init15) := C8.fnScope_by (by decide +kernel)
theorem ok_init15 {fd : FuncData} (F : C8.Fun K "__init__" "TooMany.__init__" s_init15 (f 15) fd) (T : Cs K mg c f) : FnOk P w K mg base C8.CX0 1 (f 15) fd ["self", "most"] (spInit (c 15) "most") := by
  have sc := sc_init15
  refine C8.fn0 F sc (fun vs H Q E h => ?_) (fun cdv A outer s H vs Q E hr h => ?_)
  · obtain ⟨_, _, rfl, _⟩ := h
    rfl
  · obtain ⟨a, v, rfl, ha, k⟩ := h
    refine ⟨_, pss_one (ps_ost (pv 0) (pv 1)), ?_⟩
    exact ⟨_, rfl, _, rfl, a, c 15, rfl, (T.own 15 (by decide) (by decide)).1, T.n15, .inl ⟨ha, fun dx n ne => k dx n ne⟩⟩
def s_init16 : Stmt := (C8.clsBody (topS 13)).getD 0 (.Pass ⟨0, 0, 0, 0⟩)
theorem sc_init16 : FnScope ["self", "at"] ["self", "at"] (C8.fnScope s_init16) := C8.fnScope_by (by decide +kernel)
theorem ok_init16 {fd : FuncData} (F : C8.Fun K "__init__" "BadText.__init__" s_init16 (f 16) fd) (T : Cs K mg c f) : FnOk P w K mg base C8.CX0 1 (f 16) fd ["self", "at"] (spInit (c 16) "at") := by
  have sc := sc_init16
  refine C8.fn0 F sc (fun vs H Q E h => ?_) (fun cdv A outer s H vs Q E hr h => ?_)
  · obtain ⟨_, _, rfl, _⟩ := h
    rfl
  · obtain ⟨a, v, rfl, ha, k⟩ := h
    refine ⟨_, pss_one (ps_ost (pv 0) (pv 1)), ?_⟩
    exact ⟨_, rfl, _, rfl, a, c 16, rfl, (T.own 16 (by decide) (by decide)).1, T.n16, .inl ⟨ha, fun dx n ne => k dx n ne⟩⟩
def s_init17 : Stmt := (C8.clsBody (topS 17)).getD 0 (.Pass ⟨0, 0, 0, 0⟩)
theorem sc_init17 : FnScope ["self", "name"] ["self", "name"] (C8.fnScope s_init17) := C8.fnScope_by (by decide +kernel)
theorem ok_init17 {fd : FuncData} (F : C8.Fun K "__init__" "NoWatch.__init__" s_init17 (f 17) fd) (T : Cs K mg c f) : FnOk P w K mg base C8.CX0 1 (f 17) fd ["self", "name"] (spInit (c 17) "name") := by
  have sc := sc_init17
  refine C8.fn0 F sc (fun vs H Q E h => ?_) (fun cdv A outer s H vs Q E hr h => ?_)
  · obtain ⟨_, _, rfl, _⟩ := h
    rfl
  · obtain ⟨a, v, rfl, ha, k⟩ := h
    refine ⟨_, pss_one (ps_ost (pv 0) (pv 1)), ?_⟩
    exact ⟨_, rfl, _, rfl, a, c 17, rfl, (T.own 17 (by decide) (by decide)).1, T.n17, .inl ⟨ha, fun dx n ne => k dx n ne⟩⟩
/-! ### the kinds of an error -/
def spKinds (K : Frag) (c : Nat → Addr) : Sp := fun vs H Q _ => ∃ (a : Addr) (i : Nat) (d : Option Addr), vs = [.ref a] ∧ i < 19 ∧ XV H a (c i) d ∧ (∀ dd, d = some dd → ∃ fs, XD H dd fs) ∧
  ∀ p H', H p = none → Same H H' → H' p = some (.lst ((List.range 18).map fun j => V.bl (decide (i = j)))) → Q (.ref p) H'
abbrev s_law_kinds : Stmt := topS 26
theorem sc_law_kinds : FnScope ["error", "found"] ["error"] (C8.fnScope s_law_kinds) := C8.fnScope_by (by decide +kernel)
theorem xd_same {H H' : Hp} {d : Option Addr} (s : Same H H') (h : ∀ dd, d = some dd → ∃ fs, XD H dd fs) : ∀ dd, d = some dd → ∃ fs, XD H' dd fs := fun dd e => by
  obtain ⟨fs, x⟩ := h dd e
  exact ⟨fs, x.same s⟩
theorem kinds_round {a p0 : Addr} {i : Nat} {d : Option Addr} {xs : List V} {c1 c2 c3 : Addr} {b1 b2 b3 : Bool} {H0 : Hp} {D : Ends} {Ci : Addr} (hi : i < 19) (hx : XV H0 a Ci d) (hd : ∀ dd, d = some dd → ∃ fs, XD H0 dd fs) (T0 : ExcC K Ci)
    (k1 : PySem.W.kitOne K (.ref Ci) (.ref c1) = some b1) (k2 : PySem.W.kitOne K (.ref Ci) (.ref c2) = some b2) (k3 : PySem.W.kitOne K (.ref Ci) (.ref c3) = some b3) (e0 : H0 p0 = some (.lst xs)) (hz : xs.length + 3 ≤ sizeLine)
    (h : ∀ p H', H0 p = none → Same H0 H' → H' p = some (.lst (xs ++ [.bl b1, .bl b2, .bl b3])) → D.nx [some (.ref a), some (.ref p)] H') :
    tAsg (tOp rCat (tVar 1) (tLst (tCons (tCB (rIsX K) (tCons (tVar 0) (tCons (tC (.ref c1)) tNil))) (tCons (tCB (rIsX K) (tCons (tVar 0) (tCons (tC (.ref c2)) tNil))) (tCons (tCB (rIsX K) (tCons (tVar 0) (tCons (tC (.ref c3)) tNil))) tNil))))) (gName 1)
      D [some (.ref a), some (.ref p0)] H0 := by
  refine ⟨_, rfl, _, rfl, a, Ci, d, .ref c1, .ref c1, b1, rfl, hx, hd, T0, fun u r => r, k1, _, rfl, a, Ci, d, .ref c2, .ref c2, b2, rfl, hx, hd, T0, fun u r => r, k2, _, rfl, a, Ci, d, .ref c3, .ref c3, b3, rfl, hx, hd, T0, fun u r => r, k3, by show 3 ≤ sizeLine; decide, fun q m => ?_⟩
  have ne : p0 ≠ q := ne_of_none e0 m
  refine ⟨p0, q, _, _, rfl, rfl, by rw [upd_ne ne]; exact e0, upd_same, hz, fun p n => ?_⟩
  exact h p _ ((same_upd m).free n) ((same_upd m).trans (same_upd n)) upd_same
theorem ok_law_kinds {fa : Addr} {fd : FuncData} (F : C8.Def K mg "_law_kinds" s_law_kinds fa fd) (b : Binds K fd ["error"] []) (B : Bk mg) (T : Cs K mg c f) :
    C8.Cal P w K mg base 1 "_law_kinds" (spKinds K c) [] := by
  have sc := sc_law_kinds
  refine C8.cal0 F b .nil sc (fun vs H Q E h => ?_) (fun cdv A outer s H vs Q E hr h => ?_)
  · obtain ⟨_, _, _, rfl, _⟩ := h
    rfl
  · obtain ⟨a, i, d, rfl, hi, hx, hd, k⟩ := h
    have T0 := T.ex i hi
    refine ⟨_, pss_cons (ps_set (i := 1) sc.nd rfl (by first | exact Or.inl rfl | exact Or.inr rfl) (pe_lst pa_nil))
      (pss_cons (ps_set (i := 1) sc.nd rfl (by first | exact Or.inl rfl | exact Or.inr rfl) (pe_op op_cat (pv 1) (pe_lst (pa_cons (pe_callB call_isX (by rfl) B.isinstance (by decide +kernel) (pa_cons (pv 0) (pa_cons (pe_glob (v := .ref (c 0)) rfl T.g0 rfl) pa_nil))) (pa_cons (pe_callB call_isX (by rfl) B.isinstance (by decide +kernel) (pa_cons (pv 0) (pa_cons (pe_glob (v := .ref (c 1)) rfl T.g1 rfl) pa_nil))) (pa_cons (pe_callB call_isX (by rfl) B.isinstance (by decide +kernel) (pa_cons (pv 0) (pa_cons (pe_glob (v := .ref (c 2)) rfl T.g2 rfl) pa_nil))) pa_nil))))))
      (pss_cons (ps_set (i := 1) sc.nd rfl (by first | exact Or.inl rfl | exact Or.inr rfl) (pe_op op_cat (pv 1) (pe_lst (pa_cons (pe_callB call_isX (by rfl) B.isinstance (by decide +kernel) (pa_cons (pv 0) (pa_cons (pe_glob (v := .ref (c 3)) rfl T.g3 rfl) pa_nil))) (pa_cons (pe_callB call_isX (by rfl) B.isinstance (by decide +kernel) (pa_cons (pv 0) (pa_cons (pe_glob (v := .ref (c 4)) rfl T.g4 rfl) pa_nil))) (pa_cons (pe_callB call_isX (by rfl) B.isinstance (by decide +kernel) (pa_cons (pv 0) (pa_cons (pe_glob (v := .ref (c 5)) rfl T.g5 rfl) pa_nil))) pa_nil))))))
      (pss_cons (ps_set (i := 1) sc.nd rfl (by first | exact Or.inl rfl | exact Or.inr rfl) (pe_op op_cat (pv 1) (pe_lst (pa_cons (pe_callB call_isX (by rfl) B.isinstance (by decide +kernel) (pa_cons (pv 0) (pa_cons (pe_glob (v := .ref (c 6)) rfl T.g6 rfl) pa_nil))) (pa_cons (pe_callB call_isX (by rfl) B.isinstance (by decide +kernel) (pa_cons (pv 0) (pa_cons (pe_glob (v := .ref (c 7)) rfl T.g7 rfl) pa_nil))) (pa_cons (pe_callB call_isX (by rfl) B.isinstance (by decide +kernel) (pa_cons (pv 0) (pa_cons (pe_glob (v := .ref (c 8)) rfl T.g8 rfl) pa_nil))) pa_nil))))))
      (pss_cons (ps_set (i := 1) sc.nd rfl (by first | exact Or.inl rfl | exact Or.inr rfl) (pe_op op_cat (pv 1) (pe_lst (pa_cons (pe_callB call_isX (by rfl) B.isinstance (by decide +kernel) (pa_cons (pv 0) (pa_cons (pe_glob (v := .ref (c 9)) rfl T.g9 rfl) pa_nil))) (pa_cons (pe_callB call_isX (by rfl) B.isinstance (by decide +kernel) (pa_cons (pv 0) (pa_cons (pe_glob (v := .ref (c 10)) rfl T.g10 rfl) pa_nil))) (pa_cons (pe_callB call_isX (by rfl) B.isinstance (by decide +kernel) (pa_cons (pv 0) (pa_cons (pe_glob (v := .ref (c 11)) rfl T.g11 rfl) pa_nil))) pa_nil))))))
      (pss_cons (ps_set (i := 1) sc.nd rfl (by first | exact Or.inl rfl | exact Or.inr rfl) (pe_op op_cat (pv 1) (pe_lst (pa_cons (pe_callB call_isX (by rfl) B.isinstance (by decide +kernel) (pa_cons (pv 0) (pa_cons (pe_glob (v := .ref (c 12)) rfl T.g12 rfl) pa_nil))) (pa_cons (pe_callB call_isX (by rfl) B.isinstance (by decide +kernel) (pa_cons (pv 0) (pa_cons (pe_glob (v := .ref (c 13)) rfl T.g13 rfl) pa_nil))) (pa_cons (pe_callB call_isX (by rfl) B.isinstance (by decide +kernel) (pa_cons (pv 0) (pa_cons (pe_glob (v := .ref (c 14)) rfl T.g14 rfl) pa_nil))) pa_nil))))))
      (pss_cons (ps_set (i := 1) sc.nd rfl (by first | exact Or.inl rfl | exact Or.inr rfl) (pe_op op_cat (pv 1) (pe_lst (pa_cons (pe_callB call_isX (by rfl) B.isinstance (by decide +kernel) (pa_cons (pv 0) (pa_cons (pe_glob (v := .ref (c 15)) rfl T.g15 rfl) pa_nil))) (pa_cons (pe_callB call_isX (by rfl) B.isinstance (by decide +kernel) (pa_cons (pv 0) (pa_cons (pe_glob (v := .ref (c 16)) rfl T.g16 rfl) pa_nil))) (pa_cons (pe_callB call_isX (by rfl) B.isinstance (by decide +kernel) (pa_cons (pv 0) (pa_cons (pe_glob (v := .ref (c 17)) rfl T.g17 rfl) pa_nil))) pa_nil))))))
      (pss_one (ps_ret (pv 1))))))))), ?_⟩
    refine ⟨by show 0 ≤ sizeLine; decide, fun p0 n0 => ?_⟩
    refine kinds_round (xs := (List.range 0).map fun j => V.bl (decide (i = j))) hi (hx.same (same_upd n0)) (xd_same (same_upd n0) hd) T0 (T.kits i hi 0 (by decide)) (T.kits i hi 1 (by decide)) (T.kits i hi 2 (by decide)) upd_same (by show 3 ≤ sizeLine; decide) fun p1 H1 m1 r1 e1 => ?_
    have s1 := (same_upd n0).trans r1
    refine kinds_round (xs := (List.range 3).map fun j => V.bl (decide (i = j))) hi (hx.same s1) (xd_same s1 hd) T0 (T.kits i hi 3 (by decide)) (T.kits i hi 4 (by decide)) (T.kits i hi 5 (by decide)) e1 (by show 6 ≤ sizeLine; decide) fun p2 H2 m2 r2 e2 => ?_
    have s2 := s1.trans r2
    refine kinds_round (xs := (List.range 6).map fun j => V.bl (decide (i = j))) hi (hx.same s2) (xd_same s2 hd) T0 (T.kits i hi 6 (by decide)) (T.kits i hi 7 (by decide)) (T.kits i hi 8 (by decide)) e2 (by show 9 ≤ sizeLine; decide) fun p3 H3 m3 r3 e3 => ?_
    have s3 := s2.trans r3
    refine kinds_round (xs := (List.range 9).map fun j => V.bl (decide (i = j))) hi (hx.same s3) (xd_same s3 hd) T0 (T.kits i hi 9 (by decide)) (T.kits i hi 10 (by decide)) (T.kits i hi 11 (by decide)) e3 (by show 12 ≤ sizeLine; decide) fun p4 H4 m4 r4 e4 => ?_
    have s4 := s3.trans r4
    refine kinds_round (xs := (List.range 12).map fun j => V.bl (decide (i = j))) hi (hx.same s4) (xd_same s4 hd) T0 (T.kits i hi 12 (by decide)) (T.kits i hi 13 (by decide)) (T.kits i hi 14 (by decide)) e4 (by show 15 ≤ sizeLine; decide) fun p5 H5 m5 r5 e5 => ?_
    have s5 := s4.trans r5
    refine kinds_round (xs := (List.range 15).map fun j => V.bl (decide (i = j))) hi (hx.same s5) (xd_same s5 hd) T0 (T.kits i hi 15 (by decide)) (T.kits i hi 16 (by decide)) (T.kits i hi 17 (by decide)) e5 (by show 18 ≤ sizeLine; decide) fun p6 H6 m6 r6 e6 => ?_
    have s6 := s5.trans r6
    exact ⟨_, rfl, k p6 H6 (s5.free m6) s6 e6⟩
end
end Fr
namespace Fr
open PySem PySem.Spec PyProof.Rows L2
abbrev s_law_plain_errors : Stmt := topS 27
theorem sc_law_plain_errors : FnScope ["words_here", "found"] ["words_here"] (C8.fnScope s_law_plain_errors) := C8.fnScope_by (by decide +kernel)
/-- the errors at these places, of these classes, one by one -/
inductive Errs (c : Nat → Addr) (H : Hp) : Nat → List Addr → Prop
  | nil : Errs c H 0 []
  | snoc {n : Nat} {as : List Addr} {a : Addr} : Errs c H n as → XV H a (c n) none → Errs c H (n + 1) (as ++ [a])
theorem Errs.same {c : Nat → Addr} {H H' : Hp} (s : Same H H') : ∀ {n : Nat} {as : List Addr}, Errs c H n as → Errs c H' n as
  | _, _, .nil => .nil
  | _, _, .snoc h x => .snoc (h.same s) (x.same s)
theorem Errs.len {c : Nat → Addr} {H : Hp} : ∀ {n : Nat} {as : List Addr}, Errs c H n as → as.length = n
  | _, _, .nil => rfl
  | _, _, .snoc h x => by rw [List.length_append, h.len]; rfl
def spPlain (c : Nat → Addr) : Sp := fun vs H Q _ => ∃ v, vs = [v] ∧ ∀ p as H', H p = none → Same H H' → H' p = some (.lst (as.map V.ref)) → Errs c H' 13 as → Q (.ref p) H'
theorem exo_new {H : Hp} {a C : Addr} : XV (upd H a (ExO (.ref C) a)) a C none := .inr (.inr ⟨rfl, upd_same⟩)
/-- X(e), a plain error's reading -/
abbrev tExc (C : Addr) (ta : TE) : TE := fun σ H Q => ta σ H fun _ H1 => ∀ a, H1 a = none → Q (.ref a) (upd H1 a (ExO (.ref C) a))
theorem exc_at {C : Addr} {i : Nat} {σ : L2.St} {v : V} {H : Hp} {Q : VK} (h0 : σ[i]? = some (some v)) (h : ∀ a H', H a = none → Same H H' → XV H' a C none → Q (.ref a) H') : tExc C (tVar i) σ H Q :=
  ⟨v, h0, fun a na => h a _ na (same_upd na) exo_new⟩
section
variable {P : Program} {w : World} {K : Frag} {mg : Str → Option Value} {base : Heap} {c f : Nat → Addr}
theorem plain_end {p0 : Addr} {as bs : List Addr} {v : V} {H0 H1 : Hp} {D : Ends} (e0 : H0 p0 = some (.lst (as.map V.ref))) (s : Same H0 H1) (hz : as.length + bs.length ≤ sizeLine) (hb : bs.length ≤ 10)
    (h : ∀ p H', H0 p = none → Same H1 H' → H' p = some (.lst ((as ++ bs).map V.ref)) → D.nx [some v, some (.ref p)] H') :
    (bs.map V.ref).length ≤ sizeLine ∧ ∀ q, H1 q = none → rCat (.ref p0) (.ref q) (upd H1 q (.lst (bs.map V.ref))) fun x H2 => gName 1 x [some v, some (.ref p0)] H2 D.nx := by
  refine ⟨by rw [List.length_map]; exact Nat.le_trans hb (by decide), fun q m => ?_⟩
  have ne : p0 ≠ q := ne_of_none (s _ _ e0) m
  refine ⟨p0, q, _, _, rfl, rfl, by rw [upd_ne ne]; exact s _ _ e0, upd_same, by rw [List.length_map, List.length_map]; exact hz, fun p n => ?_⟩
  refine h p _ (s.free ((same_upd m).free n)) ((same_upd m).trans (same_upd n)) ?_
  rw [upd_same, List.map_append]
theorem ok_law_plain_errors {fa : Addr} {fd : FuncData} (F : C8.Def K mg "_law_plain_errors" s_law_plain_errors fa fd) (b : Binds K fd ["words_here"] []) (T : Cs K mg c f) :
    C8.Cal P w K mg base 1 "_law_plain_errors" (spPlain c) [] := by
  have sc := sc_law_plain_errors
  refine C8.cal0 F b .nil sc (fun vs H Q E h => ?_) (fun cdv A outer s H vs Q E hr h => ?_)
  · obtain ⟨_, rfl, _⟩ := h
    rfl
  · obtain ⟨v, rfl, k⟩ := h
    refine ⟨_, pss_cons (ps_set (i := 1) sc.nd rfl (by first | exact Or.inl rfl | exact Or.inr rfl) (pe_lst pa_nil))
      (pss_cons (ps_set (i := 1) sc.nd rfl (by first | exact Or.inl rfl | exact Or.inr rfl) (pe_op op_cat (pv 1) (pe_lst (pa_cons (pe_exc1 PySem.F.excBase_ValueError (T.plain 0 (by decide) (by decide)).1 T.g0 (T.plain 0 (by decide) (by decide)).2 rfl (pv 0)) (pa_cons (pe_exc1 PySem.F.excBase_ValueError (T.plain 1 (by decide) (by decide)).1 T.g1 (T.plain 1 (by decide) (by decide)).2 rfl (pv 0)) (pa_cons (pe_exc1 PySem.F.excBase_ValueError (T.plain 2 (by decide) (by decide)).1 T.g2 (T.plain 2 (by decide) (by decide)).2 rfl (pv 0)) (pa_cons (pe_exc1 PySem.F.excBase_ValueError (T.plain 3 (by decide) (by decide)).1 T.g3 (T.plain 3 (by decide) (by decide)).2 rfl (pv 0)) pa_nil)))))))
      (pss_cons (ps_set (i := 1) sc.nd rfl (by first | exact Or.inl rfl | exact Or.inr rfl) (pe_op op_cat (pv 1) (pe_lst (pa_cons (pe_exc1 PySem.F.excBase_ValueError (T.plain 4 (by decide) (by decide)).1 T.g4 (T.plain 4 (by decide) (by decide)).2 rfl (pv 0)) (pa_cons (pe_exc1 PySem.F.excBase_ValueError (T.plain 5 (by decide) (by decide)).1 T.g5 (T.plain 5 (by decide) (by decide)).2 rfl (pv 0)) (pa_cons (pe_exc1 PySem.F.excBase_ValueError (T.plain 6 (by decide) (by decide)).1 T.g6 (T.plain 6 (by decide) (by decide)).2 rfl (pv 0)) (pa_cons (pe_exc1 PySem.F.excBase_ValueError (T.plain 7 (by decide) (by decide)).1 T.g7 (T.plain 7 (by decide) (by decide)).2 rfl (pv 0)) pa_nil)))))))
      (pss_cons (ps_set (i := 1) sc.nd rfl (by first | exact Or.inl rfl | exact Or.inr rfl) (pe_op op_cat (pv 1) (pe_lst (pa_cons (pe_exc1 PySem.F.excBase_ValueError (T.plain 8 (by decide) (by decide)).1 T.g8 (T.plain 8 (by decide) (by decide)).2 rfl (pv 0)) (pa_cons (pe_exc1 PySem.F.excBase_ValueError (T.plain 9 (by decide) (by decide)).1 T.g9 (T.plain 9 (by decide) (by decide)).2 rfl (pv 0)) (pa_cons (pe_exc1 PySem.F.excBase_ValueError (T.plain 10 (by decide) (by decide)).1 T.g10 (T.plain 10 (by decide) (by decide)).2 rfl (pv 0)) (pa_cons (pe_exc1 PySem.F.excBase_ValueError (T.plain 11 (by decide) (by decide)).1 T.g11 (T.plain 11 (by decide) (by decide)).2 rfl (pv 0)) pa_nil)))))))
      (pss_cons (ps_set (i := 1) sc.nd rfl (by first | exact Or.inl rfl | exact Or.inr rfl) (pe_op op_cat (pv 1) (pe_lst (pa_cons (pe_exc1 PySem.F.excBase_ValueError (T.plain 12 (by decide) (by decide)).1 T.g12 (T.plain 12 (by decide) (by decide)).2 rfl (pv 0)) pa_nil))))
      (pss_one (ps_ret (pv 1))))))), ?_⟩
    refine ⟨by show 0 ≤ sizeLine; decide, fun p0 n0 => ?_⟩
    have E0 : Errs c (upd H p0 (.lst [])) 0 [] := .nil
    have e0 : (upd H p0 (.lst [])) p0 = some (.lst (([] : List Addr).map V.ref)) := upd_same
    refine ⟨_, rfl, _, rfl, ?_⟩
    refine fun a0 m0 => ?_
    obtain ⟨s0, x0⟩ : Same (upd H p0 (.lst [])) (upd (upd H p0 (.lst [])) a0 (ExO (.ref (c 0)) a0)) ∧ XV (upd (upd H p0 (.lst [])) a0 (ExO (.ref (c 0)) a0)) a0 (c 0) none := ⟨same_upd m0, exo_new⟩
    generalize upd (upd H p0 (.lst [])) a0 (ExO (.ref (c 0)) a0) = G0 at s0 x0 ⊢
    refine ⟨_, rfl, ?_⟩
    refine fun a1 m1 => ?_
    obtain ⟨s1, x1⟩ : Same G0 (upd G0 a1 (ExO (.ref (c 1)) a1)) ∧ XV (upd G0 a1 (ExO (.ref (c 1)) a1)) a1 (c 1) none := ⟨same_upd m1, exo_new⟩
    generalize upd G0 a1 (ExO (.ref (c 1)) a1) = G1 at s1 x1 ⊢
    refine ⟨_, rfl, ?_⟩
    refine fun a2 m2 => ?_
    obtain ⟨s2, x2⟩ : Same G1 (upd G1 a2 (ExO (.ref (c 2)) a2)) ∧ XV (upd G1 a2 (ExO (.ref (c 2)) a2)) a2 (c 2) none := ⟨same_upd m2, exo_new⟩
    generalize upd G1 a2 (ExO (.ref (c 2)) a2) = G2 at s2 x2 ⊢
    refine ⟨_, rfl, ?_⟩
    refine fun a3 m3 => ?_
    obtain ⟨s3, x3⟩ : Same G2 (upd G2 a3 (ExO (.ref (c 3)) a3)) ∧ XV (upd G2 a3 (ExO (.ref (c 3)) a3)) a3 (c 3) none := ⟨same_upd m3, exo_new⟩
    generalize upd G2 a3 (ExO (.ref (c 3)) a3) = G3 at s3 x3 ⊢
    refine plain_end (as := []) (bs := [a0, a1, a2, a3]) e0 (((s0.trans s1).trans s2).trans s3) (by show 4 ≤ sizeLine; decide) (by show 4 ≤ 10; decide) fun p1 H1 m1_ r1 e1 => ?_
    have T1 := (same_upd n0).trans ((((s0.trans s1).trans s2).trans s3).trans r1)
    have E1 : Errs c H1 4 [a0, a1, a2, a3] := (Errs.snoc (Errs.snoc (Errs.snoc (Errs.snoc (E0.same ((((s0.trans s1).trans s2).trans s3).trans r1)) (x0.same (s1.trans (s2.trans (s3.trans r1))))) (x1.same (s2.trans (s3.trans r1)))) (x2.same (s3.trans r1))) (x3.same r1))
    refine ⟨_, rfl, _, rfl, ?_⟩
    refine fun a4 m4 => ?_
    obtain ⟨s4, x4⟩ : Same H1 (upd H1 a4 (ExO (.ref (c 4)) a4)) ∧ XV (upd H1 a4 (ExO (.ref (c 4)) a4)) a4 (c 4) none := ⟨same_upd m4, exo_new⟩
    generalize upd H1 a4 (ExO (.ref (c 4)) a4) = G4 at s4 x4 ⊢
    refine ⟨_, rfl, ?_⟩
    refine fun a5 m5 => ?_
    obtain ⟨s5, x5⟩ : Same G4 (upd G4 a5 (ExO (.ref (c 5)) a5)) ∧ XV (upd G4 a5 (ExO (.ref (c 5)) a5)) a5 (c 5) none := ⟨same_upd m5, exo_new⟩
    generalize upd G4 a5 (ExO (.ref (c 5)) a5) = G5 at s5 x5 ⊢
    refine ⟨_, rfl, ?_⟩
    refine fun a6 m6 => ?_
    obtain ⟨s6, x6⟩ : Same G5 (upd G5 a6 (ExO (.ref (c 6)) a6)) ∧ XV (upd G5 a6 (ExO (.ref (c 6)) a6)) a6 (c 6) none := ⟨same_upd m6, exo_new⟩
    generalize upd G5 a6 (ExO (.ref (c 6)) a6) = G6 at s6 x6 ⊢
    refine ⟨_, rfl, ?_⟩
    refine fun a7 m7 => ?_
    obtain ⟨s7, x7⟩ : Same G6 (upd G6 a7 (ExO (.ref (c 7)) a7)) ∧ XV (upd G6 a7 (ExO (.ref (c 7)) a7)) a7 (c 7) none := ⟨same_upd m7, exo_new⟩
    generalize upd G6 a7 (ExO (.ref (c 7)) a7) = G7 at s7 x7 ⊢
    refine plain_end (as := [a0, a1, a2, a3]) (bs := [a4, a5, a6, a7]) e1 (((s4.trans s5).trans s6).trans s7) (by show 8 ≤ sizeLine; decide) (by show 4 ≤ 10; decide) fun p2 H2 m2_ r2 e2 => ?_
    have T2 := T1.trans ((((s4.trans s5).trans s6).trans s7).trans r2)
    have E2 : Errs c H2 8 [a0, a1, a2, a3, a4, a5, a6, a7] := (Errs.snoc (Errs.snoc (Errs.snoc (Errs.snoc (E1.same ((((s4.trans s5).trans s6).trans s7).trans r2)) (x4.same (s5.trans (s6.trans (s7.trans r2))))) (x5.same (s6.trans (s7.trans r2)))) (x6.same (s7.trans r2))) (x7.same r2))
    refine ⟨_, rfl, _, rfl, ?_⟩
    refine fun a8 m8 => ?_
    obtain ⟨s8, x8⟩ : Same H2 (upd H2 a8 (ExO (.ref (c 8)) a8)) ∧ XV (upd H2 a8 (ExO (.ref (c 8)) a8)) a8 (c 8) none := ⟨same_upd m8, exo_new⟩
    generalize upd H2 a8 (ExO (.ref (c 8)) a8) = G8 at s8 x8 ⊢
    refine ⟨_, rfl, ?_⟩
    refine fun a9 m9 => ?_
    obtain ⟨s9, x9⟩ : Same G8 (upd G8 a9 (ExO (.ref (c 9)) a9)) ∧ XV (upd G8 a9 (ExO (.ref (c 9)) a9)) a9 (c 9) none := ⟨same_upd m9, exo_new⟩
    generalize upd G8 a9 (ExO (.ref (c 9)) a9) = G9 at s9 x9 ⊢
    refine ⟨_, rfl, ?_⟩
    refine fun a10 m10 => ?_
    obtain ⟨s10, x10⟩ : Same G9 (upd G9 a10 (ExO (.ref (c 10)) a10)) ∧ XV (upd G9 a10 (ExO (.ref (c 10)) a10)) a10 (c 10) none := ⟨same_upd m10, exo_new⟩
    generalize upd G9 a10 (ExO (.ref (c 10)) a10) = G10 at s10 x10 ⊢
    refine ⟨_, rfl, ?_⟩
    refine fun a11 m11 => ?_
    obtain ⟨s11, x11⟩ : Same G10 (upd G10 a11 (ExO (.ref (c 11)) a11)) ∧ XV (upd G10 a11 (ExO (.ref (c 11)) a11)) a11 (c 11) none := ⟨same_upd m11, exo_new⟩
    generalize upd G10 a11 (ExO (.ref (c 11)) a11) = G11 at s11 x11 ⊢
    refine plain_end (as := [a0, a1, a2, a3, a4, a5, a6, a7]) (bs := [a8, a9, a10, a11]) e2 (((s8.trans s9).trans s10).trans s11) (by show 12 ≤ sizeLine; decide) (by show 4 ≤ 10; decide) fun p3 H3 m3_ r3 e3 => ?_
    have T3 := T2.trans ((((s8.trans s9).trans s10).trans s11).trans r3)
    have E3 : Errs c H3 12 [a0, a1, a2, a3, a4, a5, a6, a7, a8, a9, a10, a11] := (Errs.snoc (Errs.snoc (Errs.snoc (Errs.snoc (E2.same ((((s8.trans s9).trans s10).trans s11).trans r3)) (x8.same (s9.trans (s10.trans (s11.trans r3))))) (x9.same (s10.trans (s11.trans r3)))) (x10.same (s11.trans r3))) (x11.same r3))
    refine ⟨_, rfl, _, rfl, ?_⟩
    refine fun a12 m12 => ?_
    obtain ⟨s12, x12⟩ : Same H3 (upd H3 a12 (ExO (.ref (c 12)) a12)) ∧ XV (upd H3 a12 (ExO (.ref (c 12)) a12)) a12 (c 12) none := ⟨same_upd m12, exo_new⟩
    generalize upd H3 a12 (ExO (.ref (c 12)) a12) = G12 at s12 x12 ⊢
    refine plain_end (as := [a0, a1, a2, a3, a4, a5, a6, a7, a8, a9, a10, a11]) (bs := [a12]) e3 s12 (by show 13 ≤ sizeLine; decide) (by show 1 ≤ 10; decide) fun p4 H4 m4_ r4 e4 => ?_
    have T4 := T3.trans (s12.trans r4)
    have E4 : Errs c H4 13 [a0, a1, a2, a3, a4, a5, a6, a7, a8, a9, a10, a11, a12] := (Errs.snoc (E3.same (s12.trans r4)) (x12.same r4))
    exact ⟨_, rfl, k p4 _ H4 (T3.free m4_) T4 e4 E4⟩
/-! ### the errors with an attribute -/
abbrev s_law_errors_of : Stmt := topS 28
theorem sc_law_errors_of : FnScope ["each", "found"] ["each"] (C8.fnScope s_law_errors_of) := C8.fnScope_by (by decide +kernel)
theorem mkh {H : Hp} {a d C : Addr} {n : Str} {v : V} (na : H a = none) (nd : (upd H a (exo a C none)) d = none) (ne : d ≠ a) :
    Same H (upd (upd (upd H a (exo a C none)) d (exd d [(n, v)])) a (exo a C (some d))) ∧ XV (upd (upd (upd H a (exo a C none)) d (exd d [(n, v)])) a (exo a C (some d))) a C (some d) ∧
      XD (upd (upd (upd H a (exo a C none)) d (exd d [(n, v)])) a (exo a C (some d))) d [(n, v)] := by
  have s1 : Same H (upd H a (exo a C none)) := same_upd na
  refine ⟨fun b o e => ?_, .inr (.inl upd_same), .inr ?_⟩
  · have hb : b ≠ a := ne_of_none e na
    rw [upd_ne hb, upd_ne (ne_of_none (s1 _ _ e) nd), upd_ne hb]
    exact e
  · rw [upd_ne ne, upd_same]
/-- at t: an error of the class at C, and twice the value that it was made of -/
def Three (H : Hp) (C : Addr) (v : V) (t : Addr) : Prop := ∃ e d fs, H t = some (.tup [.ref e, v, v]) ∧ XV H e C (some d) ∧ XD H d fs
theorem Three.same {H H' : Hp} {C : Addr} {v : V} {t : Addr} (s : Same H H') (h : Three H C v t) : Three H' C v t := by
  obtain ⟨e, d, fs, h1, h2, h3⟩ := h
  exact ⟨e, d, fs, s _ _ h1, h2.same s, h3.same s⟩
def spErrs (c : Nat → Addr) : Sp := fun vs H Q _ => ∃ v, vs = [v] ∧ ∀ p t0 t1 t2 t3 t4 H', H p = none → Same H H' → H' p = some (.lst ([t0, t1, t2, t3, t4].map V.ref)) →
  Three H' (c 13) v t0 → Three H' (c 14) v t1 → Three H' (c 15) v t2 → Three H' (c 16) v t3 → Three H' (c 17) v t4 → Q (.ref p) H'
structure In5 (P : Program) (w : World) (K : Frag) (mg : Str → Option Value) (base : Heap) (c f : Nat → Addr) (fd : Nat → FuncData) : Prop where
  ok13 : FnOk P w K mg base C8.CX0 1 (f 13) (fd 13) ["self", "part"] (spInit (c 13) "part")
  b13 : Binds K (fd 13) ["self", "part"] []
  k13 : ∀ (s : Shared) (a : Addr) (u : Value), K.In s.heap → BindsTo s (fd 13) ⟨[.ref a], [(("part" : Str), u)]⟩ ((["self", "part"] : List Str).zip [.ref a, u])
  ok14 : FnOk P w K mg base C8.CX0 1 (f 14) (fd 14) ["self", "part"] (spInit (c 14) "part")
  b14 : Binds K (fd 14) ["self", "part"] []
  k14 : ∀ (s : Shared) (a : Addr) (u : Value), K.In s.heap → BindsTo s (fd 14) ⟨[.ref a], [(("part" : Str), u)]⟩ ((["self", "part"] : List Str).zip [.ref a, u])
  ok15 : FnOk P w K mg base C8.CX0 1 (f 15) (fd 15) ["self", "most"] (spInit (c 15) "most")
  b15 : Binds K (fd 15) ["self", "most"] []
  k15 : ∀ (s : Shared) (a : Addr) (u : Value), K.In s.heap → BindsTo s (fd 15) ⟨[.ref a], [(("most" : Str), u)]⟩ ((["self", "most"] : List Str).zip [.ref a, u])
  ok16 : FnOk P w K mg base C8.CX0 1 (f 16) (fd 16) ["self", "at"] (spInit (c 16) "at")
  b16 : Binds K (fd 16) ["self", "at"] []
  k16 : ∀ (s : Shared) (a : Addr) (u : Value), K.In s.heap → BindsTo s (fd 16) ⟨[.ref a], [(("at" : Str), u)]⟩ ((["self", "at"] : List Str).zip [.ref a, u])
  ok17 : FnOk P w K mg base C8.CX0 1 (f 17) (fd 17) ["self", "name"] (spInit (c 17) "name")
  b17 : Binds K (fd 17) ["self", "name"] []
  k17 : ∀ (s : Shared) (a : Addr) (u : Value), K.In s.heap → BindsTo s (fd 17) ⟨[.ref a], [(("name" : Str), u)]⟩ ((["self", "name"] : List Str).zip [.ref a, u])
theorem init_len {C : Addr} {n : Str} : ∀ vs H Q E, spInit C n vs H Q E → vs.length = 2 := fun vs H Q E h => by
  obtain ⟨_, _, rfl, _⟩ := h
  rfl
/-- a list that stands at p grows: what is told of the errors stays -/
theorem three_off {H H' : Hp} {p : Addr} {xs : List V} {C : Addr} {v : V} {t : Addr} (e : H p = some (.lst xs)) (u : ∀ b o, b ≠ p → H b = some o → H' b = some o) (h : Three H C v t) : Three H' C v t := by
  obtain ⟨x, d, fs, h1, h2, h3⟩ := h
  have off : ∀ b o, H b = some o → o ≠ .lst xs → H' b = some o := fun b o q n => u b o (fun z => n (by rw [z, e] at q; exact (Option.some.inj q).symm)) q
  refine ⟨x, d, fs, off _ _ h1 (fun z => nomatch z), ?_, ?_⟩
  · rcases h2 with h2 | h2 | ⟨z, h2⟩
    · exact .inl (off _ _ h2 (fun z => nomatch (show HO.ext _ = HO.lst xs from z)))
    · exact .inr (.inl (off _ _ h2 (fun z => nomatch (show HO.ext _ = HO.lst xs from z))))
    · exact .inr (.inr ⟨z, off _ _ h2 (fun z => nomatch (show HO.ext _ = HO.lst xs from z))⟩)
  · rcases h3 with h3 | h3
    · exact .inl (off _ _ h3 (fun z => nomatch z))
    · exact .inr (off _ _ h3 (fun z => nomatch (show HO.ext _ = HO.lst xs from z)))
theorem ok_law_errors_of {fa : Addr} {fd : FuncData} {fds : Nat → FuncData} (F : C8.Def K mg "_law_errors_of" s_law_errors_of fa fd) (b : Binds K fd ["each"] []) (T : Cs K mg c f) (I5 : In5 P w K mg base c f fds) :
    C8.Cal P w K mg base 3 "_law_errors_of" (spErrs c) [] := by
  have sc := sc_law_errors_of
  refine C8.cal0 F b .nil sc (fun vs H Q E h => ?_) (fun cdv A outer s H vs Q E hr h => ?_)
  · obtain ⟨_, rfl, _⟩ := h
    rfl
  · obtain ⟨v, rfl, k⟩ := h
    refine ⟨_, pss_cons (ps_set (i := 1) sc.nd rfl (by first | exact Or.inl rfl | exact Or.inr rfl) (pe_lst pa_nil))
      (pss_cons (ps_expr (pe_bm PySem.F.plainAttrs_list PySem.F.slot_list_append PySem.F.type_list_append mt_append (pv 1) (pa_cons (pe_tup (pa_cons (pe_oexV (T.own 13 (by decide) (by decide)).1 T.i13 T.t13 I5.ok13 (hr.mono (by decide)) I5.b13 rfl T.g13 (pa_cons (pv 0) pa_nil)) (pa_cons (pe_xv (pe_oexV (T.own 13 (by decide) (by decide)).1 T.i13 T.t13 I5.ok13 (hr.mono (by decide)) I5.b13 rfl T.g13 (pa_cons (pv 0) pa_nil))) (pa_cons (pe_xv (pe_oexK (kn := "part") (T.own 13 (by decide) (by decide)).1 T.i13 T.t13 I5.ok13 (hr.mono (by decide)) init_len I5.k13 rfl T.g13 (pk_cons (pv 0) pk_nil))) pa_nil)))) pa_nil)))
      (pss_cons (ps_expr (pe_bm PySem.F.plainAttrs_list PySem.F.slot_list_append PySem.F.type_list_append mt_append (pv 1) (pa_cons (pe_tup (pa_cons (pe_oexV (T.own 14 (by decide) (by decide)).1 T.i14 T.t14 I5.ok14 (hr.mono (by decide)) I5.b14 rfl T.g14 (pa_cons (pv 0) pa_nil)) (pa_cons (pe_xv (pe_oexV (T.own 14 (by decide) (by decide)).1 T.i14 T.t14 I5.ok14 (hr.mono (by decide)) I5.b14 rfl T.g14 (pa_cons (pv 0) pa_nil))) (pa_cons (pe_xv (pe_oexK (kn := "part") (T.own 14 (by decide) (by decide)).1 T.i14 T.t14 I5.ok14 (hr.mono (by decide)) init_len I5.k14 rfl T.g14 (pk_cons (pv 0) pk_nil))) pa_nil)))) pa_nil)))
      (pss_cons (ps_expr (pe_bm PySem.F.plainAttrs_list PySem.F.slot_list_append PySem.F.type_list_append mt_append (pv 1) (pa_cons (pe_tup (pa_cons (pe_oexV (T.own 15 (by decide) (by decide)).1 T.i15 T.t15 I5.ok15 (hr.mono (by decide)) I5.b15 rfl T.g15 (pa_cons (pv 0) pa_nil)) (pa_cons (pe_xv (pe_oexV (T.own 15 (by decide) (by decide)).1 T.i15 T.t15 I5.ok15 (hr.mono (by decide)) I5.b15 rfl T.g15 (pa_cons (pv 0) pa_nil))) (pa_cons (pe_xv (pe_oexK (kn := "most") (T.own 15 (by decide) (by decide)).1 T.i15 T.t15 I5.ok15 (hr.mono (by decide)) init_len I5.k15 rfl T.g15 (pk_cons (pv 0) pk_nil))) pa_nil)))) pa_nil)))
      (pss_cons (ps_expr (pe_bm PySem.F.plainAttrs_list PySem.F.slot_list_append PySem.F.type_list_append mt_append (pv 1) (pa_cons (pe_tup (pa_cons (pe_oexV (T.own 16 (by decide) (by decide)).1 T.i16 T.t16 I5.ok16 (hr.mono (by decide)) I5.b16 rfl T.g16 (pa_cons (pv 0) pa_nil)) (pa_cons (pe_xv (pe_oexV (T.own 16 (by decide) (by decide)).1 T.i16 T.t16 I5.ok16 (hr.mono (by decide)) I5.b16 rfl T.g16 (pa_cons (pv 0) pa_nil))) (pa_cons (pe_xv (pe_oexK (kn := "at") (T.own 16 (by decide) (by decide)).1 T.i16 T.t16 I5.ok16 (hr.mono (by decide)) init_len I5.k16 rfl T.g16 (pk_cons (pv 0) pk_nil))) pa_nil)))) pa_nil)))
      (pss_cons (ps_expr (pe_bm PySem.F.plainAttrs_list PySem.F.slot_list_append PySem.F.type_list_append mt_append (pv 1) (pa_cons (pe_tup (pa_cons (pe_oexV (T.own 17 (by decide) (by decide)).1 T.i17 T.t17 I5.ok17 (hr.mono (by decide)) I5.b17 rfl T.g17 (pa_cons (pv 0) pa_nil)) (pa_cons (pe_xv (pe_oexV (T.own 17 (by decide) (by decide)).1 T.i17 T.t17 I5.ok17 (hr.mono (by decide)) I5.b17 rfl T.g17 (pa_cons (pv 0) pa_nil))) (pa_cons (pe_xv (pe_oexK (kn := "name") (T.own 17 (by decide) (by decide)).1 T.i17 T.t17 I5.ok17 (hr.mono (by decide)) init_len I5.k17 rfl T.g17 (pk_cons (pv 0) pk_nil))) pa_nil)))) pa_nil)))
      (pss_one (ps_ret (pv 1)))))))), ?_⟩
    refine ⟨by show 0 ≤ sizeLine; decide, fun p0 n0 => ?_⟩
    have e0 : (upd H p0 (.lst [])) p0 = some (.lst (([] : List Addr).map V.ref)) := upd_same
    have q0 : ∀ b o, b ≠ p0 → H b = some o → (upd H p0 (.lst [])) b = some o := fun b o _ e => same_upd n0 b o e
    refine ⟨.ref p0, rfl, .inl ⟨rfl, _, .inl (.inl e0)⟩, ?_⟩
    refine ⟨_, rfl, (by show 1 ≤ 1000; decide), fun a0 na0 => ⟨a0, v, rfl, upd_same, fun d0 ndd0 ned0 => ⟨rfl, ?_⟩⟩⟩
    obtain ⟨sa0, xa0, ya0⟩ := mkh (C := c 13) (n := "part") (v := v) na0 ndd0 ned0
    generalize upd (upd (upd (upd H p0 (.lst [])) a0 (exo a0 (c 13) none)) d0 (exd d0 [("part", v)])) a0 (exo a0 (c 13) (some d0)) = G0 at sa0 xa0 ya0 ⊢
    refine ⟨_, rfl, (by show 1 ≤ 1000; decide), fun b0 nb0 => ⟨b0, v, rfl, upd_same, fun db0 nddb0 nedb0 => ⟨rfl, ?_⟩⟩⟩
    obtain ⟨sb0, xb0, yb0⟩ := mkh (C := c 13) (n := "part") (v := v) nb0 nddb0 nedb0
    generalize upd (upd (upd G0 b0 (exo b0 (c 13) none)) db0 (exd db0 [("part", v)])) b0 (exo b0 (c 13) (some db0)) = K0 at sb0 xb0 yb0 ⊢
    refine ⟨b0, _, db0, _, v, rfl, xb0, yb0, (T.own 13 (by decide) (by decide)).2, T.n13, by rfl, ?_⟩
    refine ⟨_, rfl, (by show 1 ≤ 1000; decide), fun cc0 ncc0 => ⟨cc0, v, rfl, upd_same, fun dc0 nddc0 nedc0 => ⟨rfl, ?_⟩⟩⟩
    obtain ⟨scc0, xcc0, ycc0⟩ := mkh (C := c 13) (n := "part") (v := v) ncc0 nddc0 nedc0
    generalize upd (upd (upd K0 cc0 (exo cc0 (c 13) none)) dc0 (exd dc0 [("part", v)])) cc0 (exo cc0 (c 13) (some dc0)) = L0 at scc0 xcc0 ycc0 ⊢
    refine ⟨cc0, _, dc0, _, v, rfl, xcc0, ycc0, (T.own 13 (by decide) (by decide)).2, T.n13, by rfl, ?_⟩
    refine ⟨by show 3 ≤ sizeLine; decide, fun t0 nt0 => ?_⟩
    have z0 := (sa0.trans (sb0.trans scc0)).trans (same_upd nt0 (o := .tup [.ref a0, v, v]))
    refine ⟨p0, _, _, rfl, rfl, z0 _ _ e0, by show 0 < sizeLine; decide, ?_⟩
    have y0 : Three (upd L0 t0 (.tup [.ref a0, v, v])) (c 13) v t0 := ⟨a0, d0, _, upd_same, (xa0.same (sb0.trans scc0)).same (same_upd nt0), (ya0.same (sb0.trans scc0)).same (same_upd nt0)⟩
    have u0 : ∀ b o, b ≠ p0 → (upd L0 t0 (.tup [.ref a0, v, v])) b = some o → (upd (upd L0 t0 (.tup [.ref a0, v, v])) p0 (.lst (List.map V.ref [] ++ [V.ref t0]))) b = some o := fun b o n e => by rw [upd_ne n]; exact e
    have Y0 := three_off (z0 _ _ e0) u0 y0
    have e1 : (upd (upd L0 t0 (.tup [.ref a0, v, v])) p0 (.lst (List.map V.ref [] ++ [V.ref t0]))) p0 = some (.lst ([t0].map V.ref)) := upd_same
    have q1 : ∀ b o, b ≠ p0 → H b = some o → (upd (upd L0 t0 (.tup [.ref a0, v, v])) p0 (.lst (List.map V.ref [] ++ [V.ref t0]))) b = some o := fun b o n e => u0 b o n (z0 _ _ (q0 b o n e))
    generalize (upd (upd L0 t0 (.tup [.ref a0, v, v])) p0 (.lst (List.map V.ref [] ++ [V.ref t0]))) = N1 at Y0 e1 q1 ⊢
    refine ⟨.ref p0, rfl, .inl ⟨rfl, _, .inl (.inl e1)⟩, ?_⟩
    refine ⟨_, rfl, (by show 1 ≤ 1000; decide), fun a1 na1 => ⟨a1, v, rfl, upd_same, fun d1 ndd1 ned1 => ⟨rfl, ?_⟩⟩⟩
    obtain ⟨sa1, xa1, ya1⟩ := mkh (C := c 14) (n := "part") (v := v) na1 ndd1 ned1
    generalize upd (upd (upd N1 a1 (exo a1 (c 14) none)) d1 (exd d1 [("part", v)])) a1 (exo a1 (c 14) (some d1)) = G1 at sa1 xa1 ya1 ⊢
    refine ⟨_, rfl, (by show 1 ≤ 1000; decide), fun b1 nb1 => ⟨b1, v, rfl, upd_same, fun db1 nddb1 nedb1 => ⟨rfl, ?_⟩⟩⟩
    obtain ⟨sb1, xb1, yb1⟩ := mkh (C := c 14) (n := "part") (v := v) nb1 nddb1 nedb1
    generalize upd (upd (upd G1 b1 (exo b1 (c 14) none)) db1 (exd db1 [("part", v)])) b1 (exo b1 (c 14) (some db1)) = K1 at sb1 xb1 yb1 ⊢
    refine ⟨b1, _, db1, _, v, rfl, xb1, yb1, (T.own 14 (by decide) (by decide)).2, T.n14, by rfl, ?_⟩
    refine ⟨_, rfl, (by show 1 ≤ 1000; decide), fun cc1 ncc1 => ⟨cc1, v, rfl, upd_same, fun dc1 nddc1 nedc1 => ⟨rfl, ?_⟩⟩⟩
    obtain ⟨scc1, xcc1, ycc1⟩ := mkh (C := c 14) (n := "part") (v := v) ncc1 nddc1 nedc1
    generalize upd (upd (upd K1 cc1 (exo cc1 (c 14) none)) dc1 (exd dc1 [("part", v)])) cc1 (exo cc1 (c 14) (some dc1)) = L1 at scc1 xcc1 ycc1 ⊢
    refine ⟨cc1, _, dc1, _, v, rfl, xcc1, ycc1, (T.own 14 (by decide) (by decide)).2, T.n14, by rfl, ?_⟩
    refine ⟨by show 3 ≤ sizeLine; decide, fun t1 nt1 => ?_⟩
    have z1 := (sa1.trans (sb1.trans scc1)).trans (same_upd nt1 (o := .tup [.ref a1, v, v]))
    refine ⟨p0, _, _, rfl, rfl, z1 _ _ e1, by show 1 < sizeLine; decide, ?_⟩
    have y1 : Three (upd L1 t1 (.tup [.ref a1, v, v])) (c 14) v t1 := ⟨a1, d1, _, upd_same, (xa1.same (sb1.trans scc1)).same (same_upd nt1), (ya1.same (sb1.trans scc1)).same (same_upd nt1)⟩
    have u1 : ∀ b o, b ≠ p0 → (upd L1 t1 (.tup [.ref a1, v, v])) b = some o → (upd (upd L1 t1 (.tup [.ref a1, v, v])) p0 (.lst (List.map V.ref [t0] ++ [V.ref t1]))) b = some o := fun b o n e => by rw [upd_ne n]; exact e
    have Y1 := three_off (z1 _ _ e1) u1 y1
    have Y0 := three_off (z1 _ _ e1) u1 (Y0.same z1)
    have e2 : (upd (upd L1 t1 (.tup [.ref a1, v, v])) p0 (.lst (List.map V.ref [t0] ++ [V.ref t1]))) p0 = some (.lst ([t0, t1].map V.ref)) := upd_same
    have q2 : ∀ b o, b ≠ p0 → H b = some o → (upd (upd L1 t1 (.tup [.ref a1, v, v])) p0 (.lst (List.map V.ref [t0] ++ [V.ref t1]))) b = some o := fun b o n e => u1 b o n (z1 _ _ (q1 b o n e))
    generalize (upd (upd L1 t1 (.tup [.ref a1, v, v])) p0 (.lst (List.map V.ref [t0] ++ [V.ref t1]))) = N2 at Y0 Y1 e2 q2 ⊢
    refine ⟨.ref p0, rfl, .inl ⟨rfl, _, .inl (.inl e2)⟩, ?_⟩
    refine ⟨_, rfl, (by show 1 ≤ 1000; decide), fun a2 na2 => ⟨a2, v, rfl, upd_same, fun d2 ndd2 ned2 => ⟨rfl, ?_⟩⟩⟩
    obtain ⟨sa2, xa2, ya2⟩ := mkh (C := c 15) (n := "most") (v := v) na2 ndd2 ned2
    generalize upd (upd (upd N2 a2 (exo a2 (c 15) none)) d2 (exd d2 [("most", v)])) a2 (exo a2 (c 15) (some d2)) = G2 at sa2 xa2 ya2 ⊢
    refine ⟨_, rfl, (by show 1 ≤ 1000; decide), fun b2 nb2 => ⟨b2, v, rfl, upd_same, fun db2 nddb2 nedb2 => ⟨rfl, ?_⟩⟩⟩
    obtain ⟨sb2, xb2, yb2⟩ := mkh (C := c 15) (n := "most") (v := v) nb2 nddb2 nedb2
    generalize upd (upd (upd G2 b2 (exo b2 (c 15) none)) db2 (exd db2 [("most", v)])) b2 (exo b2 (c 15) (some db2)) = K2 at sb2 xb2 yb2 ⊢
    refine ⟨b2, _, db2, _, v, rfl, xb2, yb2, (T.own 15 (by decide) (by decide)).2, T.n15, by rfl, ?_⟩
    refine ⟨_, rfl, (by show 1 ≤ 1000; decide), fun cc2 ncc2 => ⟨cc2, v, rfl, upd_same, fun dc2 nddc2 nedc2 => ⟨rfl, ?_⟩⟩⟩
    obtain ⟨scc2, xcc2, ycc2⟩ := mkh (C := c 15) (n := "most") (v := v) ncc2 nddc2 nedc2
    generalize upd (upd (upd K2 cc2 (exo cc2 (c 15) none)) dc2 (exd dc2 [("most", v)])) cc2 (exo cc2 (c 15) (some dc2)) = L2 at scc2 xcc2 ycc2 ⊢
    refine ⟨cc2, _, dc2, _, v, rfl, xcc2, ycc2, (T.own 15 (by decide) (by decide)).2, T.n15, by rfl, ?_⟩
    refine ⟨by show 3 ≤ sizeLine; decide, fun t2 nt2 => ?_⟩
    have z2 := (sa2.trans (sb2.trans scc2)).trans (same_upd nt2 (o := .tup [.ref a2, v, v]))
    refine ⟨p0, _, _, rfl, rfl, z2 _ _ e2, by show 2 < sizeLine; decide, ?_⟩
    have y2 : Three (upd L2 t2 (.tup [.ref a2, v, v])) (c 15) v t2 := ⟨a2, d2, _, upd_same, (xa2.same (sb2.trans scc2)).same (same_upd nt2), (ya2.same (sb2.trans scc2)).same (same_upd nt2)⟩
    have u2 : ∀ b o, b ≠ p0 → (upd L2 t2 (.tup [.ref a2, v, v])) b = some o → (upd (upd L2 t2 (.tup [.ref a2, v, v])) p0 (.lst (List.map V.ref [t0, t1] ++ [V.ref t2]))) b = some o := fun b o n e => by rw [upd_ne n]; exact e
    have Y2 := three_off (z2 _ _ e2) u2 y2
    have Y0 := three_off (z2 _ _ e2) u2 (Y0.same z2)
    have Y1 := three_off (z2 _ _ e2) u2 (Y1.same z2)
    have e3 : (upd (upd L2 t2 (.tup [.ref a2, v, v])) p0 (.lst (List.map V.ref [t0, t1] ++ [V.ref t2]))) p0 = some (.lst ([t0, t1, t2].map V.ref)) := upd_same
    have q3 : ∀ b o, b ≠ p0 → H b = some o → (upd (upd L2 t2 (.tup [.ref a2, v, v])) p0 (.lst (List.map V.ref [t0, t1] ++ [V.ref t2]))) b = some o := fun b o n e => u2 b o n (z2 _ _ (q2 b o n e))
    generalize (upd (upd L2 t2 (.tup [.ref a2, v, v])) p0 (.lst (List.map V.ref [t0, t1] ++ [V.ref t2]))) = N3 at Y0 Y1 Y2 e3 q3 ⊢
    refine ⟨.ref p0, rfl, .inl ⟨rfl, _, .inl (.inl e3)⟩, ?_⟩
    refine ⟨_, rfl, (by show 1 ≤ 1000; decide), fun a3 na3 => ⟨a3, v, rfl, upd_same, fun d3 ndd3 ned3 => ⟨rfl, ?_⟩⟩⟩
    obtain ⟨sa3, xa3, ya3⟩ := mkh (C := c 16) (n := "at") (v := v) na3 ndd3 ned3
    generalize upd (upd (upd N3 a3 (exo a3 (c 16) none)) d3 (exd d3 [("at", v)])) a3 (exo a3 (c 16) (some d3)) = G3 at sa3 xa3 ya3 ⊢
    refine ⟨_, rfl, (by show 1 ≤ 1000; decide), fun b3 nb3 => ⟨b3, v, rfl, upd_same, fun db3 nddb3 nedb3 => ⟨rfl, ?_⟩⟩⟩
    obtain ⟨sb3, xb3, yb3⟩ := mkh (C := c 16) (n := "at") (v := v) nb3 nddb3 nedb3
    generalize upd (upd (upd G3 b3 (exo b3 (c 16) none)) db3 (exd db3 [("at", v)])) b3 (exo b3 (c 16) (some db3)) = K3 at sb3 xb3 yb3 ⊢
    refine ⟨b3, _, db3, _, v, rfl, xb3, yb3, (T.own 16 (by decide) (by decide)).2, T.n16, by rfl, ?_⟩
    refine ⟨_, rfl, (by show 1 ≤ 1000; decide), fun cc3 ncc3 => ⟨cc3, v, rfl, upd_same, fun dc3 nddc3 nedc3 => ⟨rfl, ?_⟩⟩⟩
    obtain ⟨scc3, xcc3, ycc3⟩ := mkh (C := c 16) (n := "at") (v := v) ncc3 nddc3 nedc3
    generalize upd (upd (upd K3 cc3 (exo cc3 (c 16) none)) dc3 (exd dc3 [("at", v)])) cc3 (exo cc3 (c 16) (some dc3)) = L3 at scc3 xcc3 ycc3 ⊢
    refine ⟨cc3, _, dc3, _, v, rfl, xcc3, ycc3, (T.own 16 (by decide) (by decide)).2, T.n16, by rfl, ?_⟩
    refine ⟨by show 3 ≤ sizeLine; decide, fun t3 nt3 => ?_⟩
    have z3 := (sa3.trans (sb3.trans scc3)).trans (same_upd nt3 (o := .tup [.ref a3, v, v]))
    refine ⟨p0, _, _, rfl, rfl, z3 _ _ e3, by show 3 < sizeLine; decide, ?_⟩
    have y3 : Three (upd L3 t3 (.tup [.ref a3, v, v])) (c 16) v t3 := ⟨a3, d3, _, upd_same, (xa3.same (sb3.trans scc3)).same (same_upd nt3), (ya3.same (sb3.trans scc3)).same (same_upd nt3)⟩
    have u3 : ∀ b o, b ≠ p0 → (upd L3 t3 (.tup [.ref a3, v, v])) b = some o → (upd (upd L3 t3 (.tup [.ref a3, v, v])) p0 (.lst (List.map V.ref [t0, t1, t2] ++ [V.ref t3]))) b = some o := fun b o n e => by rw [upd_ne n]; exact e
    have Y3 := three_off (z3 _ _ e3) u3 y3
    have Y0 := three_off (z3 _ _ e3) u3 (Y0.same z3)
    have Y1 := three_off (z3 _ _ e3) u3 (Y1.same z3)
    have Y2 := three_off (z3 _ _ e3) u3 (Y2.same z3)
    have e4 : (upd (upd L3 t3 (.tup [.ref a3, v, v])) p0 (.lst (List.map V.ref [t0, t1, t2] ++ [V.ref t3]))) p0 = some (.lst ([t0, t1, t2, t3].map V.ref)) := upd_same
    have q4 : ∀ b o, b ≠ p0 → H b = some o → (upd (upd L3 t3 (.tup [.ref a3, v, v])) p0 (.lst (List.map V.ref [t0, t1, t2] ++ [V.ref t3]))) b = some o := fun b o n e => u3 b o n (z3 _ _ (q3 b o n e))
    generalize (upd (upd L3 t3 (.tup [.ref a3, v, v])) p0 (.lst (List.map V.ref [t0, t1, t2] ++ [V.ref t3]))) = N4 at Y0 Y1 Y2 Y3 e4 q4 ⊢
    refine ⟨.ref p0, rfl, .inl ⟨rfl, _, .inl (.inl e4)⟩, ?_⟩
    refine ⟨_, rfl, (by show 1 ≤ 1000; decide), fun a4 na4 => ⟨a4, v, rfl, upd_same, fun d4 ndd4 ned4 => ⟨rfl, ?_⟩⟩⟩
    obtain ⟨sa4, xa4, ya4⟩ := mkh (C := c 17) (n := "name") (v := v) na4 ndd4 ned4
    generalize upd (upd (upd N4 a4 (exo a4 (c 17) none)) d4 (exd d4 [("name", v)])) a4 (exo a4 (c 17) (some d4)) = G4 at sa4 xa4 ya4 ⊢
    refine ⟨_, rfl, (by show 1 ≤ 1000; decide), fun b4 nb4 => ⟨b4, v, rfl, upd_same, fun db4 nddb4 nedb4 => ⟨rfl, ?_⟩⟩⟩
    obtain ⟨sb4, xb4, yb4⟩ := mkh (C := c 17) (n := "name") (v := v) nb4 nddb4 nedb4
    generalize upd (upd (upd G4 b4 (exo b4 (c 17) none)) db4 (exd db4 [("name", v)])) b4 (exo b4 (c 17) (some db4)) = K4 at sb4 xb4 yb4 ⊢
    refine ⟨b4, _, db4, _, v, rfl, xb4, yb4, (T.own 17 (by decide) (by decide)).2, T.n17, by rfl, ?_⟩
    refine ⟨_, rfl, (by show 1 ≤ 1000; decide), fun cc4 ncc4 => ⟨cc4, v, rfl, upd_same, fun dc4 nddc4 nedc4 => ⟨rfl, ?_⟩⟩⟩
    obtain ⟨scc4, xcc4, ycc4⟩ := mkh (C := c 17) (n := "name") (v := v) ncc4 nddc4 nedc4
    generalize upd (upd (upd K4 cc4 (exo cc4 (c 17) none)) dc4 (exd dc4 [("name", v)])) cc4 (exo cc4 (c 17) (some dc4)) = L4 at scc4 xcc4 ycc4 ⊢
    refine ⟨cc4, _, dc4, _, v, rfl, xcc4, ycc4, (T.own 17 (by decide) (by decide)).2, T.n17, by rfl, ?_⟩
    refine ⟨by show 3 ≤ sizeLine; decide, fun t4 nt4 => ?_⟩
    have z4 := (sa4.trans (sb4.trans scc4)).trans (same_upd nt4 (o := .tup [.ref a4, v, v]))
    refine ⟨p0, _, _, rfl, rfl, z4 _ _ e4, by show 4 < sizeLine; decide, ?_⟩
    have y4 : Three (upd L4 t4 (.tup [.ref a4, v, v])) (c 17) v t4 := ⟨a4, d4, _, upd_same, (xa4.same (sb4.trans scc4)).same (same_upd nt4), (ya4.same (sb4.trans scc4)).same (same_upd nt4)⟩
    have u4 : ∀ b o, b ≠ p0 → (upd L4 t4 (.tup [.ref a4, v, v])) b = some o → (upd (upd L4 t4 (.tup [.ref a4, v, v])) p0 (.lst (List.map V.ref [t0, t1, t2, t3] ++ [V.ref t4]))) b = some o := fun b o n e => by rw [upd_ne n]; exact e
    have Y4 := three_off (z4 _ _ e4) u4 y4
    have Y0 := three_off (z4 _ _ e4) u4 (Y0.same z4)
    have Y1 := three_off (z4 _ _ e4) u4 (Y1.same z4)
    have Y2 := three_off (z4 _ _ e4) u4 (Y2.same z4)
    have Y3 := three_off (z4 _ _ e4) u4 (Y3.same z4)
    have e5 : (upd (upd L4 t4 (.tup [.ref a4, v, v])) p0 (.lst (List.map V.ref [t0, t1, t2, t3] ++ [V.ref t4]))) p0 = some (.lst ([t0, t1, t2, t3, t4].map V.ref)) := upd_same
    have q5 : ∀ b o, b ≠ p0 → H b = some o → (upd (upd L4 t4 (.tup [.ref a4, v, v])) p0 (.lst (List.map V.ref [t0, t1, t2, t3] ++ [V.ref t4]))) b = some o := fun b o n e => u4 b o n (z4 _ _ (q4 b o n e))
    generalize (upd (upd L4 t4 (.tup [.ref a4, v, v])) p0 (.lst (List.map V.ref [t0, t1, t2, t3] ++ [V.ref t4]))) = N5 at Y0 Y1 Y2 Y3 Y4 e5 q5 ⊢
    refine ⟨_, rfl, k p0 t0 t1 t2 t3 t4 _ n0 (fun b o e => q5 b o (ne_of_none e n0) e) e5 Y0 Y1 Y2 Y3 Y4⟩
end
end Fr
namespace Fr
open PySem PySem.Spec PyProof.Rows L2
/-- for i, x in enumerate(xs) -/
theorem for_enum {K : Frag} {a : Addr} {xs : List V} {g : TG} {tb : TS} {D : Ends} {σ : L2.St} {H : Hp} (Pv : Nat → L2.St → Hp → Prop) (h0 : Pv 0 σ H) (hl : ∀ i σ H, i ≤ xs.length → Pv i σ H → SqL K H a xs)
    (hs : ∀ (i : Nat) (x : V) (T : Addr) (σ : L2.St) (H : Hp), xs[i]? = some x → Pv i σ H → H T = none →
      g (.ref T) σ (upd H T (.tup [.int (i : Nat), x])) fun σ2 H2 => tb { D with nx := Pv (i + 1), ct := Pv (i + 1), bk := D.nx } σ2 H2)
    (hd : ∀ σ H, Pv xs.length σ H → D.nx σ H) :
    ∃ W : Nat → Nat → L2.St → Hp → Prop, (∃ m, W 0 m σ H) ∧ ∀ i m σ H, W i m σ H →
      ((Ite K a).stop i H ∧ D.nx σ H) ∨ ((Ite K a).go i H ∧ ∃ N : L2.St → Hp → Prop, (∀ σ' H', N σ' H' → ∃ m', m' < m ∧ W (i + 1) m' σ' H') ∧
        ∀ v H', (Ite K a).yld i H v H' → g v σ H' fun σ2 H2 => tb { D with nx := N, ct := N, bk := D.nx } σ2 H2) := by
  refine ⟨fun i m σ H => m = xs.length - i ∧ i ≤ xs.length ∧ Pv i σ H, ⟨xs.length, by simp, Nat.zero_le _, h0⟩, ?_⟩
  rintro i m σ H ⟨rfl, hi, p⟩
  have q := hl i σ H hi p
  by_cases hlt : i < xs.length
  · have hx : xs[i]? = some xs[i] := List.getElem?_eq_getElem hlt
    refine .inr ⟨⟨xs, xs[i], q, hx⟩, Pv (i + 1), ?_, ?_⟩
    · intro σ' H' p'
      exact ⟨xs.length - (i + 1), by omega, rfl, hlt, p'⟩
    · rintro v H' ⟨T, x, rfl, hT, rfl, hf⟩
      exact hs i x T σ H (hf xs q) p hT
  · have e : i = xs.length := by omega
    subst e
    exact .inl ⟨⟨xs, q, Nat.le_refl _⟩, hd σ H p⟩
/-! ### the heap without the draw's own two objects -/
def hide (d l : Addr) (H : Hp) : Hp := fun b => if b = d ∨ b = l then none else H b
theorem hide_at {d l b : Addr} {H : Hp} (h1 : b ≠ d) (h2 : b ≠ l) : hide d l H b = H b := by
  unfold hide
  rw [if_neg (by rintro (z | z); exact h1 z; exact h2 z)]
theorem hide_d {d l : Addr} {H : Hp} : hide d l H d = none := by
  unfold hide
  rw [if_pos (.inl rfl)]
theorem hide_l {d l : Addr} {H : Hp} : hide d l H l = none := by
  unfold hide
  rw [if_pos (.inr rfl)]
theorem hide_same {d l : Addr} {H : Hp} : Same (hide d l H) H := fun b o e => by
  unfold hide at e
  split at e
  · cases e
  · exact e
theorem hide_mono {d l : Addr} {H H' : Hp} (s : ∀ b o, ¬ Mdl d l b → H b = some o → H' b = some o) : Same (hide d l H) (hide d l H') := fun b o e => by
  unfold hide at e ⊢
  split at e
  · cases e
  · rename_i h
    rw [if_neg h]
    exact s b o h e
theorem hide_new {d l p : Addr} {H : Hp} {o : HO} (hd : H d ≠ none) (hl : H l ≠ none) (hp : H p = none) : hide d l (upd H p o) p = some o := by
  rw [hide_at (fun z => hd (by rw [← z]; exact hp)) (fun z => hl (by rw [← z]; exact hp)), upd_same]
theorem Draw.trk {d l c : Addr} {H : Hp} (D : Draw d l c H) : H d ≠ none ∧ H l ≠ none := by
  obtain ⟨_, _, _, _, D⟩ := D
  exact ⟨by rw [D.hd]; simp, by rw [D.hl]; simp⟩
theorem nn {H H' : Hp} {b : Addr} (s : Same H H') (h : H b ≠ none) : H' b ≠ none := by
  cases e : H b with
  | none => exact absurd e h
  | some o =>
    rw [s _ _ e]
    simp
theorem hide_off {d l p b : Addr} {H : Hp} {o u : HO} (n : b ≠ p) (e : hide d l H b = some o) : hide d l (upd H p u) b = some o := by
  unfold hide at e ⊢
  split at e
  · cases e
  · rename_i h
    rw [if_neg h, upd_ne n]
    exact e
theorem Draw.same {d l c : Addr} {H H' : Hp} (D : Draw d l c H) (s : Same H H') : Draw d l c H' := by
  obtain ⟨a, b, e, f, D⟩ := D
  exact ⟨a, b, e, f, s _ _ D.hd, s _ _ D.hl, s _ _ D.hc, D.ne⟩
def OkD (d : PyData) : Prop := (PyData.list [d, d]).showable = true ∧ (PyData.list [d, d]).depth ≤ 60 ∧ (PyData.list [d, d]).shown.length ≤ sizeLine
abbrev s_law_any : Stmt := topS 25
theorem sc_law_any : FnScope ["draw", "some"] ["draw"] (C8.fnScope s_law_any) := C8.fnScope_by (by decide +kernel)
def spAny (K : Frag) : Sp := fun vs H Q _ => ∃ d l c, vs = [.ref d] ∧ Draw d l c H ∧ ∀ v dt H', (∀ b o, ¬ Mdl d l b → H b = some o → H' b = some o) → Dx K H' v dt → OkD dt → Q v H'
section
variable {P : Program} {w : World} {K : Frag} {mg : Str → Option Value} {base : Heap}
theorem ok_law_any {f : Addr} {fd : FuncData} (F : C8.Def K mg "_law_any" s_law_any f fd) (b : Binds K fd ["draw"] []) (B : Bi mg) (c_law_pick : C8.Cal P w K mg base 3 "_law_pick" (spPick K) []) :
    C8.Cal P w K mg base 4 "_law_any" (spAny K) [] := by
  have sc := sc_law_any
  refine C8.cal0 F b .nil sc (fun vs H Q E h => ?_) (fun cdv A outer s H vs Q E hr h => ?_)
  · obtain ⟨_, _, _, rfl, _⟩ := h
    rfl
  · obtain ⟨d, l, c, rfl, D, k⟩ := h
    refine ⟨_, pss_cons (ps_set (i := 1) sc.nd rfl (by first | exact Or.inl rfl | exact Or.inr rfl) (pe_lst (pa_cons pe_non (pa_cons pe_bl (pa_cons (pe_un un_neg pe_int) (pa_cons (pe_op op_pow pe_int pe_int) (pa_cons pe_str (pa_cons pe_str (pa_cons pe_str (pa_cons (pe_lst pa_nil) (pa_cons (pe_lst (pa_cons (pe_tup (pa_cons pe_int (pa_cons pe_int pa_nil))) pa_nil)) (pa_cons (pe_tup pa_nil) (pa_cons (pe_tup (pa_cons pe_int pa_nil)) (pa_cons pe_dnewK (pa_cons (pe_disp (pps_cons pe_str (pe_tup (pa_cons pe_int pa_nil)) pps_nil) (by rfl) (by rfl) (fun z => by cases z) (by decide)) (pa_cons (pe_lst (pa_cons (pe_lst (pa_cons pe_non pa_nil)) pa_nil)) pa_nil))))))))))))))))
      (pss_one (ps_ret (C8.pe_c c_law_pick hr (by decide) rfl (pa_cons (pv 0) (pa_cons (pv 1) pa_nil))))), ?_⟩
    obtain ⟨td, tl⟩ := D.trk
    refine ⟨_, rfl, _, _, rfl, rfl, ⟨by decide, by decide, by decide⟩, ?_⟩
    refine ⟨by show 0 ≤ sizeLine; decide, fun p7 n7 => ?_⟩
    have s7 := same_upd n7 (o := .lst [])
    have h7 := hide_new td tl n7 (o := .lst [])
    have td7 := nn s7 td
    have tl7 := nn s7 tl
    generalize upd H p7 (.lst []) = H7 at s7 h7 td7 tl7 ⊢
    refine ⟨by show 2 ≤ sizeLine; decide, fun t8 n8t => ?_⟩
    have s8t := same_upd n8t (o := .tup [.int 0, .int 2])
    have h8t := hide_new td7 tl7 n8t (o := .tup [.int 0, .int 2])
    have td8t := nn s8t td7
    have tl8t := nn s8t tl7
    generalize upd H7 t8 (.tup [.int 0, .int 2]) = H8t at s8t h8t td8t tl8t ⊢
    refine ⟨by show 1 ≤ sizeLine; decide, fun p8 n8 => ?_⟩
    have s8 := same_upd n8 (o := .lst [.ref t8])
    have h8 := hide_new td8t tl8t n8 (o := .lst [.ref t8])
    have td8 := nn s8 td8t
    have tl8 := nn s8 tl8t
    generalize upd H8t p8 (.lst [.ref t8]) = H8 at s8 h8 td8 tl8 ⊢
    refine ⟨by show 0 ≤ sizeLine; decide, fun p9 n9 => ?_⟩
    have s9 := same_upd n9 (o := .tup [])
    have h9 := hide_new td8 tl8 n9 (o := .tup [])
    have td9 := nn s9 td8
    have tl9 := nn s9 tl8
    generalize upd H8 p9 (.tup []) = H9 at s9 h9 td9 tl9 ⊢
    refine ⟨by show 1 ≤ sizeLine; decide, fun p10 n10 => ?_⟩
    have s10 := same_upd n10 (o := .tup [.int 4])
    have h10 := hide_new td9 tl9 n10 (o := .tup [.int 4])
    have td10 := nn s10 td9
    have tl10 := nn s10 tl9
    generalize upd H9 p10 (.tup [.int 4]) = H10 at s10 h10 td10 tl10 ⊢
    refine fun p11 n11 => ?_
    have s11 := same_upd n11 (o := .dK [])
    have h11 := hide_new td10 tl10 n11 (o := .dK [])
    have td11 := nn s11 td10
    have tl11 := nn s11 tl10
    generalize upd H10 p11 (.dK []) = H11 at s11 h11 td11 tl11 ⊢
    have tdX := td11
    have tlX := tl11
    refine fun p12 n12a => ?_
    have s12a := same_upd n12a (o := .dK [])
    have h12a := hide_new td11 tl11 n12a (o := .dK [])
    have td12a := nn s12a td11
    have tl12a := nn s12a tl11
    generalize upd H11 p12 (.dK []) = H12a at s12a h12a td12a tl12a ⊢
    refine ⟨by show 1 ≤ sizeLine; decide, fun t12 n12t => ?_⟩
    have s12t := same_upd n12t (o := .tup [.int 1])
    have h12t := hide_new td12a tl12a n12t (o := .tup [.int 1])
    have td12t := nn s12t td12a
    have tl12t := nn s12t tl12a
    generalize upd H12a t12 (.tup [.int 1]) = H12t at s12t h12t td12t tl12t ⊢
    have x12 : H12t p12 = some (.dK []) := s12t _ _ (hide_same _ _ h12a)
    refine ⟨x12, [(Sum.inr "a", .ref t12)], rfl, (by show 1 ≤ 15; decide), ?_⟩
    have o12 : ∀ b o, b ≠ p12 → hide d l H12t b = some o → hide d l (upd H12t p12 (.dK (mergeK [] [(Sum.inr "a", .ref t12)]))) b = some o := fun b o n e => hide_off n e
    have h12 : hide d l (upd H12t p12 (.dK (mergeK [] [(Sum.inr "a", .ref t12)]))) p12 = some (.dK [(Sum.inr "a", .ref t12)]) := by
      rw [hide_at (fun z => tdX (by rw [← z]; exact n12a)) (fun z => tlX (by rw [← z]; exact n12a)), upd_same]
      rfl
    have td12 : (upd H12t p12 (.dK (mergeK [] [(Sum.inr "a", .ref t12)]))) d ≠ none := trk_upd _ td12t
    have tl12 : (upd H12t p12 (.dK (mergeK [] [(Sum.inr "a", .ref t12)]))) l ≠ none := trk_upd _ tl12t
    have s12 : ∀ b o, b ≠ p12 → H12t b = some o → (upd H12t p12 (.dK (mergeK [] [(Sum.inr "a", .ref t12)]))) b = some o := fun b o n e => by rw [upd_ne n]; exact e
    generalize upd H12t p12 (.dK (mergeK [] [(Sum.inr "a", .ref t12)])) = H12 at o12 h12 td12 tl12 s12 ⊢
    refine ⟨by show 1 ≤ sizeLine; decide, fun q13 n13i => ?_⟩
    have s13i := same_upd n13i (o := .lst [.non])
    have h13i := hide_new td12 tl12 n13i (o := .lst [.non])
    have td13i := nn s13i td12
    have tl13i := nn s13i tl12
    generalize upd H12 q13 (.lst [.non]) = H13i at s13i h13i td13i tl13i ⊢
    refine ⟨by show 1 ≤ sizeLine; decide, fun p13 n13 => ?_⟩
    have s13 := same_upd n13 (o := .lst [.ref q13])
    have h13 := hide_new td13i tl13i n13 (o := .lst [.ref q13])
    have td13 := nn s13 td13i
    have tl13 := nn s13 tl13i
    generalize upd H13i p13 (.lst [.ref q13]) = H13 at s13 h13 td13 tl13 ⊢
    refine ⟨by show 14 ≤ sizeLine; decide, fun pz nz => ?_⟩
    have sz := same_upd nz (o := .lst [.non, .bl false, .int (-5), .int (10 ^ (45 : Int).toNat), .str "", .str "wide", .str "two words", .ref p7, .ref p8, .ref p9, .ref p10, .ref p11, .ref p12, .ref p13])
    have hz := hide_new td13 tl13 nz (o := .lst [.non, .bl false, .int (-5), .int (10 ^ (45 : Int).toNat), .str "", .str "wide", .str "two words", .ref p7, .ref p8, .ref p9, .ref p10, .ref p11, .ref p12, .ref p13])
    have tdz := nn sz td13
    have tlz := nn sz tl13
    generalize upd H13 pz (.lst [.non, .bl false, .int (-5), .int (10 ^ (45 : Int).toNat), .str "", .str "wide", .str "two words", .ref p7, .ref p8, .ref p9, .ref p10, .ref p11, .ref p12, .ref p13]) = Hz at sz hz tdz tlz ⊢
    have g13 : Same (hide d l H12) (hide d l Hz) := (hide_mono fun b o _ e => s13i b o e).trans ((hide_mono fun b o _ e => s13 b o e).trans (hide_mono fun b o _ e => sz b o e))
    have gi : Same (hide d l H13i) (hide d l Hz) := (hide_mono fun b o _ e => s13 b o e).trans (hide_mono fun b o _ e => sz b o e)
    have gj : Same (hide d l H13) (hide d l Hz) := hide_mono fun b o _ e => sz b o e
    have ne12 : ∀ b o, H11 b = some o → b ≠ p12 := fun b o e => ne_of_none e n12a
    have g11 : Same (hide d l H11) (hide d l Hz) := fun b o e => g13 _ _ (o12 b o (ne12 b o (hide_same _ _ e)) (((hide_mono fun b o _ e => s12a b o e).trans (hide_mono fun b o _ e => s12t b o e)) b o e))
    have g10 : Same (hide d l H10) (hide d l Hz) := (hide_mono fun b o _ e => s11 b o e).trans g11
    have g9 : Same (hide d l H9) (hide d l Hz) := (hide_mono fun b o _ e => s10 b o e).trans g10
    have g8 : Same (hide d l H8) (hide d l Hz) := (hide_mono fun b o _ e => s9 b o e).trans g9
    have g8t : Same (hide d l H8t) (hide d l Hz) := (hide_mono fun b o _ e => s8 b o e).trans g8
    have g7 : Same (hide d l H7) (hide d l Hz) := (hide_mono fun b o _ e => s8t b o e).trans g8t
    have t12z : hide d l Hz t12 = some (.tup [.int 1]) := g13 _ _ (o12 _ _ (ne_of_none (hide_same _ _ h12a) n12t).symm h12t)
    have key : ∀ (i : Nat) (v : V), ([.non, .bl false, .int (-5), .int (10 ^ (45 : Int).toNat), .str "", .str "wide", .str "two words", .ref p7, .ref p8, .ref p9, .ref p10, .ref p11, .ref p12, .ref p13] : List V)[i]? = some v → ∃ dt, Dx K (hide d l Hz) v dt ∧ OkD dt := by
      intro i v hx
      match i, hx with
      | 0, hx =>
        cases hx
        exact ⟨.none, .dp .non rfl, by decide +kernel, by decide +kernel, by decide +kernel⟩
      | 1, hx =>
        cases hx
        exact ⟨.bool false, .dp (.bl _) rfl, by decide +kernel, by decide +kernel, by decide +kernel⟩
      | 2, hx =>
        cases hx
        exact ⟨.int (-5), .dp (.int _) rfl, by decide +kernel, by decide +kernel, by decide +kernel⟩
      | 3, hx =>
        cases hx
        exact ⟨.int (10 ^ 45), .dp (.int _) rfl, by decide +kernel, by decide +kernel, by decide +kernel⟩
      | 4, hx =>
        cases hx
        exact ⟨.str "", .dp (.str _) rfl, by decide +kernel, by decide +kernel, by decide +kernel⟩
      | 5, hx =>
        cases hx
        exact ⟨.str "wide", .dp (.str _) rfl, by decide +kernel, by decide +kernel, by decide +kernel⟩
      | 6, hx =>
        cases hx
        exact ⟨.str "two words", .dp (.str _) rfl, by decide +kernel, by decide +kernel, by decide +kernel⟩
      | 7, hx =>
        cases hx
        exact ⟨.list [], .dp (.lst (.inl (.inl (g7 _ _ h7))) .nil) rfl, by decide +kernel, by decide +kernel, by decide +kernel⟩
      | 8, hx =>
        cases hx
        exact ⟨.list [.tuple [.int 0, .int 2]], .dp (.lst (.inl (.inl (g8 _ _ h8))) (.cons (.tup (.inl (.inl (g8t _ _ h8t))) (.cons (.int _) (.cons (.int _) .nil))) .nil)) rfl, by decide +kernel, by decide +kernel, by decide +kernel⟩
      | 9, hx =>
        cases hx
        exact ⟨.tuple [], .dp (.tup (.inl (.inl (g9 _ _ h9))) .nil) rfl, by decide +kernel, by decide +kernel, by decide +kernel⟩
      | 10, hx =>
        cases hx
        exact ⟨.tuple [.int 4], .dp (.tup (.inl (.inl (g10 _ _ h10))) (.cons (.int _) .nil)) rfl, by decide +kernel, by decide +kernel, by decide +kernel⟩
      | 11, hx =>
        cases hx
        exact ⟨.dict [], .emp (g11 _ _ h11), by decide +kernel, by decide +kernel, by decide +kernel⟩
      | 12, hx =>
        cases hx
        exact ⟨.dict [(.str "a", .tuple [.int 1])], .one (ns := [1]) (g13 _ _ h12) t12z, by decide +kernel, by decide +kernel, by decide +kernel⟩
      | 13, hx =>
        cases hx
        exact ⟨.list [.list [.none]], .dp (.lst (.inl (.inl (gj _ _ h13))) (.cons (.lst (.inl (.inl (gi _ _ h13i))) (.cons .non .nil)) .nil)) rfl, by decide +kernel, by decide +kernel, by decide +kernel⟩
      | n + 14, hx => simp at hx
    have c11 : Same H H11 := s7.trans (s8t.trans (s8.trans (s9.trans (s10.trans s11))))
    have cz : Same H Hz := fun b o e => sz _ _ (s13 _ _ (s13i _ _ (s12 _ _ (ne12 b o (c11 b o e)) (s12t _ _ (s12a _ _ (c11 b o e))))))
    refine ⟨_, rfl, _, rfl, d, l, c, pz, _, hide d l Hz, rfl, .inl (.inl hz), by simp, (by show 14 ≤ 1000000; decide), hide_same, hide_d, hide_l, D.same cz, fun i v H' hx gr D' => ?_⟩
    obtain ⟨dt, x, ok⟩ := key i v hx
    exact k v dt H' (fun b o n e => gr.hh b o n (cz b o e)) (x.same gr.gh) ok
end
end Fr
namespace Fr
open PySem PySem.Spec PyProof.Rows L2
abbrev s_law : Stmt := topS 29
theorem sc_law : FnScope ["script", "draw", "words_here", "each", "threes_here", "errors_here", "item", "spot", "error", "k", "base_here"] ["script"] (C8.fnScope s_law) := C8.fnScope_by (by decide +kernel)
def spLaw (K : Frag) : Sp := fun vs H Q _ => ∃ (a : Addr) (ns : List Int), vs = [.ref a] ∧ SqL K H a (ns.map V.int) ∧ ns.length ≤ 63 ∧ ∀ H', Q (.bl true) H'
theorem dps_bools {K : Frag} {H : Hp} : ∀ bs : List Bool, DpAll K H (bs.map V.bl) (bs.map PyData.bool)
  | [] => .nil
  | b :: r => .cons (.bl b) (dps_bools r)
theorem shaped_bools (bs : List Bool) : SeqAt.shaped (.list (bs.map .bool)) = true := by
  have h : PyData.depthAll (bs.map PyData.bool) ≤ 1 ∧ PyData.canLayAll0 (bs.map PyData.bool) = true := by
    induction bs with
    | nil => simp [PyData.depthAll, PyData.canLayAll0]
    | cons n r ih =>
      simp only [List.map, PyData.depthAll, PyData.depth, PyData.canLayAll0, PyData.canLay0]
      exact ⟨by omega, by rw [ih.2]; rfl⟩
  unfold SeqAt.shaped
  rw [Bool.and_eq_true]
  refine ⟨by simpa only [PyData.canLay0] using h.2, decide_eq_true ?_⟩
  simp only [PyData.depth]
  omega
theorem FnG.mk0 {P : Program} {w : World} {K : Frag} {mg : Str → Option Value} {base : Heap} {k : Nat} {f : Addr} {fd : FuncData} {N ps : List Str} {sp : Sp} {x qual : Str} {st : Stmt} (F : C8.Fun K x qual st f fd) (S : FnScope N ps (C8.fnScope st))
    (len : ∀ vs H Q E, sp vs H Q E → vs.length = ps.length)
    (hbody : ∀ (cdv : Value) (A : Around) (outer : List Env) (s : Shared) (H : Hp) (vs : List V) (Q : VK) (E : XK),
      Room k (A.deeper (envOfC qual (C8.fnScope st) s.heap.objs.size f cdv)) → A.guards = some [] → sp vs H Q E →
      ∃ t, PSs (cxOf C8.CX0 P w K mg base N qual (C8.fnScope st) f cdv A outer s H E).nox (C8.fnBody st) t ∧
        t { nx := fun _ H' => Q .non H', rt := Q } (start N vs) H) : FnG P w K mg base C8.CX0 (k + 1) f fd ps sp := by
  refine FnG.mk' F S len ?_
  intro cdv A outer s H vs Q E hr hgu hsp
  obtain ⟨t, h, q⟩ := hbody cdv A outer s H vs Q E hr hgu hsp
  exact ⟨t, h.nox, q⟩
theorem Errs.get {c : Nat → Addr} {H : Hp} : ∀ {n : Nat} {as : List Addr} {i : Nat} {a : Addr}, Errs c H n as → as[i]? = some a → XV H a (c i) none
  | _, _, _, _, .nil, e => by simp at e
  | _, _, i, a, .snoc (n := n) (as := as) (a := x) h z, e => by
    by_cases hi : i < as.length
    · rw [List.getElem?_append_left hi] at e
      exact h.get e
    · rw [List.getElem?_append_right (by omega)] at e
      have hl := h.len
      cases q : i - as.length with
      | zero =>
        rw [q] at e
        cases e
        have ei : i = n := by omega
        rw [ei]
        exact z
      | succ m =>
        rw [q] at e
        simp at e
section
variable {P : Program} {w : World} {K : Frag} {mg : Str → Option Value} {base : Heap} {c f : Nat → Addr}
theorem ok_law {fa : Addr} {fd : FuncData} (F : C8.Def K mg "law" s_law fa fd) (B : Bk mg) (T : Cs K mg c f)
    (c_law_begun : C8.Cal P w K mg base 1 "_law_begun" (spBegun K) []) (c_law_pick : C8.Cal P w K mg base 3 "_law_pick" (spPick K) []) (c_law_any : C8.Cal P w K mg base 4 "_law_any" (spAny K) [])
    (c_law_errors_of : C8.Cal P w K mg base 3 "_law_errors_of" (spErrs c) []) (c_law_plain_errors : C8.Cal P w K mg base 1 "_law_plain_errors" (spPlain c) []) (c_law_kinds : C8.Cal P w K mg base 1 "_law_kinds" (spKinds K c) []) :
    FnG P w K mg base C8.CX0 9 fa fd ["script"] (spLaw K) := by
  have sc := sc_law
  refine FnG.mk0 F.fn sc (fun vs H Q E h => ?_) (fun cdv A outer s H vs Q E hr hgu h => ?_)
  · obtain ⟨_, _, rfl, _⟩ := h
    rfl
  · obtain ⟨a, ns, rfl, hS, hlen, k⟩ := h
    -- the promises of the draws hang on where the draw stands: the walk takes them for all places at once
    refine ⟨_, pss_cons (ps_set (i := 1) sc.nd rfl (by first | exact Or.inl rfl | exact Or.inr rfl) (C8.pe_c c_law_begun hr (by decide) rfl (pa_cons (pv 0) pa_nil)))
      (pss_cons (ps_asg (pe_tup (pa_cons (C8.pe_c c_law_pick hr (by decide) rfl (pa_cons (pv 1) (pa_cons (pe_lst (pa_cons pe_str (pa_cons pe_str (pa_cons pe_str pa_nil)))) pa_nil))) (pa_cons (C8.pe_c c_law_any hr (by decide) rfl (pa_cons (pv 1) pa_nil)) pa_nil))) (pg_tup (by rfl) (pgs_cons (pg_name (i := 2) sc.nd rfl (by first | exact Or.inl rfl | exact Or.inr rfl)) (pgs_cons (pg_name (i := 3) sc.nd rfl (by first | exact Or.inl rfl | exact Or.inr rfl)) pgs_nil))))
      (pss_cons (ps_set (i := 4) sc.nd rfl (by first | exact Or.inl rfl | exact Or.inr rfl) (C8.pe_c c_law_errors_of hr (by decide) rfl (pa_cons (pv 3) pa_nil)))
      (pss_cons (ps_set (i := 5) sc.nd rfl (by first | exact Or.inl rfl | exact Or.inr rfl) (pe_op op_cat (C8.pe_c c_law_plain_errors hr (by decide) rfl (pa_cons (pv 2) pa_nil)) (pe_lc (own := [("item", 6)]) (g := gName 6) (tt := tYes) (by rfl) sc.nd (pi_list (pv 4)) (blkOk_by (by kernel_rfl)) (fun _ _ _ _ _ => (pg_name (i := 6) sc.nd rfl (by first | exact Or.inl rfl | exact Or.inr rfl))) (fun _ _ _ _ _ => pts_nil) (fun _ _ _ _ _ => (pe_ix (r := rIxT K) ix_tup (pv 6) pe_int (fun _ _ => rfl))))))
      (pss_cons (ps_for PassesOwn.never rfl (pi_enum (by rfl) B.enumerate (pa_cons (pv 5) pa_nil)) (pg_tup (by rfl) (pgs_cons (pg_name (i := 7) sc.nd rfl (by first | exact Or.inl rfl | exact Or.inr rfl)) (pgs_cons (pg_name (i := 8) sc.nd rfl (by first | exact Or.inl rfl | exact Or.inr rfl)) pgs_nil)))
        (pss_cons (ps_if (pt_cmpR (op_neD hr.units) (C8.pe_c c_law_kinds hr (by decide) rfl (pa_cons (pv 8) pa_nil)) (pe_lc (own := [("k", 9)]) (g := gName 9) (tt := tYes) (by rfl) sc.nd (pi_range1 rfl B.range (pa_cons pe_int pa_nil)) (blkOk_by (by kernel_rfl)) (fun _ _ _ _ _ => (pg_name (i := 9) sc.nd rfl (by first | exact Or.inl rfl | exact Or.inr rfl))) (fun _ _ _ _ _ => pts_nil) (fun _ _ _ _ _ => (pe_cmpR op_eq (pv 9) (pv 7) (nomark _)))) (nomark _))
            (pss_one (ps_ret pe_bl)) pss_nil)
          (pss_one (ps_if (PW.pt (pw_or (pt_not (pt_val (pe_callB call_isX (by rfl) B.isinstance (by decide +kernel) (pa_cons (pv 8) (pa_cons (pe_glob (v := .ref (c 18)) rfl T.g18 rfl) pa_nil))))) (pw_or1 (pt_not (pt_val (pe_callB call_isX (by rfl) B.isinstance (by decide +kernel) (pa_cons (pv 8) (pa_cons (pe_bltn (v := .ty "ValueError") (by rfl) B.valueError (by decide +kernel) rfl) pa_nil))))))))
            (pss_one (ps_ret pe_bl)) pss_nil))))
      (pss_cons (ps_if (pt_cmpR (op_neD hr.units) (pe_lc (own := [("item", 6)]) (g := gName 6) (by rfl) sc.nd (pi_list (pv 4)) (blkOk_by (by kernel_rfl)) (fun _ _ _ _ _ => (pg_name (i := 6) sc.nd rfl (by first | exact Or.inl rfl | exact Or.inr rfl))) (fun _ _ _ _ _ => pts_one (pt_cmpR op_ne (pe_callB (id := "repr") (r := rRepr2 K) (call_repr2 hgu hr.units) (by rfl) B.repr (by decide +kernel) (pa_cons (pe_lst' (pa_cons (pe_ix (r := rIxT K) ix_tup (pv 6) pe_int (fun _ _ => rfl)) (pa_cons (pe_ix (r := rIxT K) ix_tup (pv 6) pe_int (fun _ _ => rfl)) pa_nil))) pa_nil)) (pe_callB (id := "repr") (r := rRepr2 K) (call_repr2 hgu hr.units) (by rfl) B.repr (by decide +kernel) (pa_cons (pe_lst' (pa_cons (pv 3) (pa_cons (pv 3) pa_nil))) pa_nil)) (nomark _))) (fun _ _ _ _ _ => pe_int)) (pe_lst pa_nil) (nomark _))
          (pss_one (ps_ret pe_bl)) pss_nil)
      (pss_cons (ps_set (i := 10) sc.nd rfl (by first | exact Or.inl rfl | exact Or.inr rfl) (pe_exc1 PySem.F.excBase_ValueError (T.plain 18 (by decide) (by decide)).1 T.g18 (T.plain 18 (by decide) (by decide)).2 rfl pe_str))
      (pss_one (ps_ret (pe_and (pe_cmpR op_notIn_seq pe_bl (C8.pe_c c_law_kinds hr (by decide) rfl (pa_cons (pv 10) pa_nil)) (by rfl)) (pe_one (pe_callB call_isX (by rfl) B.isinstance (by decide +kernel) (pa_cons (pv 10) (pa_cons (pe_bltn (v := .ty "ValueError") (by rfl) B.valueError (by decide +kernel) rfl) pa_nil))))))))))))), ?_⟩
    refine ⟨_, rfl, a, ns, rfl, hS, hlen, fun d l cc H1 nd nl nc s1 D1 => ?_⟩
    obtain ⟨td, tl⟩ := D1.trk
    -- words_here, each
    refine ⟨_, rfl, (by show 3 ≤ sizeLine; decide), fun p np => ⟨d, l, cc, p, _, hide d l _, rfl, .inl (.inl (hide_new td tl np)), by simp, (by show 3 ≤ 1000000; decide), hide_same, hide_d, hide_l, D1.same (same_upd np), fun i0 v H2 hx gr D2 => ?_⟩⟩
    refine ⟨_, rfl, d, l, cc, rfl, D2, fun v2 dt H3 k3 x3 ok3 => ?_⟩
    refine ⟨by show 2 ≤ sizeLine; decide, fun tt ntt => ?_⟩
    have x4 : Dx K (upd H3 tt (.tup [v, v2])) v2 dt := x3.same (same_upd ntt)
    refine ⟨tt, _, rfl, .inl (.inl upd_same), rfl, _, _, rfl, _, _, rfl, rfl, ?_⟩
    generalize upd H3 tt (.tup [v, v2]) = H4 at x4 ⊢
    -- threes_here
    refine ⟨_, rfl, v2, rfl, fun p4 t0 t1 t2 t3 t4 H5 np4 s5 e5 Y0 Y1 Y2 Y3 Y4 => ?_⟩
    have x5 := x4.same s5
    obtain ⟨z0, d0, f0, a0, b0, q0⟩ := Y0
    obtain ⟨z1, d1, f1, a1, b1, q1⟩ := Y1
    obtain ⟨z2, d2, f2, a2, b2, q2⟩ := Y2
    obtain ⟨z3, d3, f3, a3, b3, q3⟩ := Y3
    obtain ⟨z4, d4, f4, a4, b4, q4⟩ := Y4
    -- errors_here
    refine ⟨_, rfl, v, rfl, fun p6 as H6 n6 s6 e6 E6 => ?_⟩
    refine ⟨_, rfl, p4, rfl, ⟨_, .inl (.inl (s6 _ _ e5))⟩, fun D nD => ?_⟩
    refine lc_list (K := K) (a := p4) (xs := [t0, t1, t2, t3, t4].map V.ref) (fun i H' => Same H6 H' ∧ H' D = some (.lst (([z0, z1, z2, z3, z4].take i).map V.ref))) ⟨same_upd nD, upd_same⟩ (fun i H' _ h => .inl (.inl (h.1 _ _ (s6 _ _ e5)))) ?_ ?_
    · rintro i y H' hi ⟨s7, e7⟩
      have up : ∀ xs, Same H6 (upd H' D (.lst xs)) := fun xs b o e => by
        rw [upd_ne (ne_of_none e nD)]
        exact s7 _ _ e
      match i, hi with
      | 0, hi =>
        cases hi
        exact ⟨rfl, _, rfl, t0, _, _, .ref z0, rfl, rfl, .inl (.inl (s7 _ _ (s6 _ _ a0))), atI_nat (j := 0) rfl, _, e7, (by show 0 < sizeLine; decide), up _, upd_same⟩
      | 1, hi =>
        cases hi
        exact ⟨rfl, _, rfl, t1, _, _, .ref z1, rfl, rfl, .inl (.inl (s7 _ _ (s6 _ _ a1))), atI_nat (j := 0) rfl, _, e7, (by show 1 < sizeLine; decide), up _, upd_same⟩
      | 2, hi =>
        cases hi
        exact ⟨rfl, _, rfl, t2, _, _, .ref z2, rfl, rfl, .inl (.inl (s7 _ _ (s6 _ _ a2))), atI_nat (j := 0) rfl, _, e7, (by show 2 < sizeLine; decide), up _, upd_same⟩
      | 3, hi =>
        cases hi
        exact ⟨rfl, _, rfl, t3, _, _, .ref z3, rfl, rfl, .inl (.inl (s7 _ _ (s6 _ _ a3))), atI_nat (j := 0) rfl, _, e7, (by show 3 < sizeLine; decide), up _, upd_same⟩
      | 4, hi =>
        cases hi
        exact ⟨rfl, _, rfl, t4, _, _, .ref z4, rfl, rfl, .inl (.inl (s7 _ _ (s6 _ _ a4))), atI_nat (j := 0) rfl, _, e7, (by show 4 < sizeLine; decide), up _, upd_same⟩
      | n + 5, hi => simp at hi
    rintro H7 ⟨s7, e7_⟩
    have e7 : H7 D = some (.lst ([z0, z1, z2, z3, z4].map V.ref)) := e7_
    have l13 := E6.len
    refine ⟨p6, D, _, _, rfl, rfl, s7 _ _ e6, e7, ?_, fun p8 n8 => ?_⟩
    · rw [List.length_map, l13]
      show 18 ≤ sizeLine
      decide
    -- what stands in errors_here
    have all : ∀ (i : Nat) (x : V), (as.map V.ref ++ [z0, z1, z2, z3, z4].map V.ref)[i]? = some x → i < 18 ∧ ∃ y dd, x = .ref y ∧ XV H7 y (c i) dd ∧ ∀ g, dd = some g → ∃ fs, XD H7 g fs := by
      intro i x hx
      by_cases hi : i < 13
      · rw [List.getElem?_append_left (by rw [List.length_map, l13]; exact hi), List.getElem?_map] at hx
        cases ha : as[i]? with
        | none =>
          rw [ha] at hx
          cases hx
        | some y =>
          rw [ha] at hx
          cases hx
          exact ⟨by omega, y, none, rfl, (E6.get ha).same s7, fun g z => nomatch z⟩
      · rw [List.getElem?_append_right (by rw [List.length_map, l13]; omega), List.length_map, l13] at hx
        obtain ⟨m, rfl⟩ : ∃ m, i = m + 13 := ⟨i - 13, by omega⟩
        rw [Nat.add_sub_cancel] at hx
        match m, hx with
        | 0, hx =>
          cases hx
          exact ⟨by decide, z0, some d0, rfl, (b0.same s6).same s7, fun g e => by cases e; exact ⟨f0, (q0.same s6).same s7⟩⟩
        | 1, hx =>
          cases hx
          exact ⟨by decide, z1, some d1, rfl, (b1.same s6).same s7, fun g e => by cases e; exact ⟨f1, (q1.same s6).same s7⟩⟩
        | 2, hx =>
          cases hx
          exact ⟨by decide, z2, some d2, rfl, (b2.same s6).same s7, fun g e => by cases e; exact ⟨f2, (q2.same s6).same s7⟩⟩
        | 3, hx =>
          cases hx
          exact ⟨by decide, z3, some d3, rfl, (b3.same s6).same s7, fun g e => by cases e; exact ⟨f3, (q3.same s6).same s7⟩⟩
        | 4, hx =>
          cases hx
          exact ⟨by decide, z4, some d4, rfl, (b4.same s6).same s7, fun g e => by cases e; exact ⟨f4, (q4.same s6).same s7⟩⟩
        | n + 5, hx => simp at hx
    have len18 : (as.map V.ref ++ [z0, z1, z2, z3, z4].map V.ref).length = 18 := by
      rw [List.length_append, List.length_map, l13]
      rfl
    generalize hxs : as.map V.ref ++ [z0, z1, z2, z3, z4].map V.ref = xs at all len18 ⊢
    have s8 := same_upd n8 (o := .lst xs)
    have e8 : (upd H7 p8 (.lst xs)) p8 = some (.lst xs) := upd_same
    have x8 := ((x5.same s6).same s7).same s8
    have r0 := s8 _ _ (s7 _ _ (s6 _ _ a0))
    have r1 := s8 _ _ (s7 _ _ (s6 _ _ a1))
    have r2 := s8 _ _ (s7 _ _ (s6 _ _ a2))
    have r3 := s8 _ _ (s7 _ _ (s6 _ _ a3))
    have r4 := s8 _ _ (s7 _ _ (s6 _ _ a4))
    have r5 := s8 _ _ (s7 _ _ (s6 _ _ e5))
    have all8 : ∀ (i : Nat) (x : V), xs[i]? = some x → i < 18 ∧ ∃ y dd, x = .ref y ∧ XV (upd H7 p8 (.lst xs)) y (c i) dd ∧ ∀ g, dd = some g → ∃ fs, XD (upd H7 p8 (.lst xs)) g fs := fun i x hx => by
      obtain ⟨h1, y, dd, h2, h3, h4⟩ := all i x hx
      exact ⟨h1, y, dd, h2, h3.same s8, fun g z => (h4 g z).elim fun fs q => ⟨fs, q.same s8⟩⟩
    generalize upd H7 p8 (.lst xs) = H8 at e8 x8 r0 r1 r2 r3 r4 r5 all8 ⊢
    -- for spot, error in enumerate(errors_here)
    refine ⟨_, rfl, p8, xs, rfl, .inl (.inl e8), for_enum (K := K) (a := p8) (xs := xs) (fun i σ H' => ∃ v7 v8, σ = [some (.ref a), some (.ref d), some v, some v2, some (.ref p4), some (.ref p8), none, v7, v8, none, none] ∧ Same H8 H')
      ⟨none, none, rfl, fun _ _ e => e⟩ (fun i σ H' _ h => by obtain ⟨_, _, _, s9⟩ := h; exact .inl (.inl (s9 _ _ e8))) ?_ ?_⟩
    · rintro i x T' σ H' hx ⟨v7, v8, rfl, s9⟩ nT
      obtain ⟨hi, y, dd, rfl, xv, xd⟩ := all8 i x hx
      have sT : Same H8 (upd H' T' (.tup [.int (i : Nat), .ref y])) := s9.trans (same_upd nT)
      refine ⟨T', _, rfl, .inl (.inl upd_same), rfl, _, _, rfl, _, _, rfl, rfl, ?_⟩
      generalize upd H' T' (.tup [.int (i : Nat), .ref y]) = G1 at sT ⊢
      refine ⟨_, rfl, y, i, dd, rfl, by omega, xv.same sT, xd_same sT xd, fun q G2 nq sq eq => ?_⟩
      refine ⟨18, rfl, by decide, by decide, fun D2 nD2 => ?_⟩
      refine lc_range (lo := 0) (n := 18) (fun j H'' => Same G2 H'' ∧ H'' D2 = some (.lst ((List.range j).map fun m => V.bl (decide (i = m))))) ⟨same_upd nD2, upd_same⟩ ?_ ?_
      · rintro j G3 hj ⟨s3, e3⟩
        refine ⟨rfl, _, rfl, _, rfl, rfl, _, e3, ?_, fun b o e => ?_, ?_⟩
        · rw [List.length_map, List.length_range]
          exact Nat.lt_trans hj (by decide)
        · rw [upd_ne (ne_of_none e nD2)]
          exact s3 _ _ e
        · rw [upd_same, List.range_succ, List.map_append]
          have z : decide (V.int (0 + (j : Int)) = V.int (i : Int)) = decide (i = j) := by
            by_cases hij : i = j
            · subst hij
              rw [Int.zero_add]
              simp
            · rw [decide_eq_false hij]
              refine decide_eq_false ?_
              intro h
              have h' : (0 + (j : Int)) = (i : Int) := V.int.inj h
              omega
          rw [z]
          rfl
      · rintro G3 ⟨s3, e3⟩
        have hb : ((List.range 18).map fun m => V.bl (decide (i = m))) = ((List.range 18).map fun m => decide (i = m)).map V.bl := by rw [List.map_map]; rfl
        have g1 := s3 _ _ eq
        rw [hb] at g1 e3
        refine ⟨_, _, .lst (.inl (.inl g1)) (dps_bools _), .lst (.inl (.inl e3)) (dps_bools _), shaped_bools _, shaped_bools _, _, rfl, ?_⟩
        rw [SeqAt.eqv_refl _ (SeqAt.canLay_of_shaped (shaped_bools _))]
        refine iteF ?_
        have sG : Same H8 G3 := sT.trans (sq.trans s3)
        refine ⟨_, rfl, y, c i, dd, .ref (c 18), .ref (c 18), true, rfl, xv.same sG, xd_same sG xd, T.ex i (by omega), fun u r => r, T.kitF i (by omega), true, rfl, ?_⟩
        refine iteF ?_
        refine ⟨_, rfl, y, c i, dd, .ty "ValueError", .type "ValueError", true, rfl, xv.same sG, xd_same sG xd, T.ex i (by omega), fun u r => r, T.kitV i (by omega), true, rfl, ?_⟩
        refine iteF ?_
        exact ⟨_, _, rfl, sG⟩
    rintro σ H' ⟨v7, v8, rfl, s9⟩
    -- what the errors keep
    refine ⟨_, rfl, p4, rfl, ⟨_, .inl (.inl (s9 _ _ r5))⟩, fun D3 nD3 => ?_⟩
    refine lc_list (K := K) (a := p4) (xs := [t0, t1, t2, t3, t4].map V.ref) (fun i H'' => Same H' H'' ∧ H'' D3 = some (.lst [])) ⟨same_upd nD3, upd_same⟩ (fun i H'' _ h => .inl (.inl (h.1 _ _ (s9 _ _ r5)))) ?_ ?_
    · rintro i y G1 hi ⟨s7, e7⟩
      have turn : ∀ (t z : Addr), G1 t = some (.tup [.ref z, v2, v2]) → y = .ref t →
          ∀ (σ0 : L2.St) (Qn : Bool → Hp → Prop), σ0[3]? = some (some v2) → σ0[6]? = some (some y) → (∀ G2, Same G1 G2 → Qn false G2) →
          tTest (tOp rNe (tCB (rRepr2 K) (tCons (tLst' (tCons (tOp (rIxT K) (tVar 6) (tC (.int 1))) (tCons (tOp (rIxT K) (tVar 6) (tC (.int 2))) tNil))) tNil)) (tCB (rRepr2 K) (tCons (tLst' (tCons (tVar 3) (tCons (tVar 3) tNil))) tNil))) σ0 G1 Qn := by
        rintro t z ht rfl σ0 Qn h3 h6 hq
        have xx : Dx K G1 v2 dt := (x8.same s9).same s7
        refine ⟨_, h6, t, _, 1, v2, rfl, rfl, .inl (.inl ht), atI_nat (j := 1) rfl, _, h6, t, _, 2, v2, rfl, rfl, .inl (.inl ht), atI_nat (j := 2) rfl, (by show 2 ≤ sizeLine; decide), fun g ng hg => ?_⟩
        have sg := same_upd ng (o := .lst [v2, v2])
        refine ⟨g, v2, v2, dt, rfl, upd_same, hg, xx.same sg, xx.same sg, ok3.1, ok3.2.1, ok3.2.2, _, h3, _, h3, (by show 2 ≤ sizeLine; decide), fun g' ng' hg' => ?_⟩
        have sg' := same_upd ng' (o := .lst [v2, v2])
        refine ⟨g', v2, v2, dt, rfl, upd_same, hg', (xx.same sg).same sg', (xx.same sg).same sg', ok3.1, ok3.2.1, ok3.2.2, rfl, _, rfl, ?_⟩
        have hd : (!decide (V.str (PyData.list [dt, dt]).shown = V.str (PyData.list [dt, dt]).shown)) = false := by simp
        rw [hd]
        exact hq _ (sg.trans sg')
      match i, hi with
      | 0, hi =>
        cases hi
        refine ⟨rfl, ?_⟩
        refine turn t0 z0 (s7 _ _ (s9 _ _ r0)) rfl _ _ rfl rfl fun G2 s11 => ?_
        refine iteF ?_
        exact ⟨s7.trans s11, s11 _ _ e7⟩
      | 1, hi =>
        cases hi
        refine ⟨rfl, ?_⟩
        refine turn t1 z1 (s7 _ _ (s9 _ _ r1)) rfl _ _ rfl rfl fun G2 s11 => ?_
        refine iteF ?_
        exact ⟨s7.trans s11, s11 _ _ e7⟩
      | 2, hi =>
        cases hi
        refine ⟨rfl, ?_⟩
        refine turn t2 z2 (s7 _ _ (s9 _ _ r2)) rfl _ _ rfl rfl fun G2 s11 => ?_
        refine iteF ?_
        exact ⟨s7.trans s11, s11 _ _ e7⟩
      | 3, hi =>
        cases hi
        refine ⟨rfl, ?_⟩
        refine turn t3 z3 (s7 _ _ (s9 _ _ r3)) rfl _ _ rfl rfl fun G2 s11 => ?_
        refine iteF ?_
        exact ⟨s7.trans s11, s11 _ _ e7⟩
      | 4, hi =>
        cases hi
        refine ⟨rfl, ?_⟩
        refine turn t4 z4 (s7 _ _ (s9 _ _ r4)) rfl _ _ rfl rfl fun G2 s11 => ?_
        refine iteF ?_
        exact ⟨s7.trans s11, s11 _ _ e7⟩
      | n + 5, hi => simp at hi
    rintro G1 ⟨s7, e7⟩
    refine ⟨by show 0 ≤ sizeLine; decide, fun g4 n4 => ?_⟩
    have s10 := same_upd n4 (o := .lst [])
    refine ⟨.list [], .list [], .lst (.inl (.inl (s10 _ _ e7))) .nil, .lst (.inl (.inl upd_same)) .nil, by decide, by decide, _, rfl, ?_⟩
    refine iteF ?_
    -- base_here
    refine fun y ny => ?_
    refine ⟨_, rfl, y, 18, none, rfl, by decide, exo_new, (fun dd e => nomatch e), fun q G5 nq sq eq => ?_⟩
    refine ⟨q, _, rfl, .inl (.inl (.inl eq)), rfl, by decide, _, rfl, ?_⟩
    refine iteT ?_
    refine ⟨_, rfl, y, c 18, none, .ty "ValueError", .type "ValueError", true, rfl, exo_new.same sq, (fun dd e => nomatch e), T.ex 18 (by decide), fun u r => r, T.kitV 18 (by decide), k G5⟩
end
end Fr
namespace Fr
open PySem PySem.Spec PyProof.Rows L2
abbrev gaId : Option (Option Value) := some (some (.builtin "BaseException.__getattribute__"))
def excB (K : Frag) (D : Addr) : Bool :=
  decide (PySem.W.findIn K (.ref D) "__getattribute__" = gaId) && decide (PySem.W.findIn K (.ref D) "__getattr__" = some none) &&
  decide (PySem.W.subIn K (.ref D) (.type "BaseException") = some true) && PySem.W.hasDictIn K D &&
  decide (PySem.W.findIn K (.ref D) "__class__" = some (some (.builtin "object.__class__"))) &&
  decide (PySem.W.specialIn K (.builtin "object.__class__") "__get__" = some (some (.builtin "getset_descriptor.__get__"))) &&
  decide (PySem.W.takesIn K (.builtin "object.__class__") = some true) && decide (PySem.W.mroIn K D (.type "object") = some true)
theorem excB_ok {K : Frag} {D : Addr} (h : excB K D = true) : ExcC K D := by
  unfold excB at h
  simp only [Bool.and_eq_true, decide_eq_true_eq] at h
  obtain ⟨⟨⟨⟨⟨⟨⟨h1, h2⟩, h3⟩, h4⟩, h5⟩, h6⟩, h7⟩, h8⟩ := h
  exact ⟨h1, h2, h3, h4, h5, h6, h7, h8⟩
def csB (K : Frag) (cs : List Addr) : Bool :=
  ((List.range 19).all fun i => (List.range 18).all fun j => decide (PySem.W.kitOne K (.ref (cs.getD i 0)) (.ref (cs.getD j 0)) = some (decide (i = j)))) &&
  ((List.range 19).all fun i => decide (PySem.W.kitOne K (.ref (cs.getD i 0)) (.ref (cs.getD 18 0)) = some true) && decide (PySem.W.kitOne K (.ref (cs.getD i 0)) (.type "ValueError") = some true) &&
    excB K (cs.getD i 0) && PySem.W.keepIn K (.ref (cs.getD i 0)) && (decide (13 ≤ i ∧ i < 18) || PySem.W.excIn K (cs.getD i 0) veBase "ValueError.__new__"))
theorem all_mk {l : PySem.W.OpenLaw} {w : World} {K : Frag} {h : Heap} {mg : Str → Option Value} {fa Kl0 Kl1 Kl2 Kl3 Kl4 Kl5 Kl6 Kl7 Kl8 Kl9 Kl10 Kl11 Kl12 Kl13 Kl14 Kl15 Kl16 Kl17 Kl18 I13 I14 I15 I16 I17 F0 F1 F2 F3 F4 F5 F6 F7 F8 : Addr} (X : K.In h) (G : h.Ns mainGlobals mg) (hfa : mg "law" = some (.ref fa))
    (aKl0 : PySem.W.nsIn K mainGlobals "BadPrime" = some (some (.ref Kl0)))
    (aKl1 : PySem.W.nsIn K mainGlobals "BadLot" = some (some (.ref Kl1)))
    (aKl2 : PySem.W.nsIn K mainGlobals "BadThing" = some (some (.ref Kl2)))
    (aKl3 : PySem.W.nsIn K mainGlobals "BadTable" = some (some (.ref Kl3)))
    (aKl4 : PySem.W.nsIn K mainGlobals "BadSum" = some (some (.ref Kl4)))
    (aKl5 : PySem.W.nsIn K mainGlobals "BadDeed" = some (some (.ref Kl5)))
    (aKl6 : PySem.W.nsIn K mainGlobals "BadLive" = some (some (.ref Kl6)))
    (aKl7 : PySem.W.nsIn K mainGlobals "BadName" = some (some (.ref Kl7)))
    (aKl8 : PySem.W.nsIn K mainGlobals "BadStart" = some (some (.ref Kl8)))
    (aKl9 : PySem.W.nsIn K mainGlobals "NothingLeft" = some (some (.ref Kl9)))
    (aKl10 : PySem.W.nsIn K mainGlobals "BadRow" = some (some (.ref Kl10)))
    (aKl11 : PySem.W.nsIn K mainGlobals "BadTower" = some (some (.ref Kl11)))
    (aKl12 : PySem.W.nsIn K mainGlobals "BadWeights" = some (some (.ref Kl12)))
    (aKl13 : PySem.W.nsIn K mainGlobals "BadNumber" = some (some (.ref Kl13)))
    (aKl14 : PySem.W.nsIn K mainGlobals "BadBook" = some (some (.ref Kl14)))
    (aKl15 : PySem.W.nsIn K mainGlobals "TooMany" = some (some (.ref Kl15)))
    (aKl16 : PySem.W.nsIn K mainGlobals "BadText" = some (some (.ref Kl16)))
    (aKl17 : PySem.W.nsIn K mainGlobals "NoWatch" = some (some (.ref Kl17)))
    (aKl18 : PySem.W.nsIn K mainGlobals "FlatError" = some (some (.ref Kl18)))
    {nm13 q13 : Str} {N13 : Addr} {bs13 bm13 sub13 : List Value} {sn13 : List Str} {ab13 : Bool} {col13 : Option Bool} {dd13 : Option Addr} {k013 k113 k213 k313 k513 : Option Value}
    (xL13 : K.lookup Kl13 = some (excClassObj nm13 q13 Kl13 N13 bs13 bm13 true sn13 sub13 ab13 col13 dd13 k013 k113 k213 k313 k513 "ValueError.__new__")) (xr13 : PySem.HandSPX.refsVE bm13 = true)
    (sa13 : PySem.W.findIn K (.ref Kl13) "__setattr__" = some (some (.builtin "object.__setattr__"))) (ex13 : PySem.W.subIn K (.ref Kl13) (.type "BaseException") = some true) (ty13 : PySem.W.typeIn K (.ref Kl13) = some (.type "type")) (kp13 : PySem.W.keepIn K (.ref Kl13) = true)
    (ga13 : PySem.W.findIn K (.ref Kl13) "__getattribute__" = some (some (.builtin "BaseException.__getattribute__"))) (gg13 : PySem.W.findIn K (.ref Kl13) "__getattr__" = some none) (hd13 : PySem.W.hasDictIn K Kl13 = true) (no13 : PySem.W.findIn K (.ref Kl13) "part" = some none)
    {oci13 kVi13 dci13 pmi13 cdi13 cti13 : Value} {odi13 ani13 : Option Addr} {sli13 : Array (Option Value)}
    (ii13 : PySem.W.findIn K (.ref Kl13) "__init__" = some (some (.ref I13))) (ti13 : PySem.W.typeIn K (.ref I13) = some (.type "function"))
    (li13 : K.lookup I13 = some ⟨oci13, odi13, .func (PySem.W.fnOf "__init__" "BadNumber.__init__" (C8.fnArgs s_init13) (C8.fnBody s_init13) (C8.fnScope s_init13) .none kVi13 dci13 pmi13 ani13 cdi13 cti13), sli13⟩) (ci13 : PySem.W.codeIn K cdi13 "BadNumber.__init__" = true)
    {nm14 q14 : Str} {N14 : Addr} {bs14 bm14 sub14 : List Value} {sn14 : List Str} {ab14 : Bool} {col14 : Option Bool} {dd14 : Option Addr} {k014 k114 k214 k314 k514 : Option Value}
    (xL14 : K.lookup Kl14 = some (excClassObj nm14 q14 Kl14 N14 bs14 bm14 true sn14 sub14 ab14 col14 dd14 k014 k114 k214 k314 k514 "ValueError.__new__")) (xr14 : PySem.HandSPX.refsVE bm14 = true)
    (sa14 : PySem.W.findIn K (.ref Kl14) "__setattr__" = some (some (.builtin "object.__setattr__"))) (ex14 : PySem.W.subIn K (.ref Kl14) (.type "BaseException") = some true) (ty14 : PySem.W.typeIn K (.ref Kl14) = some (.type "type")) (kp14 : PySem.W.keepIn K (.ref Kl14) = true)
    (ga14 : PySem.W.findIn K (.ref Kl14) "__getattribute__" = some (some (.builtin "BaseException.__getattribute__"))) (gg14 : PySem.W.findIn K (.ref Kl14) "__getattr__" = some none) (hd14 : PySem.W.hasDictIn K Kl14 = true) (no14 : PySem.W.findIn K (.ref Kl14) "part" = some none)
    {oci14 kVi14 dci14 pmi14 cdi14 cti14 : Value} {odi14 ani14 : Option Addr} {sli14 : Array (Option Value)}
    (ii14 : PySem.W.findIn K (.ref Kl14) "__init__" = some (some (.ref I14))) (ti14 : PySem.W.typeIn K (.ref I14) = some (.type "function"))
    (li14 : K.lookup I14 = some ⟨oci14, odi14, .func (PySem.W.fnOf "__init__" "BadBook.__init__" (C8.fnArgs s_init14) (C8.fnBody s_init14) (C8.fnScope s_init14) .none kVi14 dci14 pmi14 ani14 cdi14 cti14), sli14⟩) (ci14 : PySem.W.codeIn K cdi14 "BadBook.__init__" = true)
    {nm15 q15 : Str} {N15 : Addr} {bs15 bm15 sub15 : List Value} {sn15 : List Str} {ab15 : Bool} {col15 : Option Bool} {dd15 : Option Addr} {k015 k115 k215 k315 k515 : Option Value}
    (xL15 : K.lookup Kl15 = some (excClassObj nm15 q15 Kl15 N15 bs15 bm15 true sn15 sub15 ab15 col15 dd15 k015 k115 k215 k315 k515 "ValueError.__new__")) (xr15 : PySem.HandSPX.refsVE bm15 = true)
    (sa15 : PySem.W.findIn K (.ref Kl15) "__setattr__" = some (some (.builtin "object.__setattr__"))) (ex15 : PySem.W.subIn K (.ref Kl15) (.type "BaseException") = some true) (ty15 : PySem.W.typeIn K (.ref Kl15) = some (.type "type")) (kp15 : PySem.W.keepIn K (.ref Kl15) = true)
    (ga15 : PySem.W.findIn K (.ref Kl15) "__getattribute__" = some (some (.builtin "BaseException.__getattribute__"))) (gg15 : PySem.W.findIn K (.ref Kl15) "__getattr__" = some none) (hd15 : PySem.W.hasDictIn K Kl15 = true) (no15 : PySem.W.findIn K (.ref Kl15) "most" = some none)
    {oci15 kVi15 dci15 pmi15 cdi15 cti15 : Value} {odi15 ani15 : Option Addr} {sli15 : Array (Option Value)}
    (ii15 : PySem.W.findIn K (.ref Kl15) "__init__" = some (some (.ref I15))) (ti15 : PySem.W.typeIn K (.ref I15) = some (.type "function"))
    (li15 : K.lookup I15 = some ⟨oci15, odi15, .func (PySem.W.fnOf "__init__" "TooMany.__init__" (C8.fnArgs s_init15) (C8.fnBody s_init15) (C8.fnScope s_init15) .none kVi15 dci15 pmi15 ani15 cdi15 cti15), sli15⟩) (ci15 : PySem.W.codeIn K cdi15 "TooMany.__init__" = true)
    {nm16 q16 : Str} {N16 : Addr} {bs16 bm16 sub16 : List Value} {sn16 : List Str} {ab16 : Bool} {col16 : Option Bool} {dd16 : Option Addr} {k016 k116 k216 k316 k516 : Option Value}
    (xL16 : K.lookup Kl16 = some (excClassObj nm16 q16 Kl16 N16 bs16 bm16 true sn16 sub16 ab16 col16 dd16 k016 k116 k216 k316 k516 "ValueError.__new__")) (xr16 : PySem.HandSPX.refsVE bm16 = true)
    (sa16 : PySem.W.findIn K (.ref Kl16) "__setattr__" = some (some (.builtin "object.__setattr__"))) (ex16 : PySem.W.subIn K (.ref Kl16) (.type "BaseException") = some true) (ty16 : PySem.W.typeIn K (.ref Kl16) = some (.type "type")) (kp16 : PySem.W.keepIn K (.ref Kl16) = true)
    (ga16 : PySem.W.findIn K (.ref Kl16) "__getattribute__" = some (some (.builtin "BaseException.__getattribute__"))) (gg16 : PySem.W.findIn K (.ref Kl16) "__getattr__" = some none) (hd16 : PySem.W.hasDictIn K Kl16 = true) (no16 : PySem.W.findIn K (.ref Kl16) "at" = some none)
    {oci16 kVi16 dci16 pmi16 cdi16 cti16 : Value} {odi16 ani16 : Option Addr} {sli16 : Array (Option Value)}
    (ii16 : PySem.W.findIn K (.ref Kl16) "__init__" = some (some (.ref I16))) (ti16 : PySem.W.typeIn K (.ref I16) = some (.type "function"))
    (li16 : K.lookup I16 = some ⟨oci16, odi16, .func (PySem.W.fnOf "__init__" "BadText.__init__" (C8.fnArgs s_init16) (C8.fnBody s_init16) (C8.fnScope s_init16) .none kVi16 dci16 pmi16 ani16 cdi16 cti16), sli16⟩) (ci16 : PySem.W.codeIn K cdi16 "BadText.__init__" = true)
    {nm17 q17 : Str} {N17 : Addr} {bs17 bm17 sub17 : List Value} {sn17 : List Str} {ab17 : Bool} {col17 : Option Bool} {dd17 : Option Addr} {k017 k117 k217 k317 k517 : Option Value}
    (xL17 : K.lookup Kl17 = some (excClassObj nm17 q17 Kl17 N17 bs17 bm17 true sn17 sub17 ab17 col17 dd17 k017 k117 k217 k317 k517 "ValueError.__new__")) (xr17 : PySem.HandSPX.refsVE bm17 = true)
    (sa17 : PySem.W.findIn K (.ref Kl17) "__setattr__" = some (some (.builtin "object.__setattr__"))) (ex17 : PySem.W.subIn K (.ref Kl17) (.type "BaseException") = some true) (ty17 : PySem.W.typeIn K (.ref Kl17) = some (.type "type")) (kp17 : PySem.W.keepIn K (.ref Kl17) = true)
    (ga17 : PySem.W.findIn K (.ref Kl17) "__getattribute__" = some (some (.builtin "BaseException.__getattribute__"))) (gg17 : PySem.W.findIn K (.ref Kl17) "__getattr__" = some none) (hd17 : PySem.W.hasDictIn K Kl17 = true) (no17 : PySem.W.findIn K (.ref Kl17) "name" = some none)
    {oci17 kVi17 dci17 pmi17 cdi17 cti17 : Value} {odi17 ani17 : Option Addr} {sli17 : Array (Option Value)}
    (ii17 : PySem.W.findIn K (.ref Kl17) "__init__" = some (some (.ref I17))) (ti17 : PySem.W.typeIn K (.ref I17) = some (.type "function"))
    (li17 : K.lookup I17 = some ⟨oci17, odi17, .func (PySem.W.fnOf "__init__" "NoWatch.__init__" (C8.fnArgs s_init17) (C8.fnBody s_init17) (C8.fnScope s_init17) .none kVi17 dci17 pmi17 ani17 cdi17 cti17), sli17⟩) (ci17 : PySem.W.codeIn K cdi17 "NoWatch.__init__" = true)
    (cs : csB K [Kl0, Kl1, Kl2, Kl3, Kl4, Kl5, Kl6, Kl7, Kl8, Kl9, Kl10, Kl11, Kl12, Kl13, Kl14, Kl15, Kl16, Kl17, Kl18] = true)
    {oc0 kV0 dc0 pm0 cd0 ct0 : Value} {od0 an0 : Option Addr} {sl0 : Array (Option Value)}
    (a0 : PySem.W.nsIn K mainGlobals "_law_begun" = some (some (.ref F0))) (l0 : K.lookup F0 = some ⟨oc0, od0, .func (PySem.W.fnOf "_law_begun" "_law_begun" (C8.fnArgs s_law_begun) (C8.fnBody s_law_begun) (C8.fnScope s_law_begun) .none kV0 dc0 pm0 an0 cd0 ct0), sl0⟩) (c0 : PySem.W.codeIn K cd0 "_law_begun" = true) (k0 : PySem.W.keepIn K (.ref F0) = true)
    {oc1 kV1 dc1 pm1 cd1 ct1 : Value} {od1 an1 : Option Addr} {sl1 : Array (Option Value)}
    (a1 : PySem.W.nsIn K mainGlobals "_law_mixed" = some (some (.ref F1))) (l1 : K.lookup F1 = some ⟨oc1, od1, .func (PySem.W.fnOf "_law_mixed" "_law_mixed" (C8.fnArgs s_law_mixed) (C8.fnBody s_law_mixed) (C8.fnScope s_law_mixed) .none kV1 dc1 pm1 an1 cd1 ct1), sl1⟩) (c1 : PySem.W.codeIn K cd1 "_law_mixed" = true) (k1 : PySem.W.keepIn K (.ref F1) = true)
    {oc2 kV2 dc2 pm2 cd2 ct2 : Value} {od2 an2 : Option Addr} {sl2 : Array (Option Value)}
    (a2 : PySem.W.nsIn K mainGlobals "_law_take" = some (some (.ref F2))) (l2 : K.lookup F2 = some ⟨oc2, od2, .func (PySem.W.fnOf "_law_take" "_law_take" (C8.fnArgs s_law_take) (C8.fnBody s_law_take) (C8.fnScope s_law_take) .none kV2 dc2 pm2 an2 cd2 ct2), sl2⟩) (c2 : PySem.W.codeIn K cd2 "_law_take" = true) (k2 : PySem.W.keepIn K (.ref F2) = true)
    {oc3 kV3 dc3 pm3 cd3 ct3 : Value} {od3 an3 : Option Addr} {sl3 : Array (Option Value)}
    (a3 : PySem.W.nsIn K mainGlobals "_law_pick" = some (some (.ref F3))) (l3 : K.lookup F3 = some ⟨oc3, od3, .func (PySem.W.fnOf "_law_pick" "_law_pick" (C8.fnArgs s_law_pick) (C8.fnBody s_law_pick) (C8.fnScope s_law_pick) .none kV3 dc3 pm3 an3 cd3 ct3), sl3⟩) (c3 : PySem.W.codeIn K cd3 "_law_pick" = true) (k3 : PySem.W.keepIn K (.ref F3) = true)
    {oc4 kV4 dc4 pm4 cd4 ct4 : Value} {od4 an4 : Option Addr} {sl4 : Array (Option Value)}
    (a4 : PySem.W.nsIn K mainGlobals "_law_any" = some (some (.ref F4))) (l4 : K.lookup F4 = some ⟨oc4, od4, .func (PySem.W.fnOf "_law_any" "_law_any" (C8.fnArgs s_law_any) (C8.fnBody s_law_any) (C8.fnScope s_law_any) .none kV4 dc4 pm4 an4 cd4 ct4), sl4⟩) (c4 : PySem.W.codeIn K cd4 "_law_any" = true) (k4 : PySem.W.keepIn K (.ref F4) = true)
    {oc5 kV5 dc5 pm5 cd5 ct5 : Value} {od5 an5 : Option Addr} {sl5 : Array (Option Value)}
    (a5 : PySem.W.nsIn K mainGlobals "_law_kinds" = some (some (.ref F5))) (l5 : K.lookup F5 = some ⟨oc5, od5, .func (PySem.W.fnOf "_law_kinds" "_law_kinds" (C8.fnArgs s_law_kinds) (C8.fnBody s_law_kinds) (C8.fnScope s_law_kinds) .none kV5 dc5 pm5 an5 cd5 ct5), sl5⟩) (c5 : PySem.W.codeIn K cd5 "_law_kinds" = true) (k5 : PySem.W.keepIn K (.ref F5) = true)
    {oc6 kV6 dc6 pm6 cd6 ct6 : Value} {od6 an6 : Option Addr} {sl6 : Array (Option Value)}
    (a6 : PySem.W.nsIn K mainGlobals "_law_plain_errors" = some (some (.ref F6))) (l6 : K.lookup F6 = some ⟨oc6, od6, .func (PySem.W.fnOf "_law_plain_errors" "_law_plain_errors" (C8.fnArgs s_law_plain_errors) (C8.fnBody s_law_plain_errors) (C8.fnScope s_law_plain_errors) .none kV6 dc6 pm6 an6 cd6 ct6), sl6⟩) (c6 : PySem.W.codeIn K cd6 "_law_plain_errors" = true) (k6 : PySem.W.keepIn K (.ref F6) = true)
    {oc7 kV7 dc7 pm7 cd7 ct7 : Value} {od7 an7 : Option Addr} {sl7 : Array (Option Value)}
    (a7 : PySem.W.nsIn K mainGlobals "_law_errors_of" = some (some (.ref F7))) (l7 : K.lookup F7 = some ⟨oc7, od7, .func (PySem.W.fnOf "_law_errors_of" "_law_errors_of" (C8.fnArgs s_law_errors_of) (C8.fnBody s_law_errors_of) (C8.fnScope s_law_errors_of) .none kV7 dc7 pm7 an7 cd7 ct7), sl7⟩) (c7 : PySem.W.codeIn K cd7 "_law_errors_of" = true) (k7 : PySem.W.keepIn K (.ref F7) = true)
    {oc8 kV8 dc8 pm8 cd8 ct8 : Value} {od8 an8 : Option Addr} {sl8 : Array (Option Value)}
    (a8 : PySem.W.nsIn K mainGlobals "law" = some (some (.ref F8))) (l8 : K.lookup F8 = some ⟨oc8, od8, .func (PySem.W.fnOf "law" "law" (C8.fnArgs s_law) (C8.fnBody s_law) (C8.fnScope s_law) .none kV8 dc8 pm8 an8 cd8 ct8), sl8⟩) (c8 : PySem.W.codeIn K cd8 "law" = true) (k8 : PySem.W.keepIn K (.ref F8) = true)
    (z_abs : PySem.W.nsIn K mainGlobals "abs" = some none)
    (z_int : PySem.W.nsIn K mainGlobals "int" = some none)
    (z_len : PySem.W.nsIn K mainGlobals "len" = some none)
    (z_isinstance : PySem.W.nsIn K mainGlobals "isinstance" = some none)
    (z_repr : PySem.W.nsIn K mainGlobals "repr" = some none)
    (z_range : PySem.W.nsIn K mainGlobals "range" = some none)
    (z_enumerate : PySem.W.nsIn K mainGlobals "enumerate" = some none)
    (z_ValueError : PySem.W.nsIn K mainGlobals "ValueError" = some none)
    : ∃ fd : FuncData, (∀ (s : Shared) (u : Value), BindsTo s fd ⟨[u], []⟩ [("script", u)]) ∧ ∀ base : Heap, K.In base → base.Ns mainGlobals mg → FnG l.prog w K mg base C8.CX0 9 fa fd ["script"] (spLaw K) := by
  have e := hfa.symm.trans (PySem.W.mg_of X G a8)
  cases e
  let c : Nat → Addr := fun i => [Kl0, Kl1, Kl2, Kl3, Kl4, Kl5, Kl6, Kl7, Kl8, Kl9, Kl10, Kl11, Kl12, Kl13, Kl14, Kl15, Kl16, Kl17, Kl18].getD i 0
  let f : Nat → Addr := fun i => [I13, I14, I15, I16, I17].getD (i - 13) 0
  unfold csB at cs
  rw [Bool.and_eq_true] at cs
  obtain ⟨cs1, cs2⟩ := cs
  rw [List.all_eq_true] at cs1 cs2
  have cs2' : ∀ i, i < 19 → PySem.W.kitOne K (.ref (c i)) (.ref (c 18)) = some true ∧ PySem.W.kitOne K (.ref (c i)) (.type "ValueError") = some true ∧ ExcC K (c i) ∧ PySem.W.keepIn K (.ref (c i)) = true ∧ (¬ (13 ≤ i ∧ i < 18) → PySem.W.excIn K (c i) veBase "ValueError.__new__" = true) := by
    intro i hi
    have z := cs2 i (List.mem_range.mpr hi)
    simp only [Bool.and_eq_true, Bool.or_eq_true, decide_eq_true_eq] at z
    obtain ⟨⟨⟨⟨z1, z2⟩, z3⟩, z4⟩, z5⟩ := z
    exact ⟨z1, z2, excB_ok z3, z4, fun n => z5.resolve_left n⟩
  have T : Cs K mg c f :=
    { kits := fun i hi j hj => of_decide_eq_true (List.all_eq_true.mp (cs1 i (List.mem_range.mpr hi)) j (List.mem_range.mpr hj))
      kitF := fun i hi => (cs2' i hi).1
      kitV := fun i hi => (cs2' i hi).2.1
      ex := fun i hi => (cs2' i hi).2.2.1
      plain := fun i hi n => ⟨(cs2' i hi).2.2.2.2 n, (cs2' i hi).2.2.2.1⟩
      own := fun i h1 h2 => by
        rcases (show i = 13 ∨ i = 14 ∨ i = 15 ∨ i = 16 ∨ i = 17 by omega) with rfl | rfl | rfl | rfl | rfl
        · exact ⟨⟨⟨_, _, _, _, _, _, _, _, _, _, _, _, _, _, _, xL13, xr13⟩, sa13, ex13, ty13, kp13⟩, ⟨ga13, gg13, ex13, hd13⟩⟩
        · exact ⟨⟨⟨_, _, _, _, _, _, _, _, _, _, _, _, _, _, _, xL14, xr14⟩, sa14, ex14, ty14, kp14⟩, ⟨ga14, gg14, ex14, hd14⟩⟩
        · exact ⟨⟨⟨_, _, _, _, _, _, _, _, _, _, _, _, _, _, _, xL15, xr15⟩, sa15, ex15, ty15, kp15⟩, ⟨ga15, gg15, ex15, hd15⟩⟩
        · exact ⟨⟨⟨_, _, _, _, _, _, _, _, _, _, _, _, _, _, _, xL16, xr16⟩, sa16, ex16, ty16, kp16⟩, ⟨ga16, gg16, ex16, hd16⟩⟩
        · exact ⟨⟨⟨_, _, _, _, _, _, _, _, _, _, _, _, _, _, _, xL17, xr17⟩, sa17, ex17, ty17, kp17⟩, ⟨ga17, gg17, ex17, hd17⟩⟩
      g0 := PySem.W.mg_of X G aKl0
      g1 := PySem.W.mg_of X G aKl1
      g2 := PySem.W.mg_of X G aKl2
      g3 := PySem.W.mg_of X G aKl3
      g4 := PySem.W.mg_of X G aKl4
      g5 := PySem.W.mg_of X G aKl5
      g6 := PySem.W.mg_of X G aKl6
      g7 := PySem.W.mg_of X G aKl7
      g8 := PySem.W.mg_of X G aKl8
      g9 := PySem.W.mg_of X G aKl9
      g10 := PySem.W.mg_of X G aKl10
      g11 := PySem.W.mg_of X G aKl11
      g12 := PySem.W.mg_of X G aKl12
      g13 := PySem.W.mg_of X G aKl13
      g14 := PySem.W.mg_of X G aKl14
      g15 := PySem.W.mg_of X G aKl15
      g16 := PySem.W.mg_of X G aKl16
      g17 := PySem.W.mg_of X G aKl17
      g18 := PySem.W.mg_of X G aKl18
      n13 := no13
      i13 := ii13
      t13 := ti13
      n14 := no14
      i14 := ii14
      t14 := ti14
      n15 := no15
      i15 := ii15
      t15 := ti15
      n16 := no16
      i16 := ii16
      t16 := ti16
      n17 := no17
      i17 := ii17
      t17 := ti17
    }
  have B : Bk mg := ⟨⟨PySem.W.mg_none_of X G z_abs, PySem.W.mg_none_of X G z_int, PySem.W.mg_none_of X G z_len⟩, PySem.W.mg_none_of X G z_isinstance, PySem.W.mg_none_of X G z_repr, PySem.W.mg_none_of X G z_range, PySem.W.mg_none_of X G z_enumerate, PySem.W.mg_none_of X G z_ValueError⟩
  have Fi13 : C8.Fun K "__init__" "BadNumber.__init__" s_init13 (f 13) _ := ⟨⟨_, _, _, _, _, _, _, _, _, _, rfl, li13, ci13⟩⟩
  have bi13 := Fi13.binds rfl (ps := ["self", "part"]) fun _ _ _ _ _ _ us hl => match us, hl with | [_, _], _ => rfl
  have Fi14 : C8.Fun K "__init__" "BadBook.__init__" s_init14 (f 14) _ := ⟨⟨_, _, _, _, _, _, _, _, _, _, rfl, li14, ci14⟩⟩
  have bi14 := Fi14.binds rfl (ps := ["self", "part"]) fun _ _ _ _ _ _ us hl => match us, hl with | [_, _], _ => rfl
  have Fi15 : C8.Fun K "__init__" "TooMany.__init__" s_init15 (f 15) _ := ⟨⟨_, _, _, _, _, _, _, _, _, _, rfl, li15, ci15⟩⟩
  have bi15 := Fi15.binds rfl (ps := ["self", "most"]) fun _ _ _ _ _ _ us hl => match us, hl with | [_, _], _ => rfl
  have Fi16 : C8.Fun K "__init__" "BadText.__init__" s_init16 (f 16) _ := ⟨⟨_, _, _, _, _, _, _, _, _, _, rfl, li16, ci16⟩⟩
  have bi16 := Fi16.binds rfl (ps := ["self", "at"]) fun _ _ _ _ _ _ us hl => match us, hl with | [_, _], _ => rfl
  have Fi17 : C8.Fun K "__init__" "NoWatch.__init__" s_init17 (f 17) _ := ⟨⟨_, _, _, _, _, _, _, _, _, _, rfl, li17, ci17⟩⟩
  have bi17 := Fi17.binds rfl (ps := ["self", "name"]) fun _ _ _ _ _ _ us hl => match us, hl with | [_, _], _ => rfl
  have D0 : C8.Def K mg "_law_begun" s_law_begun F0 _ := ⟨⟨⟨_, _, _, _, _, _, _, _, _, _, rfl, l0, c0⟩⟩, PySem.W.mg_of X G a0, k0⟩
  have b0 := D0.fn.binds rfl (ps := ["script"]) fun _ _ _ _ _ _ us hl => match us, hl with | [_], _ => rfl
  have D1 : C8.Def K mg "_law_mixed" s_law_mixed F1 _ := ⟨⟨⟨_, _, _, _, _, _, _, _, _, _, rfl, l1, c1⟩⟩, PySem.W.mg_of X G a1, k1⟩
  have b1 := D1.fn.binds rfl (ps := ["draw"]) fun _ _ _ _ _ _ us hl => match us, hl with | [_], _ => rfl
  have D2 : C8.Def K mg "_law_take" s_law_take F2 _ := ⟨⟨⟨_, _, _, _, _, _, _, _, _, _, rfl, l2, c2⟩⟩, PySem.W.mg_of X G a2, k2⟩
  have b2 := D2.fn.binds rfl (ps := ["draw", "amount"]) fun _ _ _ _ _ _ us hl => match us, hl with | [_, _], _ => rfl
  have D3 : C8.Def K mg "_law_pick" s_law_pick F3 _ := ⟨⟨⟨_, _, _, _, _, _, _, _, _, _, rfl, l3, c3⟩⟩, PySem.W.mg_of X G a3, k3⟩
  have b3 := D3.fn.binds rfl (ps := ["draw", "some"]) fun _ _ _ _ _ _ us hl => match us, hl with | [_, _], _ => rfl
  have D4 : C8.Def K mg "_law_any" s_law_any F4 _ := ⟨⟨⟨_, _, _, _, _, _, _, _, _, _, rfl, l4, c4⟩⟩, PySem.W.mg_of X G a4, k4⟩
  have b4 := D4.fn.binds rfl (ps := ["draw"]) fun _ _ _ _ _ _ us hl => match us, hl with | [_], _ => rfl
  have D5 : C8.Def K mg "_law_kinds" s_law_kinds F5 _ := ⟨⟨⟨_, _, _, _, _, _, _, _, _, _, rfl, l5, c5⟩⟩, PySem.W.mg_of X G a5, k5⟩
  have b5 := D5.fn.binds rfl (ps := ["error"]) fun _ _ _ _ _ _ us hl => match us, hl with | [_], _ => rfl
  have D6 : C8.Def K mg "_law_plain_errors" s_law_plain_errors F6 _ := ⟨⟨⟨_, _, _, _, _, _, _, _, _, _, rfl, l6, c6⟩⟩, PySem.W.mg_of X G a6, k6⟩
  have b6 := D6.fn.binds rfl (ps := ["words_here"]) fun _ _ _ _ _ _ us hl => match us, hl with | [_], _ => rfl
  have D7 : C8.Def K mg "_law_errors_of" s_law_errors_of F7 _ := ⟨⟨⟨_, _, _, _, _, _, _, _, _, _, rfl, l7, c7⟩⟩, PySem.W.mg_of X G a7, k7⟩
  have b7 := D7.fn.binds rfl (ps := ["each"]) fun _ _ _ _ _ _ us hl => match us, hl with | [_], _ => rfl
  have D8 : C8.Def K mg "law" s_law fa _ := ⟨⟨⟨_, _, _, _, _, _, _, _, _, _, rfl, l8, c8⟩⟩, PySem.W.mg_of X G a8, k8⟩
  refine ⟨PySem.W.fnOf "law" "law" (C8.fnArgs s_law) (C8.fnBody s_law) (C8.fnScope s_law) .none kV8 dc8 pm8 an8 cd8 ct8, fun s u => .of_eq rfl, fun base _ _ => ?_⟩
  have m1 : C8.Cal l.prog w K mg base 1 "_law_begun" (spBegun K) [] := ok_law_begun D0 b0 B.toBi
  have m2 : C8.Cal l.prog w K mg base 2 "_law_take" spTake [] := ok_law_take D2 b2 B.toBi (ok_law_mixed D1 b1 B.toBi)
  have m3 : C8.Cal l.prog w K mg base 3 "_law_pick" (spPick K) [] := ok_law_pick D3 b3 B.toBi m2
  let fds : Nat → FuncData := fun i => [PySem.W.fnOf "__init__" "BadNumber.__init__" (C8.fnArgs s_init13) (C8.fnBody s_init13) (C8.fnScope s_init13) .none kVi13 dci13 pmi13 ani13 cdi13 cti13, PySem.W.fnOf "__init__" "BadBook.__init__" (C8.fnArgs s_init14) (C8.fnBody s_init14) (C8.fnScope s_init14) .none kVi14 dci14 pmi14 ani14 cdi14 cti14, PySem.W.fnOf "__init__" "TooMany.__init__" (C8.fnArgs s_init15) (C8.fnBody s_init15) (C8.fnScope s_init15) .none kVi15 dci15 pmi15 ani15 cdi15 cti15, PySem.W.fnOf "__init__" "BadText.__init__" (C8.fnArgs s_init16) (C8.fnBody s_init16) (C8.fnScope s_init16) .none kVi16 dci16 pmi16 ani16 cdi16 cti16, PySem.W.fnOf "__init__" "NoWatch.__init__" (C8.fnArgs s_init17) (C8.fnBody s_init17) (C8.fnScope s_init17) .none kVi17 dci17 pmi17 ani17 cdi17 cti17].getD (i - 13) (PySem.W.fnOf "__init__" "BadNumber.__init__" (C8.fnArgs s_init13) (C8.fnBody s_init13) (C8.fnScope s_init13) .none kVi13 dci13 pmi13 ani13 cdi13 cti13)
  have I5 : In5 l.prog w K mg base c f fds :=
    { ok13 := ok_init13 Fi13 T
      b13 := bi13
      k13 := fun s a u _ => .of_eq rfl
      ok14 := ok_init14 Fi14 T
      b14 := bi14
      k14 := fun s a u _ => .of_eq rfl
      ok15 := ok_init15 Fi15 T
      b15 := bi15
      k15 := fun s a u _ => .of_eq rfl
      ok16 := ok_init16 Fi16 T
      b16 := bi16
      k16 := fun s a u _ => .of_eq rfl
      ok17 := ok_init17 Fi17 T
      b17 := bi17
      k17 := fun s a u _ => .of_eq rfl }
  exact ok_law D8 B T m1 m3 (ok_law_any D4 b4 B.toBi m3) (ok_law_errors_of D7 b7 T I5) (ok_law_plain_errors D6 b6 T) (ok_law_kinds D5 b5 B T)
end Fr
open PySem PySem.W PyProof.Rows
set_option maxRecDepth 100000 in
set_option maxHeartbeats 0 in
theorem PySem.Challenge.cw_flatrooms_k00_errors_of_all_parts_holds : PySem.Challenge.rw_flatrooms_k00_errors_of_all_parts.Holds := by
  w_on; o_law; k_head; (case hw => w_witness2)
  k_fill
  refine Fr.walkG (l := PySem.Challenge.rw_flatrooms_k00_errors_of_all_parts) (n := 63) (k := 9) (x := "script") (sp := fun w => Fr.spLaw _) rfl (by decide) rfl ⟨rfl, by decide, by decide⟩ (fun w h Y => PySem.W.kIn_of Y) ?F (fun _ _ a ns hl _ hS => ⟨a, ns, rfl, hS, hl, fun _ => rfl⟩)
  case F =>
    intro w mg fa h KX G hmg
    refine' Fr.all_mk KX G hmg ?aKl0 ?aKl1 ?aKl2 ?aKl3 ?aKl4 ?aKl5 ?aKl6 ?aKl7 ?aKl8 ?aKl9 ?aKl10 ?aKl11 ?aKl12 ?aKl13 ?aKl14 ?aKl15 ?aKl16 ?aKl17 ?aKl18 ?xL13 ?xr13 ?sa13 ?ex13 ?ty13 ?kp13 ?ga13 ?gg13 ?hd13 ?no13 ?ii13 ?ti13 ?li13 ?ci13 ?xL14 ?xr14 ?sa14 ?ex14 ?ty14 ?kp14 ?ga14 ?gg14 ?hd14 ?no14 ?ii14 ?ti14 ?li14 ?ci14 ?xL15 ?xr15 ?sa15 ?ex15 ?ty15 ?kp15 ?ga15 ?gg15 ?hd15 ?no15 ?ii15 ?ti15 ?li15 ?ci15 ?xL16 ?xr16 ?sa16 ?ex16 ?ty16 ?kp16 ?ga16 ?gg16 ?hd16 ?no16 ?ii16 ?ti16 ?li16 ?ci16 ?xL17 ?xr17 ?sa17 ?ex17 ?ty17 ?kp17 ?ga17 ?gg17 ?hd17 ?no17 ?ii17 ?ti17 ?li17 ?ci17 ?cs ?a0 ?l0 ?c0 ?k0 ?a1 ?l1 ?c1 ?k1 ?a2 ?l2 ?c2 ?k2 ?a3 ?l3 ?c3 ?k3 ?a4 ?l4 ?c4 ?k4 ?a5 ?l5 ?c5 ?k5 ?a6 ?l6 ?c6 ?k6 ?a7 ?l7 ?c7 ?k7 ?a8 ?l8 ?c8 ?k8 ?z_abs ?z_int ?z_len ?z_isinstance ?z_repr ?z_range ?z_enumerate ?z_ValueError
    (case aKl0 => k_is)
    (case aKl1 => k_is)
    (case aKl2 => k_is)
    (case aKl3 => k_is)
    (case aKl4 => k_is)
    (case aKl5 => k_is)
    (case aKl6 => k_is)
    (case aKl7 => k_is)
    (case aKl8 => k_is)
    (case aKl9 => k_is)
    (case aKl10 => k_is)
    (case aKl11 => k_is)
    (case aKl12 => k_is)
    (case aKl13 => k_is)
    (case aKl14 => k_is)
    (case aKl15 => k_is)
    (case aKl16 => k_is)
    (case aKl17 => k_is)
    (case aKl18 => k_is)
    (case xL13 => k_is)
    (case xr13 => rfl)
    (case sa13 => k_is)
    (case ex13 => k_is)
    (case ty13 => k_is)
    (case kp13 => k_is)
    (case ga13 => k_is)
    (case gg13 => k_is)
    (case hd13 => k_is)
    (case no13 => k_is)
    (case ii13 => k_is)
    (case ti13 => k_is)
    (case li13 => k_is)
    (case ci13 => k_is)
    (case xL14 => k_is)
    (case xr14 => rfl)
    (case sa14 => k_is)
    (case ex14 => k_is)
    (case ty14 => k_is)
    (case kp14 => k_is)
    (case ga14 => k_is)
    (case gg14 => k_is)
    (case hd14 => k_is)
    (case no14 => k_is)
    (case ii14 => k_is)
    (case ti14 => k_is)
    (case li14 => k_is)
    (case ci14 => k_is)
    (case xL15 => k_is)
    (case xr15 => rfl)
    (case sa15 => k_is)
    (case ex15 => k_is)
    (case ty15 => k_is)
    (case kp15 => k_is)
    (case ga15 => k_is)
    (case gg15 => k_is)
    (case hd15 => k_is)
    (case no15 => k_is)
    (case ii15 => k_is)
    (case ti15 => k_is)
    (case li15 => k_is)
    (case ci15 => k_is)
    (case xL16 => k_is)
    (case xr16 => rfl)
    (case sa16 => k_is)
    (case ex16 => k_is)
    (case ty16 => k_is)
    (case kp16 => k_is)
    (case ga16 => k_is)
    (case gg16 => k_is)
    (case hd16 => k_is)
    (case no16 => k_is)
    (case ii16 => k_is)
    (case ti16 => k_is)
    (case li16 => k_is)
    (case ci16 => k_is)
    (case xL17 => k_is)
    (case xr17 => rfl)
    (case sa17 => k_is)
    (case ex17 => k_is)
    (case ty17 => k_is)
    (case kp17 => k_is)
    (case ga17 => k_is)
    (case gg17 => k_is)
    (case hd17 => k_is)
    (case no17 => k_is)
    (case ii17 => k_is)
    (case ti17 => k_is)
    (case li17 => k_is)
    (case ci17 => k_is)
    (case cs => kernel_rfl)
    (case a0 => k_is)
    (case l0 => k_is)
    (case c0 => k_is)
    (case k0 => k_is)
    (case a1 => k_is)
    (case l1 => k_is)
    (case c1 => k_is)
    (case k1 => k_is)
    (case a2 => k_is)
    (case l2 => k_is)
    (case c2 => k_is)
    (case k2 => k_is)
    (case a3 => k_is)
    (case l3 => k_is)
    (case c3 => k_is)
    (case k3 => k_is)
    (case a4 => k_is)
    (case l4 => k_is)
    (case c4 => k_is)
    (case k4 => k_is)
    (case a5 => k_is)
    (case l5 => k_is)
    (case c5 => k_is)
    (case k5 => k_is)
    (case a6 => k_is)
    (case l6 => k_is)
    (case c6 => k_is)
    (case k6 => k_is)
    (case a7 => k_is)
    (case l7 => k_is)
    (case c7 => k_is)
    (case k7 => k_is)
    (case a8 => k_is)
    (case l8 => k_is)
    (case c8 => k_is)
    (case k8 => k_is)
    (case z_abs => k_is)
    (case z_int => k_is)
    (case z_len => k_is)
    (case z_isinstance => k_is)
    (case z_repr => k_is)
    (case z_range => k_is)
    (case z_enumerate => k_is)
    (case z_ValueError => k_is)
