import PyProof.Rows.All
import Wide.All
import OpenK.AllK
import Wide.FinOn
import HandS.ForMost
import HandS.Wide
import HandS.Zip
import HandS.Codes
import HandS.ForSpec
import HandS.ExcInit
import HandS.ExcValue
import HandS.ExcIs
import HandS.ExcField
import HandS.IsInst
import HandS.Lambda
import HandS.TupAny
import HandS.Deep
import HandS.Style
import HandS.Strs
import HandS.SetFor
import HandS.Conv
import HandS.TupSets
import HandS.SortInts
import HandS.DictComp
import HandS.Iter
import HandS.WideBits
import HandS.Text
import KE.IntBitsLaws
import KE.OsArith
import HandS.Exc
import HandS.MakeKw
import HandS.RaiseMore
import HandS.Steps
import HandS.ExcOwn
import HandS.NamedTupSort
import PySem.Challenge.RW_flatrooms_k02_ranks_and_closures
set_option Elab.async false
set_option linter.all false
set_option maxRecDepth 100000
set_option maxHeartbeats 16000000
namespace Fr
open PySem PySem.Spec PyProof.Rows L2
abbrev Frag := PySem.W.Frag
theorem same_upd {H : Hp} {p : Addr} {o : HO} (h : H p = none) : Same H (upd H p o) := fun b x e => by
  rw [upd_ne (ne_of_none e h)]
  exact e
theorem same_sqt {K : Frag} {H H' : Hp} {a : Addr} {xs : List V} (e : Same H H') (h : SqT K H a xs) : SqT K H' a xs := by
  rcases h with (h | ⟨o, h⟩) | h
  · exact .inl (.inl (e _ _ h))
  · exact .inl (.inr ⟨o, e _ _ h⟩)
  · exact .inr h
mutual
theorem dp_same {K : Frag} {H H' : Hp} (e : Same H H') : ∀ {v : V} {d : PyData}, Dp K H v d → Dp K H' v d
  | _, _, .non => .non
  | _, _, .bl b => .bl b
  | _, _, .int i => .int i
  | _, _, .str x => .str x
  | _, _, .lst h t => .lst (e.seq h) (dps_same e t)
  | _, _, .tup h t => .tup (same_sqt e h) (dps_same e t)
theorem dps_same {K : Frag} {H H' : Hp} (e : Same H H') : ∀ {vs : List V} {ds : List PyData}, DpAll K H vs ds → DpAll K H' vs ds
  | _, _, .nil => .nil
  | _, _, .cons h t => .cons (dp_same e h) (dps_same e t)
end
theorem dps_get {K : Frag} {H : Hp} : ∀ {vs : List V} {ds : List PyData} {i : Nat} {v : V}, DpAll K H vs ds → vs[i]? = some v → ∃ d, ds[i]? = some d ∧ Dp K H v d
  | _, _, _, _, .nil, e => by simp at e
  | _, _, 0, _, .cons h t, e => by
    simp at e
    subst e
    exact ⟨_, rfl, h⟩
  | _, _, i + 1, _, .cons h t, e => by
    obtain ⟨d, h1, h2⟩ := dps_get (i := i) t (by simpa using e)
    exact ⟨d, by simpa using h1, h2⟩
theorem dps_len {K : Frag} {H : Hp} : ∀ {vs : List V} {ds : List PyData}, DpAll K H vs ds → vs.length = ds.length
  | _, _, .nil => rfl
  | _, _, .cons h t => by simp [dps_len t]
theorem dps_app {K : Frag} {H : Hp} : ∀ {vs ws : List V} {ds es : List PyData}, DpAll K H vs ds → DpAll K H ws es → DpAll K H (vs ++ ws) (ds ++ es)
  | _, _, _, _, .nil, s => s
  | _, _, _, _, .cons h t, s => .cons h (dps_app t s)
theorem dps_ints {K : Frag} {H : Hp} : ∀ ns : List Int, DpAll K H (ns.map V.int) (ns.map PyData.int)
  | [] => .nil
  | n :: r => .cons (.int n) (dps_ints r)
/-! ### the heap of what never changes again (G) within the heap (H) -/
structure Grow (M : Addr → Prop) (G H G' H' : Hp) : Prop where
  gg : Same G G'
  gh : Same G' H'
  hh : ∀ b o, ¬ M b → H b = some o → H' b = some o
  tr : ∀ b, H b ≠ none → H' b ≠ none
  nw : ∀ b, H b ≠ none → G b = none → G' b = none
abbrev M0 : Addr → Prop := fun _ => False
theorem Grow.refl {M : Addr → Prop} {G H : Hp} (h : Same G H) : Grow M G H G H := ⟨Same.refl _, h, fun _ _ _ e => e, fun _ e => e, fun _ _ e => e⟩
theorem Grow.trans {M : Addr → Prop} {G H G1 H1 G2 H2 : Hp} (a : Grow M G H G1 H1) (b : Grow M G1 H1 G2 H2) : Grow M G H G2 H2 :=
  ⟨a.gg.trans b.gg, b.gh, fun c o n e => b.hh c o n (a.hh c o n e), fun c e => b.tr c (a.tr c e), fun c e n => b.nw c (a.tr c e) (a.nw c e n)⟩
theorem Grow.weak {M M' : Addr → Prop} {G H G' H' : Hp} (a : Grow M G H G' H') (h : ∀ b, M b → M' b) : Grow M' G H G' H' :=
  ⟨a.gg, a.gh, fun b o n e => a.hh b o (fun z => n (h b z)) e, a.tr, a.nw⟩
theorem Grow.same {G H G' H' : Hp} (a : Grow M0 G H G' H') : Same H H' := fun b o e => a.hh b o (fun z => z) e
/-- a new object that never changes -/
theorem Grow.lay {M : Addr → Prop} {G H : Hp} {p : Addr} {o : HO} (h : Same G H) (n : H p = none) : Grow M G H (upd G p o) (upd H p o) where
  gg := same_upd (h.free n)
  gh := fun b u e => by
    by_cases hb : b = p
    · subst hb
      rw [upd_same] at e ⊢
      exact e
    · rw [upd_ne hb] at e ⊢
      exact h _ _ e
  hh := fun b u _ e => same_upd n b u e
  tr := fun b e => by
    by_cases hb : b = p
    · subst hb
      rw [upd_same]
      simp
    · rw [upd_ne hb]
      exact e
  nw := fun b e z => by
    rw [upd_ne (fun hb => by subst hb; exact e n)]
    exact z
/-- a new object that may change still -/
theorem Grow.new {M : Addr → Prop} {G H : Hp} {p : Addr} {o : HO} (h : Same G H) (n : H p = none) : Grow M G H G (upd H p o) where
  gg := Same.refl _
  gh := h.trans (same_upd n)
  hh := fun b u _ e => same_upd n b u e
  tr := fun b e => by
    by_cases hb : b = p
    · subst hb
      rw [upd_same]
      simp
    · rw [upd_ne hb]
      exact e
  nw := fun b e z => z
/-- an object that may change is changed -/
theorem Grow.chg {M : Addr → Prop} {G H : Hp} {p : Addr} {o : HO} (h : Same G H) (hm : M p) (hg : G p = none) : Grow M G H G (upd H p o) where
  gg := Same.refl _
  gh := fun b u e => by
    rw [upd_ne (ne_of_none e hg)]
    exact h _ _ e
  hh := fun b u nm e => by
    rw [upd_ne (fun z => nm (by rw [z]; exact hm))]
    exact e
  tr := fun b e => by
    by_cases hb : b = p
    · subst hb
      rw [upd_same]
      simp
    · rw [upd_ne hb]
      exact e
  nw := fun b e z => z
/-- what no longer changes -/
theorem Grow.done {M : Addr → Prop} {G H G' H' : Hp} {p : Addr} {o : HO} (a : Grow M G H G' H') (hn : H p = none) (e : H' p = some o) : Grow M G H (upd G' p o) H' where
  gg := fun b u z => by
    by_cases hb : b = p
    · subst hb
      have q := a.gh _ _ (a.gg _ _ z)
      rw [upd_same]
      exact e.symm.trans q
    · rw [upd_ne hb]
      exact a.gg _ _ z
  gh := fun b u z => by
    by_cases hb : b = p
    · subst hb
      rw [upd_same] at z
      exact e.trans z
    · rw [upd_ne hb] at z
      exact a.gh _ _ z
  hh := a.hh
  tr := a.tr
  nw := fun b z q => by
    rw [upd_ne (fun hb => by subst hb; exact z hn)]
    exact a.nw b z q
theorem upd_in {G : Hp} {p : Addr} {o : HO} : upd G p o p = some o := upd_same
end Fr
namespace Fr
open PySem PySem.Spec PyProof.Rows L2
def topS (i : Nat) : Stmt := PySem.Challenge.pw_flatrooms_k02_ranks_and_closures.main.body.getD i (.Pass ⟨0, 0, 0, 0⟩)
abbrev s_law_begun : Stmt := topS 33
abbrev s_law_mixed : Stmt := topS 34
abbrev s_law_take : Stmt := topS 35
abbrev s_law_pick : Stmt := topS 36
theorem sc_law_begun : FnScope ["script", "large", "grain"] ["script"] (C8.fnScope s_law_begun) := C8.fnScope_by (by decide +kernel)
theorem sc_law_mixed : FnScope ["draw", "turn", "found", "great", "blend", "grain"] ["draw"] (C8.fnScope s_law_mixed) := C8.fnScope_by (by decide +kernel)
theorem sc_law_take : FnScope ["draw", "amount", "found"] ["draw", "amount"] (C8.fnScope s_law_take) := C8.fnScope_by (by decide +kernel)
theorem sc_law_pick : FnScope ["draw", "some"] ["draw", "some"] (C8.fnScope s_law_pick) := C8.fnScope_by (by decide +kernel)
/-! ### the draws -/
def drawK (l c : Addr) (rest turn : Int) : List (Key × V) := [(Sum.inr "large", .ref l), (Sum.inr "rest", .int rest), (Sum.inr "cells", .ref c), (Sum.inr "turn", .int turn)]
structure DrawAt (d l c : Addr) (H : Hp) (large cells : List Int) (rest turn : Int) : Prop where
  hd : H d = some (.dK (drawK l c rest turn))
  hl : H l = some (.lst (large.map V.int))
  hc : H c = some (.lst (cells.map V.int))
  ne : c ≠ l
def Draw (d l c : Addr) (H : Hp) : Prop := ∃ large cells rest turn, DrawAt d l c H large cells rest turn
abbrev Mdl (d l : Addr) : Addr → Prop := fun b => b = d ∨ b = l
section
variable {l c : Addr} {r t : Int} {v : Int}
theorem dk_large : valV (drawK l c r t) (Sum.inr "large" : Key) = some (.ref l) := by rfl
theorem dk_rest : valV (drawK l c r t) (Sum.inr "rest" : Key) = some (.int r) := by rfl
theorem dk_cells : valV (drawK l c r t) (Sum.inr "cells" : Key) = some (.ref c) := by rfl
theorem dk_turn : valV (drawK l c r t) (Sum.inr "turn" : Key) = some (.int t) := by rfl
theorem dp_rest : putK (drawK l c r t) (Sum.inr "rest" : Key) (.int v) = drawK l c v t := by rfl
theorem dp_turn : putK (drawK l c r t) (Sum.inr "turn" : Key) (.int v) = drawK l c r v := by rfl
end
end Fr
namespace Fr
open PySem PySem.Spec PyProof.Rows L2
/-- the built-in names that no statement of the top takes -/
structure Bi (mg : Str → Option Value) : Prop where
  abs : mg "abs" = none
  int : mg "int" = none
  len : mg "len" = none
def spMixed : Sp := fun vs H Q _ => ∃ d l c large cells rest turn, vs = [.ref d] ∧ DrawAt d l c H large cells rest turn ∧
  ∀ (r : Int) H', (∀ b o, b ≠ d → H b = some o → H' b = some o) → (∀ b, H b ≠ none → H' b ≠ none) → DrawAt d l c H' large cells rest (turn + 1) → Q (.int r) H'
section
variable {P : Program} {w : World} {K : PySem.W.Frag} {mg : Str → Option Value} {base : Heap}
theorem DrawAt.step {d l c : Addr} {H H' : Hp} {large cells : List Int} {rest turn rest' turn' : Int} (D : DrawAt d l c H large cells rest turn) (h : ∀ b o, b ≠ d → H b = some o → H' b = some o) (e : H' d = some (.dK (drawK l c rest' turn'))) :
    DrawAt d l c H' large cells rest' turn' :=
  ⟨e, h _ _ (ne_of D.hl D.hd (by intro z; cases z)) D.hl, h _ _ (ne_of D.hc D.hd (by intro z; cases z)) D.hc, D.ne⟩
theorem list_item {xs : List Int} {i : Nat} {y : V} (h : (xs.map V.int)[i]? = some y) : ∃ z, xs[i]? = some z ∧ y = .int z := by
  rw [List.getElem?_map] at h
  cases e : xs[i]? with
  | none =>
    rw [e] at h
    cases h
  | some z =>
    rw [e] at h
    exact ⟨z, rfl, (Option.some.inj h).symm⟩
theorem fmod_lt {a b : Int} (h : 0 < b) : 0 ≤ a.fmod b ∧ a.fmod b < b := by
  rw [Int.fmod_eq_emod_of_nonneg a (by omega)]
  exact ⟨Int.emod_nonneg a (by omega), Int.emod_lt_of_pos a h⟩
theorem ok_law_mixed {f : Addr} {fd : FuncData} (F : C8.Def K mg "_law_mixed" s_law_mixed f fd) (b : Binds K fd ["draw"] []) (B : Bi mg) :
    C8.Cal P w K mg base 1 "_law_mixed" spMixed [] := by
  have sc := sc_law_mixed
  refine C8.cal0 F b .nil sc (fun vs H Q E h => ?_) (fun cdv A outer s H vs Q E hr h => ?_)
  · obtain ⟨_, _, _, _, _, _, _, rfl, _⟩ := h
    rfl
  · obtain ⟨d, l, c, large, cells, rest, turn, rfl, D, k⟩ := h
    refine ⟨_, pss_cons (ps_dput (hu_of hr) (pv 0) pe_str (pe_op op_add (pe_dget (hu_of hr) (pv 0) pe_str (fun _ _ => rfl)) pe_int) rfl)
      (pss_cons (ps_par (i := 1) (j := 2) (by rfl) sc.nd rfl rfl (by decide) rfl rfl (pa_cons (pe_callTy call_int1 (by rfl) B.int (by decide +kernel) (pa_cons (pe_dget (hu_of hr) (pv 0) pe_str (fun _ _ => rfl)) pa_nil)) (pa_cons pe_int pa_nil)) (by rfl))
      (pss_cons (ps_for PassesOwn.never rfl (pi_list (pe_lst (pa_cons pe_int (pa_cons pe_int (pa_cons pe_int pa_nil))))) (pg_name (i := 3) sc.nd rfl (by first | exact Or.inl rfl | exact Or.inr rfl))
        (pss_cons (ps_set (i := 4) sc.nd rfl (by first | exact Or.inl rfl | exact Or.inr rfl) (pe_op op_modN (pe_op op_add (pe_op op_mul (pv 1) pe_int) (pe_op op_fdivN (pv 3) pe_int)) (pv 3)))
          (pss_cons (ps_for PassesOwn.never rfl (pi_list (pe_dget (hu_of hr) (pv 0) pe_str (fun _ _ => rfl))) (pg_name (i := 5) sc.nd rfl (by first | exact Or.inl rfl | exact Or.inr rfl))
            (pss_one (ps_set (i := 4) sc.nd rfl (by first | exact Or.inl rfl | exact Or.inr rfl) (pe_op op_modN (pe_op op_add (pe_op op_mul (pv 4) pe_int) (pe_callTy call_int1 (by rfl) B.int (by decide +kernel) (pa_cons (pv 5) pa_nil))) (pv 3)))))
          (pss_one (ps_set (i := 2) sc.nd rfl (by first | exact Or.inl rfl | exact Or.inr rfl) (pe_op op_add (pe_op op_mul (pv 2) pe_int) (pe_op op_modN (pe_op op_pow (pv 4) pe_int) (pv 3))))))))
      (pss_one (ps_ret (pv 2))))), ?_⟩
    -- draw["turn"] = draw["turn"] + 1
    refine ⟨_, rfl, _, _, rfl, DGet.k (k := Sum.inr "turn") D.hd, _, _, rfl, rfl, ?_⟩
    refine ⟨_, rfl, _, _, rfl, DPut.k (k := Sum.inr "turn") D.hd (by show 4 < sizeLine; decide), ?_⟩
    have k1 : ∀ b o, b ≠ d → H b = some o → (upd H d (.dK (putK (drawK l c rest turn) (Sum.inr "turn" : Key) (.int (turn + 1))))) b = some o := fun b o n e => by
      rw [upd_ne n]
      exact e
    have D1 : DrawAt d l c (upd H d (.dK (putK (drawK l c rest turn) (Sum.inr "turn" : Key) (.int (turn + 1))))) large cells rest (turn + 1) := D.step k1 (by rw [upd_same, dp_turn])
    have t1 : ∀ b, H b ≠ none → (upd H d (.dK (putK (drawK l c rest turn) (Sum.inr "turn" : Key) (.int (turn + 1))))) b ≠ none := fun b e => by
      by_cases hb : b = d
      · subst hb
        rw [upd_same]
        simp
      · rw [upd_ne hb]
        exact e
    generalize (upd H d (.dK (putK (drawK l c rest turn) (Sum.inr "turn" : Key) (.int (turn + 1))))) = H1 at k1 D1 t1 ⊢
    -- turn, found = int(draw["turn"]), 0
    refine ⟨_, rfl, _, _, rfl, DGet.k (k := Sum.inr "turn") D1.hd, .inl ⟨_, rfl, _, _, rfl, ?_⟩⟩
    refine ⟨by show 3 ≤ sizeLine; decide, fun p hp => ⟨_, rfl, ⟨_, .inl (.inl upd_same)⟩, ?_⟩⟩
    generalize hH2 : upd H1 p (.lst [V.int 2147483629, .int 2147483587, .int 2147483579]) = H2
    have s2 : Same H1 H2 := by
      subst hH2
      exact same_upd hp
    have hP : H2 p = some (.lst ([2147483629, 2147483587, 2147483579].map V.int)) := by
      subst hH2
      exact upd_same
    have pd : p ≠ d := fun e => by
      rw [e, D1.hd] at hp
      cases hp
    refine for_list (K := K) (a := p) (xs := [2147483629, 2147483587, 2147483579].map V.int) (fun i σ H3 => ∃ (fo : Int) (v3 v4 v5 : Option V), σ = [some (.ref d), some (.int (turn + 1)), some (.int fo), v3, v4, v5] ∧ Same H2 H3)
      ⟨0, none, none, none, rfl, fun _ _ e => e⟩ (fun i σ H3 _ ⟨_, _, _, _, _, s3⟩ => .inl (.inl (s3 _ _ hP))) ?_ ?_
    · rintro i y σ H3 hi ⟨fo, v3, v4, v5, rfl, s3⟩
      obtain ⟨g, hg, rfl⟩ := list_item hi
      have gb : 0 < g ∧ g < 2147483648 := by
        match i, hg with
        | 0, hg => cases hg; decide
        | 1, hg => cases hg; decide
        | 2, hg => cases hg; decide
        | n + 3, hg => simp at hg
      have D3 : DrawAt d l c H3 large cells rest (turn + 1) := D1.step (fun b o _ e => s3 _ _ (s2 _ _ e)) (s3 _ _ (s2 _ _ D1.hd))
      refine ⟨_, rfl, _, _, rfl, rfl, .inr ⟨by decide, by decide⟩, _, rfl, _, _, rfl, rfl, ⟨by decide, by decide⟩, _, _, rfl, rfl, _, rfl, _, _, rfl, rfl, by omega, ?_⟩
      have hb0 := fmod_lt (a := (turn + 1) * 69621 + g.fdiv 7) gb.1
      refine ⟨_, rfl, _, _, rfl, DGet.k (k := Sum.inr "cells") D3.hd, _, rfl, ⟨_, .inl (.inl D3.hc)⟩, ?_⟩
      refine for_list (K := K) (a := c) (xs := cells.map V.int) (fun j σ H4 => ∃ (bl : Int) (v5 : Option V), σ = [some (.ref d), some (.int (turn + 1)), some (.int fo), some (.int g), some (.int bl), v5] ∧ (0 ≤ bl ∧ bl < g) ∧ H4 = H3)
        ⟨_, _, rfl, hb0, rfl⟩ (fun j σ H4 _ ⟨_, _, _, _, e⟩ => by rw [e]; exact .inl (.inl D3.hc)) ?_ ?_
      · rintro j y σ H4 hj ⟨bl, w5, rfl, hbl, rfl⟩
        obtain ⟨z, hz, rfl⟩ := list_item hj
        refine ⟨_, rfl, _, _, rfl, rfl, .inr ⟨by decide, by decide⟩, _, rfl, .inl ⟨_, rfl, _, _, rfl, rfl, _, rfl, _, _, rfl, rfl, by omega, ?_⟩⟩
        exact ⟨_, _, rfl, fmod_lt gb.1, rfl⟩
      · rintro σ H4 ⟨bl, w5, rfl, hbl, rfl⟩
        refine ⟨_, rfl, _, _, rfl, rfl, .inr ⟨by decide, by decide⟩, _, rfl, _, _, rfl, rfl, ⟨by decide, by decide, by omega⟩, _, rfl, _, _, rfl, rfl, by omega, _, _, rfl, rfl, ?_⟩
        exact ⟨_, _, _, _, rfl, s3⟩
    · rintro σ H3 ⟨fo, v3, v4, v5, rfl, s3⟩
      refine ⟨_, rfl, k fo H3 (fun b o n e => s3 _ _ (s2 _ _ (k1 b o n e))) (fun b e => ?_) (D1.step (fun b o _ e => s3 _ _ (s2 _ _ e)) (s3 _ _ (s2 _ _ D1.hd)))⟩
      cases q : H1 b with
      | none => exact absurd q (t1 b e)
      | some o =>
        rw [s3 _ _ (s2 _ _ q)]
        simp
end
end Fr
namespace Fr
open PySem PySem.Spec PyProof.Rows L2
/-- a number from 0 to amount - 1; the draw's own two objects alone have changed -/
def spTake : Sp := fun vs H Q _ => ∃ (d l c : Addr) (amount : Int), vs = [.ref d, .int amount] ∧ 0 < amount ∧ amount.natAbs.log2 < 9000 ∧ Draw d l c H ∧
  ∀ (r : Int) H', 0 ≤ r → r < amount → (∀ b o, ¬ Mdl d l b → H b = some o → H' b = some o) → (∀ b, H b ≠ none → H' b ≠ none) → Draw d l c H' → Q (.int r) H'
section
variable {P : Program} {w : World} {K : PySem.W.Frag} {mg : Str → Option Value} {base : Heap}
theorem trk_upd {H : Hp} {a : Addr} {o : HO} : ∀ b, H b ≠ none → (upd H a o) b ≠ none := fun b e => by
  by_cases hb : b = a
  · subst hb
    rw [upd_same]
    simp
  · rw [upd_ne hb]
    exact e
theorem shaped_ints (ns : List Int) : SeqAt.shaped (.list (ns.map .int)) = true := by
  have h : PyData.depthAll (ns.map PyData.int) ≤ 1 := by
    induction ns with
    | nil => simp [PyData.depthAll]
    | cons n r ih => simp only [List.map, PyData.depthAll, PyData.depth]; omega
  have h2 : PyData.canLayAll0 (ns.map PyData.int) = true := by
    induction ns with
    | nil => simp [PyData.canLayAll0]
    | cons n r ih =>
      have h' : PyData.depthAll (r.map PyData.int) ≤ 1 := by
        simp only [List.map, PyData.depthAll, PyData.depth] at h
        omega
      simp only [List.map, PyData.canLayAll0, PyData.canLay0, ih h', Bool.and_self]
  unfold SeqAt.shaped
  rw [Bool.and_eq_true]
  refine ⟨by simpa only [PyData.canLay0] using h2, decide_eq_true ?_⟩
  simp only [PyData.depth]
  omega
theorem eqv_nil {ns : List Int} : (!PyData.eqv (.list (ns.map PyData.int)) (.list [])) = !ns.isEmpty := by
  cases ns with
  | nil => rfl
  | cons n r => rfl
theorem ok_law_take {f : Addr} {fd : FuncData} (F : C8.Def K mg "_law_take" s_law_take f fd) (b : Binds K fd ["draw", "amount"] []) (B : Bi mg) (c_law_mixed : C8.Cal P w K mg base 1 "_law_mixed" spMixed []) :
    C8.Cal P w K mg base 2 "_law_take" spTake [] := by
  have sc := sc_law_take
  refine C8.cal0 F b .nil sc (fun vs H Q E h => ?_) (fun cdv A outer s H vs Q E hr h => ?_)
  · obtain ⟨_, _, _, _, rfl, _⟩ := h
    rfl
  · obtain ⟨d, l, c, amount, rfl, h0, h9, ⟨large, cells, rest, turn, D⟩, k⟩ := h
    refine ⟨_, pss_cons (ps_if (pt_cmpR op_eq (pe_dget (hu_of hr) (pv 0) pe_str (fun _ _ => rfl)) pe_int (nomark _))
        (pss_one (ps_dput (hu_of hr) (pv 0) pe_str (pe_ifExp (pt_cmpR (op_neD hr.units) (pe_dget (hu_of hr) (pv 0) pe_str (fun _ _ => rfl)) (pe_lst pa_nil) (nomark _)) (pe_bm PySem.F.plainAttrs_list PySem.F.slot_list_pop PySem.F.type_list_pop mt_popAt (pe_dget (hu_of hr) (pv 0) pe_str (fun _ _ => rfl)) (pa_cons pe_int pa_nil)) (C8.pe_c c_law_mixed hr (by decide) rfl (pa_cons (pv 0) pa_nil))) rfl))
        (pss_nil))
      (pss_cons (ps_set (i := 2) sc.nd rfl (by first | exact Or.inl rfl | exact Or.inr rfl) (pe_op op_modN (pe_callTy call_int1 (by rfl) B.int (by decide +kernel) (pa_cons (pe_dget (hu_of hr) (pv 0) pe_str (fun _ _ => rfl)) pa_nil)) (pv 1)))
      (pss_cons (ps_dput (hu_of hr) (pv 0) pe_str (pe_op op_fdivW (pe_callTy call_int1 (by rfl) B.int (by decide +kernel) (pa_cons (pe_dget (hu_of hr) (pv 0) pe_str (fun _ _ => rfl)) pa_nil)) (pv 1)) rfl)
      (pss_one (ps_ret (pv 2))))), ?_⟩
    -- what follows the if, from any draw
    have tail : ∀ (H1 : Hp) (large cells : List Int) (rest turn : Int), DrawAt d l c H1 large cells rest turn → (∀ b o, ¬ Mdl d l b → H b = some o → H1 b = some o) → (∀ b, H b ≠ none → H1 b ≠ none) →
        (tSeq (tAsg (tOp (rI (fun _ j => j ≠ 0) fun i j => V.int (i.fmod j)) (tCB (fun xs H Q => (∃ i, xs = [.int i] ∧ Q (.int i) H) ∨ ∃ k, xs = [.bl k] ∧ Q (.int (if k then 1 else 0)) H) (tCons (tDGet (tVar 0) (tC (.str "rest"))) tNil)) (tVar 1)) (gName 2))
          (tSeq (sDPut (tVar 0) (tC (.str "rest")) (tOp (rI CDivW fun i j => V.int (i / j)) (tCB (fun xs H Q => (∃ i, xs = [.int i] ∧ Q (.int i) H) ∨ ∃ k, xs = [.bl k] ∧ Q (.int (if k then 1 else 0)) H) (tCons (tDGet (tVar 0) (tC (.str "rest"))) tNil)) (tVar 1)))
            (tRet (tVar 2)))) { nx := fun _ H' => Q .non H', rt := Q } [some (.ref d), some (.int amount), none] H1 := by
      intro H1 large cells rest turn D1 k1 t1
      refine ⟨_, rfl, _, _, rfl, DGet.k (k := Sum.inr "rest") D1.hd, .inl ⟨_, rfl, _, rfl, _, _, rfl, rfl, by omega, ?_⟩⟩
      refine ⟨_, rfl, _, _, rfl, DGet.k (k := Sum.inr "rest") D1.hd, .inl ⟨_, rfl, _, rfl, _, _, rfl, rfl, ⟨h0, h9⟩, ?_⟩⟩
      refine ⟨_, rfl, _, _, rfl, DPut.k (k := Sum.inr "rest") D1.hd (by show 4 < sizeLine; decide), ?_⟩
      have z := fmod_lt (a := rest) h0
      refine ⟨_, rfl, k _ _ z.1 z.2 (fun b o n e => ?_) (fun b e => trk_upd b (t1 b e)) ⟨large, cells, _, turn, D1.step (fun b o n e => ?_) (by rw [upd_same]; exact congrArg (fun z => some (HO.dK z)) dp_rest)⟩⟩
      · rw [upd_ne (fun z => n (.inl z))]
        exact k1 b o n e
      · rw [upd_ne n]
        exact e
    refine ⟨_, rfl, _, _, rfl, DGet.k (k := Sum.inr "rest") D.hd, rfl, _, rfl, ?_⟩
    refine ite2 (fun _ => ?_) (fun _ => ?_)
    · -- draw["large"] != []
      refine ⟨_, rfl, _, _, rfl, DGet.k (k := Sum.inr "large") D.hd, by show 0 ≤ sizeLine; decide, fun p hp => ?_⟩
      have s1 : Same H (upd H p (.lst [])) := same_upd hp
      refine ⟨.list (large.map PyData.int), .list [], .lst (.inl (.inl (s1 _ _ D.hl))) (dps_ints large), .lst (.inl (.inl upd_same)) .nil, ?_⟩
      refine ⟨shaped_ints large, by decide, _, rfl, ?_⟩
      rw [eqv_nil]
      have k1 : ∀ b o, ¬ Mdl d l b → H b = some o → (upd H p (.lst [])) b = some o := fun b o _ e => s1 _ _ e
      have D1 : DrawAt d l c (upd H p (.lst [])) large cells rest turn := D.step (fun b o _ e => s1 _ _ e) (s1 _ _ D.hd)
      have t1 : ∀ b, H b ≠ none → (upd H p (.lst [])) b ≠ none := trk_upd
      generalize (upd H p (.lst [])) = H1 at k1 D1 t1 ⊢
      cases large with
      | nil =>
        refine iteF ?_
        refine ⟨_, rfl, d, l, c, _, _, _, _, rfl, D1, fun r H2 k2 t2 D2 => ?_⟩
        refine ⟨_, rfl, _, _, rfl, DPut.k (k := Sum.inr "rest") D2.hd (by show 4 < sizeLine; decide), ?_⟩
        refine tail _ [] cells r (turn + 1) (D2.step (fun b o n e => by rw [upd_ne n]; exact e) (by rw [upd_same]; exact congrArg (fun z => some (HO.dK z)) dp_rest)) (fun b o n e => ?_) (fun b e => trk_upd b (t2 b (t1 b e)))
        rw [upd_ne (fun z => n (.inl z))]
        exact k2 b o (fun z => n (.inl z)) (k1 b o n e)
      | cons x xs =>
        refine iteT ?_
        have nl : l ≠ d := ne_of D1.hl D1.hd (by intro z; cases z)
        refine ⟨_, rfl, _, _, rfl, DGet.k (k := Sum.inr "large") D1.hd, .inl ⟨rfl, _, .inl (.inl D1.hl)⟩, l, _, 0, 0, .int x, rfl, rfl, D1.hl, by decide, by decide, ?_, rfl, ?_⟩
        · unfold seqIndex?
          rw [List.length_map, List.length_cons]
          simp
        have D2 : DrawAt d l c (upd H1 l (.lst ((V.int x :: xs.map V.int).eraseIdx 0))) xs cells rest turn := ⟨by rw [upd_ne nl.symm]; exact D1.hd, upd_same, by rw [upd_ne D1.ne]; exact D1.hc, D1.ne⟩
        refine ⟨_, rfl, _, _, rfl, DPut.k (k := Sum.inr "rest") D2.hd (by show 4 < sizeLine; decide), ?_⟩
        refine tail _ xs cells x turn (D2.step (fun b o n e => by rw [upd_ne n]; exact e) (by rw [upd_same]; exact congrArg (fun z => some (HO.dK z)) dp_rest)) (fun b o n e => ?_) (fun b e => trk_upd b (trk_upd b (t1 b e)))
        rw [upd_ne (fun z => n (.inl z)), upd_ne (fun z => n (.inr z))]
        exact k1 b o n e
    · exact tail H large cells rest turn D (fun b o _ e => e) (fun b e => e)
end
end Fr
namespace Fr
open PySem PySem.Spec PyProof.Rows L2
theorem take_more {α : Type} {l : List α} {i : Nat} {x : α} (h : l[i]? = some x) : l.take (i + 1) = l.take i ++ [x] := by
  rw [List.take_add_one, h]
  rfl
/-- [f x for x in xs if p x], of ints, no object made on the way -/
theorem lc_ints {K : Frag} {a : Addr} {xs : List Int} {g : TG} {tt : TT} {te : TE} {vs : List Nat} {σ : L2.St} {H1 : Hp} {D : Addr} {Qd : Hp → Prop} (p : Int → Bool) (f : Int → Int) (hS : SqL K H1 a (xs.map V.int)) (hD : H1 D = none) (hlen : xs.length < sizeLine)
    (turn : ∀ (x : Int) (H : Hp) (Qy : VK) (Qn : Hp → Prop), x ∈ xs → Same H1 H → (p x = true → Qy (.int (f x)) H) → (p x = false → Qn H) →
      g (.int x) (wipe σ vs) H fun σ2 H2 => wipe σ2 vs = wipe σ vs ∧ tt σ2 H2 fun b H3 => if b = true then te σ2 H3 Qy else Qn H3)
    (hd : ∀ H, Same H1 H → H D = some (.lst (((xs.filter p).map f).map V.int)) → Qd H) :
    ∃ W : Nat → Nat → Hp → Prop, (∃ m, W 0 m (upd H1 D (.lst []))) ∧ ∀ i m H, W i m H →
      ((Itl K a).stop i H ∧ Qd H) ∨ ((Itl K a).go i H ∧ ∃ Nx : Hp → Prop, (∀ H', Nx H' → ∃ m', m' < m ∧ W (i + 1) m' H') ∧ ∀ x H', (Itl K a).yld i H x H' → g x (wipe σ vs) H' fun σ2 H2 => wipe σ2 vs = wipe σ vs ∧ tt σ2 H2 fun b H3 =>
        if b = true then te σ2 H3 fun y H4 => ∃ acc, H4 D = some (.lst acc) ∧ acc.length < sizeLine ∧ Nx (upd H4 D (.lst (acc ++ [y]))) else Nx H3) := by
  refine lc_list (K := K) (a := a) (xs := xs.map V.int) (fun i H => Same H1 H ∧ H D = some (.lst ((((xs.take i).filter p).map f).map V.int))) ⟨same_upd hD, upd_same⟩ (fun i H _ h => h.1.seq hS) ?_ (fun H h => hd H h.1 ?_)
  · rintro i y H hi ⟨s, e⟩
    obtain ⟨x, hx, rfl⟩ := list_item hi
    have hm : x ∈ xs := List.mem_of_getElem? hx
    have ht := take_more hx
    refine turn x H _ _ hm s (fun hp => ⟨_, e, ?_, fun b o q => ?_, ?_⟩) (fun hp => ⟨s, ?_⟩)
    · have h1 : i < xs.length := (List.getElem?_eq_some_iff.mp hx).1
      have h2 : ((xs.take i).filter p).length ≤ (xs.take i).length := List.length_filter_le _ _
      rw [List.length_map, List.length_map]
      rw [List.length_take] at h2
      omega
    · rw [upd_ne (ne_of_none q hD)]
      exact s _ _ q
    · rw [upd_same, ht, List.filter_append, List.map_append, List.map_append]
      have e1 : [x].filter p = [x] := by simp [hp]
      rw [e1]
      rfl
    · rw [ht, List.filter_append, List.map_append, List.map_append]
      have e1 : [x].filter p = [] := by simp [hp]
      rw [e1, e]
      simp
  · have := h.2
    rw [List.length_map, List.take_length] at this
    exact this
def spBegun (K : Frag) : Sp := fun vs H Q _ => ∃ (a : Addr) (ns : List Int), vs = [.ref a] ∧ SqL K H a (ns.map V.int) ∧ ns.length ≤ 63 ∧
  ∀ (d l c : Addr) H', H d = none → H l = none → H c = none → Same H H' → Draw d l c H' → Q (.ref d) H'
section
variable {P : Program} {w : World} {K : PySem.W.Frag} {mg : Str → Option Value} {base : Heap}
theorem sz63 {n : Nat} (h : n ≤ 63) : n < sizeLine := Nat.lt_of_le_of_lt h (by decide)
theorem ok_law_begun {f : Addr} {fd : FuncData} (F : C8.Def K mg "_law_begun" s_law_begun f fd) (b : Binds K fd ["script"] []) (B : Bi mg) :
    C8.Cal P w K mg base 1 "_law_begun" (spBegun K) [] := by
  have sc := sc_law_begun
  refine C8.cal0 F b .nil sc (fun vs H Q E h => ?_) (fun cdv A outer s H vs Q E hr h => ?_)
  · obtain ⟨_, _, rfl, _⟩ := h
    rfl
  · obtain ⟨a, ns, rfl, hS, hlen, k⟩ := h
    refine ⟨_, pss_cons (ps_setLc (i := 1) (own := [("grain", 2)]) (g := gName 2) (by rfl) sc.nd rfl (by rfl) (sw_true rfl (by rfl) rfl (by decide +kernel)) (pi_list (pv 0)) (blkOk_by (by kernel_rfl)) (fun _ _ _ _ _ => (pg_name (i := 2) sc.nd rfl (by first | exact Or.inl rfl | exact Or.inr rfl))) (fun _ _ _ _ _ => pts_one (pt_cmpR op_ge (pe_callB call_abs (by rfl) B.abs (by decide +kernel) (pa_cons (pv 2) pa_nil)) (pe_op op_pow pe_int pe_int) (nomark _))) (fun _ _ _ _ _ => (pe_op op_sub (pe_callB call_abs (by rfl) B.abs (by decide +kernel) (pa_cons (pv 2) pa_nil)) (pe_op op_pow pe_int pe_int))))
      (pss_one (ps_ret (pe_disp (pps_cons pe_str (pv 1) (pps_cons pe_str pe_int (pps_cons pe_str (pe_lc (own := [("grain", 2)]) (g := gName 2) (tt := tYes) (by rfl) sc.nd (pi_list (pv 0)) (blkOk_by (by kernel_rfl)) (fun _ _ _ _ _ => (pg_name (i := 2) sc.nd rfl (by first | exact Or.inl rfl | exact Or.inr rfl))) (fun _ _ _ _ _ => pts_nil) (fun _ _ _ _ _ => (pe_callB call_abs (by rfl) B.abs (by decide +kernel) (pa_cons (pv 2) pa_nil)))) (pps_cons pe_str pe_int pps_nil)))) (by rfl) (by rfl) (fun z => by cases z) (by decide)))), ?_⟩
    refine ⟨_, rfl, a, rfl, ⟨_, hS⟩, fun l hl => ?_⟩
    refine lc_ints (xs := ns) (fun x => decide (10 ^ 18 ≤ if x < 0 then -x else x)) (fun x => (if x < 0 then -x else x) - 10 ^ 18) hS hl (sz63 hlen) ?_ ?_
    · intro x H1 Qy Qn hx s1 q1 q2
      refine ⟨rfl, _, rfl, _, rfl, _, _, rfl, rfl, ⟨by decide, by decide, by decide⟩, _, _, rfl, rfl, _, rfl, ?_⟩
      refine ite2 (fun hb => ?_) (fun hb => ?_)
      · exact ⟨_, rfl, _, rfl, _, _, rfl, rfl, ⟨by decide, by decide, by decide⟩, _, _, rfl, rfl, q1 hb⟩
      · exact q2 (by simpa using hb)
    · intro H1 s1 e1
      intro d hd
      have ld : l ≠ d := ne_of_none e1 hd
      have s2 : Same H1 (upd H1 d (.dK [])) := same_upd hd
      refine ⟨_, rfl, _, rfl, a, rfl, ⟨_, s2.seq (s1.seq hS)⟩, fun c hc => ?_⟩
      refine lc_ints (xs := ns) (fun _ => true) (fun x => if x < 0 then -x else x) (s2.seq (s1.seq hS)) hc (sz63 hlen) ?_ ?_
      · intro x H2 Qy Qn hx s3 q1 q2
        exact ⟨rfl, _, rfl, _, rfl, q1 rfl⟩
      · intro H2 s3 e3
        have n1 : H d = none := s1.free hd
        have n2 : H c = none := s1.free (s2.free hc)
        have cd : c ≠ d := fun z => by
          rw [z, upd_same] at hc
          cases hc
        have cl : c ≠ l := fun z => by
          rw [z, s2 _ _ e1] at hc
          cases hc
        refine ⟨s3 _ _ upd_same, drawK l c 0 0, rfl, (by show 4 ≤ 15; decide), ?_⟩
        obtain ⟨large, el⟩ : ∃ large : List Int, H1 l = some (.lst (large.map V.int)) := ⟨_, e1⟩
        obtain ⟨cells, ec⟩ : ∃ cells : List Int, H2 c = some (.lst (cells.map V.int)) := ⟨_, e3⟩
        refine k d l c _ n1 hl n2 (fun b o e => ?_) ⟨large, cells, 0, 0, by rw [upd_same]; rfl, ?_, ?_, cl⟩
        · rw [upd_ne (ne_of_none e n1)]
          exact s3 _ _ (s2 _ _ (s1 _ _ e))
        · rw [upd_ne ld]
          exact s3 _ _ (s2 _ _ el)
        · rw [upd_ne cd]
          exact ec
def spPick (K : Frag) : Sp := fun vs H Q _ => ∃ (d l c a : Addr) (xs : List V) (G : Hp), vs = [.ref d, .ref a] ∧ SqL K G a xs ∧ xs ≠ [] ∧ xs.length ≤ 1000000 ∧ Same G H ∧ G d = none ∧ G l = none ∧ Draw d l c H ∧
  ∀ (i : Nat) (v : V) H', xs[i]? = some v → Grow (Mdl d l) G H G H' → Draw d l c H' → Q v H'
theorem log2_small {n : Nat} (h : n ≤ 1000000) (h0 : 0 < n) : n.log2 < 9000 := by
  have := Nat.log2_lt (n := n) (k := 20) (by omega)
  have h2 : n < 2 ^ 20 := by omega
  have := this.mpr h2
  omega
theorem ok_law_pick {f : Addr} {fd : FuncData} (F : C8.Def K mg "_law_pick" s_law_pick f fd) (b : Binds K fd ["draw", "some"] []) (B : Bi mg) (c_law_take : C8.Cal P w K mg base 2 "_law_take" spTake []) :
    C8.Cal P w K mg base 3 "_law_pick" (spPick K) [] := by
  have sc := sc_law_pick
  refine C8.cal0 F b .nil sc (fun vs H Q E h => ?_) (fun cdv A outer s H vs Q E hr h => ?_)
  · obtain ⟨_, _, _, _, _, _, rfl, _⟩ := h
    rfl
  · obtain ⟨d, l, c, a, xs, G, rfl, hS, hne, hlen, hG, gd, gl, D, k⟩ := h
    refine ⟨_, pss_one (ps_ret (pe_ix ix_list (pv 1) (C8.pe_c c_law_take hr (by decide) rfl (pa_cons (pv 0) (pa_cons (pe_callB call_len_seq (by rfl) B.len (by decide +kernel) (pa_cons (pv 1) pa_nil)) pa_nil))) (fun _ _ => rfl))), ?_⟩
    have h0 : 0 < xs.length := List.length_pos_iff.mpr hne
    refine ⟨_, rfl, _, rfl, _, rfl, a, xs, rfl, .inl (hG.seq hS), d, l, c, (xs.length : Int), rfl, by omega, log2_small hlen h0, D, fun r H' r0 r1 k1 t1 D1 => ?_⟩
    have g1 : Same G H' := fun b o e => k1 b o (fun z => by
      rcases z with z | z
      · rw [z, gd] at e
        cases e
      · rw [z, gl] at e
        cases e) (hG b o e)
    have hi : r.toNat < xs.length := by omega
    have er : r = ((r.toNat : Nat) : Int) := by omega
    have hx : xs[r.toNat]? = some xs[r.toNat] := List.getElem?_eq_getElem hi
    refine ⟨a, xs, r, _, rfl, rfl, g1.seq hS, (congrArg (atI xs) er).trans (atI_nat hx), k r.toNat _ H' hx ⟨Same.refl _, g1, k1, t1, fun _ _ e => e⟩ D1⟩
end
end Fr
namespace Fr
open PySem PySem.Spec PyProof.Rows L2
/-! ### defs whose promise asks that no guard stands around (repr's, the comparisons') -/
structure FnG (P : Program) (w : World) (K : Frag) (mg : Str → Option Value) (base : Heap) (CX : CXT) (k : Nat) (f : Addr) (fd : FuncData) (ps : List Str) (sp : Sp) : Prop where
  len : ∀ vs H Q E, sp vs H Q E → vs.length = ps.length
  run : ∀ (A : Around) (outer : List Env) (s : Shared) (H : Hp) (args : Args) (us : List Value) (vs : List V) (Q : VK) (E : XK),
    Room k A → A.guards = some [] → Env0 P w K mg base A outer s H → BindsTo s fd args (ps.zip us) → Vals vs us → sp vs H Q E →
      codeAny (model P w) A (.call (.ref f) args) (CR CX outer P w H s Q E) s
section
variable {P : Program} {w : World} {K : Frag} {mg : Str → Option Value} {base : Heap} {CX : CXT} {k : Nat} {f : Addr} {fd : FuncData} {N ps : List Str} {sp : Sp}
theorem FnG.of (F : FnOk P w K mg base CX k f fd ps sp) : FnG P w K mg base CX k f fd ps sp :=
  ⟨F.len, fun A outer s H args us vs Q E hr _ => F.run A outer s H args us vs Q E hr⟩
theorem FnG.mono {j : Nat} (F : FnG P w K mg base CX j f fd ps sp) (h : j ≤ k) : FnG P w K mg base CX k f fd ps sp :=
  ⟨F.len, fun A outer s H args us vs Q E hr => F.run A outer s H args us vs Q E (hr.mono h)⟩
/-- a def by its body -/
theorem FnG.mk' {x qual : Str} {st : Stmt} (F : C8.Fun K x qual st f fd) (S : FnScope N ps (C8.fnScope st)) (len : ∀ vs H Q E, sp vs H Q E → vs.length = ps.length)
    (hbody : ∀ (cdv : Value) (A : Around) (outer : List Env) (s : Shared) (H : Hp) (vs : List V) (Q : VK) (E : XK),
      Room k (A.deeper (envOfC qual (C8.fnScope st) s.heap.objs.size f cdv)) → A.guards = some [] → sp vs H Q E →
      ∃ t, PSs (cxOf CX P w K mg base N qual (C8.fnScope st) f cdv A outer s H E) (C8.fnBody st) t ∧
        t { nx := fun _ H' => Q .non H', rt := Q } (start N vs) H) : FnG P w K mg base CX (k + 1) f fd ps sp := by
  obtain ⟨oc, od, dV, kV, doc, pm, an, cdv, ct, osl, rfl, lk, hcd⟩ := F.ex
  refine ⟨len, ?_⟩
  intro A outer s H args us vs Q E hr hgu e0 hb r hsp
  have KX : K.In s.heap := by
    refine e0.mod.kin.keeps ?_
    intro b o e
    exact (e0.bs b o e).1
  have lim : s.heap.NoLimit := by
    refine e0.mod.nolimit.keeps ?_
    intro b o e
    exact (e0.bs b o e).1
  refine codeAny_call_function hr.depth (KX _ _ lk) rfl S.co S.gen rfl
    (PySem.W.codeRec_of KX hcd) (hb _ _ _ _ ?_)
  refine wpAny_newFunctionEnv_cells S.kind ?_ ?_
  · rintro ⟨n, v⟩ hy
    rcases S.par n (List.of_mem_zip hy).1 with q | q
    · exact .inl q
    · refine .inr ⟨q, ?_⟩
      exact PySem.W.cellsFrom_some _ _ _ (.inl q)
  intro env he s1 x
  subst he
  refine ⟨lim.keeps x.toInCall.keep, ?_⟩
  refine codeAny_func ?_
  obtain ⟨t, ht, hq⟩ := hbody cdv A outer s H vs Q E (hr.deeper _) hgu hsp
  have I := inv_start (CX := CX) (E := E) S hr.hd e0 (len _ _ _ _ hsp) r x
  refine wpAny_mono (ht.run [] s1 (start N vs) H _ I hq) ?_ (fun _ _ z => z)
  intro fl s' hs
  cases fl with
  | ret u =>
    obtain ⟨v, σ', H', J, rv, q⟩ := hs
    exact ⟨v, H', J.os, J.bare, J.base, J.hok, rv, q⟩
  | next =>
    obtain ⟨σ', H', J, q⟩ := hs
    exact ⟨.non, H', J.os, J.bare, J.base, J.hok, rfl, q⟩
  | brk =>
    obtain ⟨_, _, _, q⟩ := hs
    cases q
  | cont =>
    obtain ⟨_, _, _, q⟩ := hs
    cases q
end
/-- a def that may be called by its name -/
structure CalG (P : Program) (w : World) (K : Frag) (mg : Str → Option Value) (base : Heap) (CX : CXT) (k : Nat) (x : Str) (sp : Sp) : Prop where
  ex : ∃ (f : Addr) (fd : FuncData) (ps : List Str), FnG P w K mg base CX k f fd ps sp ∧ mg x = some (.ref f) ∧ PySem.W.keepIn K (.ref f) = true ∧ Binds K fd ps []
theorem CalG.of {P : Program} {w : World} {K : Frag} {mg : Str → Option Value} {base : Heap} {k : Nat} {x : Str} {sp : Sp} (c : C8.Cal P w K mg base k x sp []) : CalG P w K mg base C8.CX0 k x sp := by
  obtain ⟨f, fd, ps, ds, F, hm, kp, b, d⟩ := c.ex
  cases d
  exact ⟨f, fd, ps, .of F, hm, kp, b⟩
section
variable {X : Cx} {CX : CXT} {k j : Nat} {x : Str} {sp : Sp} {p pos : Pos} {e : Expr} {es : List Expr} {t : TA}
theorem run_g {f : Addr} {fd : FuncData} {ps : List Str} {E : XK} {pins : List (Addr × Obj)} {σ : L2.St} {H : Hp} {s : Shared} {Q : VK} {us : List Value} {vs : List V} (F : FnG X.prog X.w X.K X.mg X.base CX k f fd ps sp) (hr : Room k X.A) (hgu : X.A.guards = some []) (hb : Binds X.K fd ps [])
    (hx : ∀ e s', CX X.stack H s E e s' → X.xe e s') (I : Inv X pins σ H s) (r : Vals vs us) (h : sp vs H Q E) : wpAny (model X.prog X.w) X.A (call (.ref f) us) (EP X pins σ Q) X.xe s := by
  have hl : us.length = ps.length := r.length.symm.trans (F.len _ _ _ _ h)
  have hbb := hb s us I.kIn (by simpa using hl)
  rw [List.append_nil] at hbb
  have z := F.run X.A X.stack s H ⟨us, []⟩ us vs Q E hr hgu I.env0 hbb r h
  refine wpAny_call (codeAny_mono z ?_)
  rintro (er | fl) s' hq
  · exact hx er s' hq
  · cases fl with
    | ret u => exact I.after hq
    | next => cases hq
    | brk => cases hq
    | cont => cases hq
theorem pe_cg (c : CalG X.prog X.w X.K X.mg X.base C8.CX0 k x sp) (hr : Room j X.A) (hk : k ≤ j) (hgu : X.A.guards = some []) (hg : Gl X x) (ha : PA X (e :: es) t)
    (hdb : (x == ("__debug__" : Str)) = false := by decide) (he : starEach (e :: es) X.env = (false, eval e X.env) :: starEach es X.env := by rfl)
    (hpl : (backTo pos (starEach es X.env)).any (·.1) = false := by rfl) : PE X (.Call (.Name x p) (e :: es) [] pos) (tCall sp [] C8.E0 t) := by
  obtain ⟨f, fd, ps, F, hm, kp, b⟩ := c.ex
  refine ⟨?_⟩
  intro pins s σ H Q I h
  refine wpAny_Call_Name_kw (ld_glob I hg hm ?_ hdb)
  refine PySem.W.callWith_K (h₀ := X.base) I.ok.mod.kin kp (thn (ha.run pos pins s σ H _ I h) ?_) he hpl
  rintro us s1 ⟨vs, H1, I1, r, q⟩
  refine ⟨I1.kIn, ?_⟩
  have q' : sp (vs ++ []) H1 Q C8.E0 := q
  rw [List.append_nil] at q'
  exact run_g F (hr.mono hk) hgu b (fun _ _ z => z.elim) I1 r q'
/-- a def that may raise, called under a try -/
theorem pe_cgS {E : L2.St → XK} (c : CalG X.prog X.w X.K X.mg X.base CX k x sp) (hr : Room j X.A) (hk : k ≤ j) (hgu : X.A.guards = some []) (hg : Gl X x) (hx : ∀ σ, PassesAt CX X σ (E σ)) (ha : PA X (e :: es) t)
    (hdb : (x == ("__debug__" : Str)) = false := by decide) (he : starEach (e :: es) X.env = (false, eval e X.env) :: starEach es X.env := by rfl)
    (hpl : (backTo pos (starEach es X.env)).any (·.1) = false := by rfl) : PE X (.Call (.Name x p) (e :: es) [] pos) (tCallS sp E t) := by
  obtain ⟨f, fd, ps, F, hm, kp, b⟩ := c.ex
  refine ⟨?_⟩
  intro pins s σ H Q I h
  refine wpAny_Call_Name_kw (ld_glob I hg hm ?_ hdb)
  refine PySem.W.callWith_K (h₀ := X.base) I.ok.mod.kin kp (thn (ha.run pos pins s σ H _ I h) ?_) he hpl
  rintro us s1 ⟨vs, H1, I1, r, q⟩
  exact ⟨I1.kIn, run_g F (hr.mono hk) hgu b (fun e s' z => hx σ pins H1 s1 e s' I1 z) I1 r q⟩
end
theorem calG0 {P : Program} {w : World} {K : Frag} {mg : Str → Option Value} {base : Heap} {x : Str} {st : Stmt} {f : Addr} {fd : FuncData} {N ps : List Str} {k : Nat} {sp : Sp} (F : C8.Def K mg x st f fd) (b : Binds K fd ps []) (S : FnScope N ps (C8.fnScope st))
    (len : ∀ vs H Q E, sp vs H Q E → vs.length = ps.length)
    (hbody : ∀ (cdv : Value) (A : Around) (outer : List Env) (s : Shared) (H : Hp) (vs : List V) (Q : VK) (E : XK),
      Room k (A.deeper (envOfC x (C8.fnScope st) s.heap.objs.size f cdv)) → A.guards = some [] → sp vs H Q E →
      ∃ t, PSs (cxOf C8.CX0 P w K mg base N x (C8.fnScope st) f cdv A outer s H E).nox (C8.fnBody st) t ∧
        t { nx := fun _ H' => Q .non H', rt := Q } (start N vs) H) : CalG P w K mg base C8.CX0 (k + 1) x sp := by
  refine ⟨f, fd, ps, FnG.mk' F.fn S len ?_, F.mgf, F.kp, b⟩
  intro cdv A outer s H vs Q E hr hgu hsp
  obtain ⟨t, h, q⟩ := hbody cdv A outer s H vs Q E hr hgu hsp
  exact ⟨t, h.nox, q⟩
end Fr
namespace Fr
open PySem PySem.Spec PyProof.Rows L2
/-- the end of a law's row, from the promise of its def where no guard stands around -/
theorem law_endG {P : Program} {w : World} {K : Frag} {mg mb : Str → Option Value} {k : Nat} {fa a : Addr} {fd : FuncData} {x : Str} {sp : Sp} {s₁ : Shared} {vs : List Value} {ns : List Int}
    (KX : K.In s₁.heap) (hns : s₁.heap.Ns mainGlobals mg) (hb : s₁.heap.Ns builtinsNs mb) (hbb : ∀ x : Str, x ≠ "__name__" → mb x = bootBuiltins x)
    (hlim : s₁.heap.NoLimit) (hg : s₁.gens = #[])
    (ha : s₁.heap.get? a = some { cls := .type "list", data := .seq vs.toArray }) (hi : IntsAre vs ns) (hl : ns.length ≤ sizeLine) (hr : Room k callerA)
    (F : ∀ base : Heap, K.In base → base.Ns mainGlobals mg → FnG P w K mg base C8.CX0 k fa fd [x] sp)
    (hbind : ∀ (s : Shared) (u : Value), BindsTo s fd ⟨[u], []⟩ [(x, u)])
    (hsp : ∀ H : Hp, Only H → SqL K H a (ns.map V.int) → sp [.ref a] H (fun v _ => v = .bl true) fun _ _ _ => False) :
    codeAny (model P w) callerA (.call (.ref fa) ⟨[.ref a], []⟩)
      (fun r s' => r = .ok (.ret (.bool true)) ∧ OldK s₁.heap s'.heap ∧ s'.os = s₁.os ∧ AllBare s'.gens) s₁ := by
  have rv := vals_ints hi
  have lenV := hi.length
  have core : ∀ H : Hp, Only H → SqL K H a (ns.map V.int) → HOk P w H s₁.heap → (∀ b, H b ≠ none → b = a) → (H a ≠ none → K.lookup a = none) →
      codeAny (model P w) callerA (.call (.ref fa) ⟨[.ref a], []⟩)
        (fun r s' => r = .ok (.ret (.bool true)) ∧ OldK s₁.heap s'.heap ∧ s'.os = s₁.os ∧ AllBare s'.gens) s₁ := by
    intro H hO hS hok hA hK
    have noA : ∀ {b : Addr} {o : Obj} {es : Array DictEntry} {ep : Nat}, s₁.heap.get? b = some o → o.data = .dict es ep → H b = none := by
      intro b o es ep e d
      cases q : H b with
      | none => rfl
      | some u =>
        obtain rfl : b = a := hA b (by simp [q])
        rw [ha] at e
        cases e
        have d' : Data.seq vs.toArray _ = Data.dict es ep := d
        cases d'
    have nsK : ∀ {b : Addr} {m : Str → Option Value}, s₁.heap.Ns b m → (hidT s₁.heap H).Ns b m := by
      rintro b m ⟨o, es, ep, e, d, r⟩
      exact ⟨o, es, ep, hidT_get e (noA e d), d, r⟩
    have hKb : K.In (hidT s₁.heap H) := by
      intro b o e
      refine hidT_get (KX b o e) ?_
      cases q : H b with
      | none => rfl
      | some u =>
        obtain rfl : b = a := hA b (by simp [q])
        rw [hK (by simp [q])] at e
        cases e
    obtain ⟨mc, h1, h2⟩ := hlim
    have hM : Mod K mg (hidT s₁.heap H) := ⟨hKb, nsK hns, ⟨mb, nsK hb, hbb⟩, ⟨mc, nsK h1, h2⟩⟩
    have e0 : Env0 P w K mg (hidT s₁.heap H) callerA [] s₁ H := by
      refine ⟨rfl, hM, fun b o e => of_hidT e, Nat.le_of_eq (hidT_size _ _), trivial, ?_, hok, .of_eq hg⟩
      intro b hb
      cases (show b ∈ ([] : List Addr) from hb)
    have z := (F _ hKb (nsK hns)).run callerA [] s₁ H ⟨[.ref a], []⟩ [.ref a] [.ref a] _ _ hr rfl e0 (hbind s₁ (.ref a)) (.cons rfl .nil) (hsp H hO hS)
    refine codeAny_mono z ?_
    rintro (e | fl) s' h
    · exact (show False from h).elim
    · cases fl with
      | next => exact (show False from h).elim
      | brk => exact (show False from h).elim
      | cont => exact (show False from h).elim
      | ret u =>
        obtain ⟨v, H', os, bare, un, hok', r', q⟩ := h
        obtain rfl : v = .bl true := q
        obtain rfl : u = Value.bool true := r'
        refine ⟨rfl, OldK.of_keep ?_, os, bare⟩
        intro b o e
        cases q : H b with
        | none =>
          refine un.keep b o e q ?_ (by simp)
          intro z
          cases (show b ∈ ([] : List Addr) from z)
        | some u =>
          rcases hO b with z | ⟨ob, xs, z⟩
          · rw [q] at z
            cases z
          · obtain ⟨e1, _⟩ := hok b _ z
            obtain ⟨e2, _⟩ := hok' b _ (un.frzs b ob _ z)
            rw [e] at e1
            cases e1
            exact e2
  cases hk : K.lookup a with
  | some o =>
    have e := KX a o hk
    rw [ha] at e
    cases e
    refine core (fun _ => none) (fun _ => .inl rfl) (.inr ?_) ?_ (fun b z => absurd rfl z) fun z => absurd rfl z
    · refine ⟨_, vs.toArray, _, hk, rfl, rfl, rfl, ?_, by simpa using rv⟩
      rw [List.size_toArray, lenV]
      exact hl
    · intro b u z
      cases (show (none : Option HO) = some u from z)
  | none =>
    obtain ⟨Hs, at_, off⟩ : ∃ Hs : Hp, (∀ b, b = a → Hs b = some (.frz { cls := .type "list", data := .seq vs.toArray } (.lst (ns.map V.int)))) ∧ ∀ b, b ≠ a → Hs b = none :=
      ⟨fun b => if b = a then some (.frz { cls := .type "list", data := .seq vs.toArray } (.lst (ns.map V.int))) else none, fun b hb => if_pos hb, fun b hb => if_neg hb⟩
    refine core Hs (fun b => ?_) (.inl (.inr ⟨_, at_ a rfl⟩)) (fun b u z => ?_) (fun b z => ?_) fun _ => hk
    · by_cases hb : b = a
      · exact .inr ⟨_, _, at_ b hb⟩
      · exact .inl (off b hb)
    · by_cases hb : b = a
      · have z' := (at_ b hb).symm.trans z
        cases z'
        subst hb
        refine ⟨ha, ?_, vs, _, rv, ha⟩
        rw [List.length_map]
        exact hl
      · have z' := (off b hb).symm.trans z
        cases z'
    · by_cases hb : b = a
      · exact hb
      · exact absurd (off b hb) z
theorem walkG {l : PySem.W.OpenLaw} {n k : Nat} {q : Program} {loose : List Str} {XP : (Str → Option Value) → Heap → Prop} {YP : World → Heap → Prop} {d : DefRec} {K : Params → Frag} {sp : World → Sp} {x : Str}
    (hn : l.most = some n) (hn2 : n ≤ sizeLine) (hdf : d.params.defaults = []) (hr : Room k callerA) (hY : ∀ (w : World) (h : Heap), YP w h → (K w.params).In h)
    (F : ∀ (w : World) (mg : Str → Option Value) (fa : Addr) (h : Heap), (K w.params).In h → h.Ns mainGlobals mg → mg d.name = some (.ref fa) →
      ∃ fd : FuncData, (∀ (s : Shared) (u : Value), BindsTo s fd ⟨[u], []⟩ [(x, u)]) ∧
        ∀ base : Heap, (K w.params).In base → base.Ns mainGlobals mg → FnG l.prog w (K w.params) mg base C8.CX0 k fa fd [x] (sp w))
    (hsp : ∀ (w : World) (H : Hp) (a : Addr) (ns : List Int), ns.length ≤ n → Only H → SqL (K w.params) H a (ns.map V.int) →
      sp w [.ref a] H (fun v _ => v = .bl true) fun _ _ _ => False) :
    PySem.W.WalkO q loose XP YP l.row.toRowW d [] (fun f vs => PySem.call f vs) := by
  refine Att.attach_call hn hdf ?_
  intro w s₀ s₁ mg mb fa o pm cd doc a vs ns G Y ho hd hcd hmg hobj hints hlen hg
  have KX := hY w _ Y
  obtain ⟨fd, hb, hF⟩ := F w mg fa _ KX G.T.g hmg
  exact law_endG KX G.T.g G.T.b G.T.builtins G.T.nolimit hg hobj hints (Nat.le_trans hlen hn2) hr hF hb fun H hO hS => hsp w H a ns hlen hO hS
/-! ### repr -/
section
variable {X : Cx} {pins : List (Addr × Obj)} {σ : L2.St} {H : Hp} {s : Shared}
/-- repr of data: its text -/
def rRepr (K : Frag) : List V → Hp → VK → Prop := fun xs H Q => ∃ (a : Addr) (d : PyData), xs = [.ref a] ∧ Dp K H (.ref a) d ∧ d.showable = true ∧ d.hasDict = false ∧ d.depth ≤ 60 ∧ d.shown.length ≤ sizeLine ∧ Q (.str d.shown) H
theorem call_reprD (hgu : X.A.guards = some []) (hu : X.A.units + 64 < cLine) : CallR X (.builtin "repr") (rRepr X.K) := by
  intro pins s σ H xs us Q I r h
  obtain ⟨a, d, rfl, hd, hs, hnd, hdp, hsz, q⟩ := h
  cases r with
  | cons rx rr =>
    cases rr
    cases rx
    obtain ⟨as, hr⟩ := Dp.reads I d _ _ hd rfl
    refine PySem.repr_of_reads' hr hs (fun z => by rw [hnd] at z; cases z) hgu (by omega) (fun _ _ z => z) ?_ hsz
    intro h' u tk k
    exact ⟨.str d.shown, H, I.kept (t' := tk) k, ⟨u, rfl⟩, q⟩
end
end Fr
namespace PySem.W
open PySem PySem.Spec PySem.Calls PyProof.Rows
section
variable {prog : Program} {w : World} {A : Around} {E : Value → Shared → Prop} {s : Shared} {K : Frag} {x D : Addr} {ox : Obj} {od : Option Obj}
theorem fr_findData {C : Addr} {name : Str} {a g : Value} (hc : (clsIn K C).isSome = true) (ha : findIn K (.ref C) name = some (some a))
    (hg : specialIn K a "__get__" = some (some g)) (ht : takesIn K a = some true) : findObj K C od name = some (.bind g a) := by
  obtain ⟨cd, hc⟩ := Option.isSome_iff_exists.mp hc
  simp [findObj, hc, ha, hg, ht]
/-- e.__class__ of an exception, whatever its own dict holds -/
theorem fr_class {Q : Option Value → Shared → Prop}
    (hga : findIn K (.ref D) "__getattribute__" = some (some (.builtin "BaseException.__getattribute__")))
    (hgt : findIn K (.ref D) "__getattr__" = some none) (hsub : subIn K (.ref D) (.type "BaseException") = some true)
    (hdct : hasDictIn K D = true) (ha : findIn K (.ref D) "__class__" = some (some (.builtin "object.__class__")))
    (hn : specialIn K (.builtin "object.__class__") "__get__" = some (some (.builtin "getset_descriptor.__get__")))
    (htk : takesIn K (.builtin "object.__class__") = some true) (hm : mroIn K D (.type "object") = some true)
    (X : K.In s.heap) (I : InstAt s.heap x ox D od) (h : Q (some (.ref D)) { s with toks := s.toks + 1 }) :
    wpAny (model prog w) A (getAttr? (.ref x) "__class__") Q E s := by
  have hcs : (clsIn K D).isSome = true := by
    obtain ⟨cd, hc, _⟩ := any_some hdct
    rw [hc]
    rfl
  have hf := fr_findData (od := od) hcs ha hn htk
  obtain ⟨hp, g, d, t, os⟩ := s
  have L0 := I.type (M := model prog w)
  have L1 := looks_findIn (M := model prog w) X hga
  have L2 := looks_findIn (M := model prog w) X hgt
  have L3 := looks_find (M := model prog w) X I hf
  have sub : Looks (model prog w) hp (isInstance (.ref x) (.type "BaseException"))
      true := L0.andThen (looks_subIn X hsub)
  have e2 : (Value.builtin "BaseException.__getattribute__" == Value.builtin "object.__getattribute__") = false := by decide +kernel
  have e1 : (onTheHeap (Value.ref D) && Value.builtin "BaseException.__getattribute__" == Value.builtin "object.__getattribute__") = false := by
    rw [e2]
    rfl
  unfold getAttr? getAttrBy? getAttrBy
  refine wpAny_bind (wpAny_mkText (wpAny_bind (wpAny_attempt (wpAny_holding ?_))))
  refine wpAny_bind (L0.at (wpAny_bind (L1.at ?_)))
  show wpAny _ _ (if (onTheHeap (Value.ref D) && Value.builtin "BaseException.__getattribute__" == Value.builtin "object.__getattribute__") = true
    then _ else _) _ _ _
  rw [e1]
  rw [if_neg Bool.false_ne_true]
  unfold getAttrByItsOwn hookBefore
  refine wpAny_bind ?_
  rw [if_pos (by rfl : onTheHeap (Value.ref D) = true)]
  refine L2.at (wpAny_bind (wpAny_attempt (wpAny_holding ?_)))
  unfold callGetattribute
  have e0 : (false && onTheHeap (Value.builtin "BaseException.__getattribute__")) = false := by rfl
  rw [e0]
  rw [if_neg Bool.false_ne_true]
  unfold boundAndCalled
  rw [PySem.F.excAttr_ValueError.ga.bind (.ref x)]
  refine wpAny_bind (wpAny_pure ?_)
  show wpAny _ _ (call (.builtin "BaseException.__getattribute__") [.ref x, .str "__class__" t])
    _ _ _
  refine wpAny_call (codeAny_call_builtin PySem.F.excAttr_ValueError.ga.plain
    PySem.F.entry_bexc_ga ?_)
  refine @check_slot (model prog w) _ _ ⟨hp, g, d, t + 1, os⟩ "BaseException.__getattribute__" "BaseException" "__getattribute__"
    (.ref x) [.str "__class__" t] [] _ (by decide +kernel) (by decide +kernel) sub (PySem.F.args_bexc_ga _ _) ?_
  unfold Builtin.«object.__getattribute__»
  refine wpAny_bind (wpAny_of_eq (a := ((Value.ref x : Value), [Value.str "__class__" t]))
    (by first | rfl | (simp only [slotArgs]; rfl)) ?_)
  refine wpAny_bind (wpAny_pure ?_)
  refine wpAny_bind (L0.at (wpAny_bind (L3.at ?_)))
  show wpAny _ _ (holding [Value.builtin "object.__class__"]
    (call (.builtin "getset_descriptor.__get__") [.builtin "object.__class__", .ref x, .ref D]) >>= ret) _ _ _
  refine wpAny_bind (wpAny_holding (wpAny_call ?_))
  refine class_get (s := ⟨hp, g, d, t + 1, os⟩) (ox := ox) (od := od) X I hm ?_
  refine wpAny_pure ?_
  show wpAny _ _ (handedOut (.ref D))
    _ _ _
  rw [handedOut_of (v := .ref D) rfl]
  first
    | exact wpAny_pure (wpAny_pure h) | exact wpAny_pure h
    | exact wpAny_pure (wpAny_bind (wpAny_pure (wpAny_pure h)))
theorem fr_kitx
    (hga : findIn K (.ref D) "__getattribute__" = some (some (.builtin "BaseException.__getattribute__")))
    (hgt : findIn K (.ref D) "__getattr__" = some none) (hsub : subIn K (.ref D) (.type "BaseException") = some true)
    (hdct : hasDictIn K D = true) (ha : findIn K (.ref D) "__class__" = some (some (.builtin "object.__class__")))
    (hn : specialIn K (.builtin "object.__class__") "__get__" = some (some (.builtin "getset_descriptor.__get__")))
    (htk : takesIn K (.builtin "object.__class__") = some true) (hm : mroIn K D (.type "object") = some true) :
    KitX K (.ref x) (.ref D) (fun h => InstAt h x ox D od) := by
  obtain ⟨cdD, hcD, _⟩ := any_some hdct
  unfold clsIn at hcD
  split at hcD
  · rename_i c' d' cd' sl' ho
    refine ⟨fun _ _ _ I => I.type, fun _ _ X _ => ?_, fun h tp dd its n sl X htp => ?_, fun X I k => fr_class hga hgt hsub hdct ha hn htk hm X I k⟩
    · intro A' Q' E' s' k q
      unfold isType loadHead
      refine wpAny_bind (wpAny_loadPart (k _ _ (X _ _ ho)) ?_)
      exact wpAny_pure q
    · refine Bool.eq_false_iff.mpr ?_
      intro q
      obtain rfl : D = tp := Value.ref.inj (beq_iff_eq.mp q)
      cases (X _ _ ho).symm.trans htp
  · cases hcD
end
end PySem.W
namespace Fr
open PySem PySem.Spec PyProof.Rows L2
/-! ### exceptions as values -/
/-- at a: an exception of the class at C, its own dict (none, or at d) -/
def exv (a C : Addr) (d : Option Addr) : HO := .ext fun h => ∃ (oe : Obj) (vs : Array Value), h.get? a = some oe ∧ oe.cls = .ref C ∧ oe.dict = d ∧ oe.data = .fields vs
theorem exv_ok {P : Program} {w : World} {H : Hp} {h : Heap} {a C : Addr} {d : Option Addr} {oe : Obj} {vs : Array Value} (e : h.get? a = some oe) (c : oe.cls = .ref C) (z : oe.dict = d) (q : oe.data = .fields vs) : ObjOk P w H h a (exv a C d) :=
  ⟨⟨oe, vs, e, c, z, q⟩, ⟨oe, e⟩, fun _ _ ⟨o, v, q, r⟩ k => ⟨o, v, k o q, r⟩⟩
/-- the own dict of an exception holds these fields -/
def XD (H : Hp) (d : Addr) (fs : List (Str × V)) : Prop := H d = some (.xd fs) ∨ H d = some (exd d fs)
theorem XD.at {P : Program} {w : World} {H : Hp} {h : Heap} {d : Addr} {fs : List (Str × V)} (x : XD H d fs) (ok : HOk P w H h) : ∃ mA, h.Ns1 d mA ∧ ∀ f, RelO (fs.lookup f) (mA f) := by
  rcases x with x | x
  · exact ok d _ x
  · exact exd_at ok x
/-- an exception of the class at C stands at a -/
def XV (H : Hp) (a C : Addr) (d : Option Addr) : Prop := H a = some (exv a C d) ∨ H a = some (exo a C d) ∨ (d = none ∧ H a = some (ExO (.ref C) a))
theorem XV.at {P : Program} {w : World} {H : Hp} {h : Heap} {a C : Addr} {d : Option Addr} (x : XV H a C d) (ok : HOk P w H h) : ∃ (oe : Obj) (vs : Array Value), h.get? a = some oe ∧ oe.cls = .ref C ∧ oe.dict = d ∧ oe.data = .fields vs := by
  rcases x with x | x | ⟨rfl, x⟩
  · exact (ok a _ x).1
  · obtain ⟨t1, e⟩ := exo_at ok x
    exact ⟨_, _, e, rfl, rfl, rfl⟩
  · obtain ⟨⟨oe, vs, e, z, q, _⟩, _, _⟩ := ok a _ x
    exact ⟨oe, vs, e, z.1, z.2, q⟩
theorem XV.same {H H' : Hp} {a C : Addr} {d : Option Addr} (x : XV H a C d) (s : Same H H') : XV H' a C d := by
  rcases x with x | x | ⟨e, x⟩
  · exact .inl (s _ _ x)
  · exact .inr (.inl (s _ _ x))
  · exact .inr (.inr ⟨e, s _ _ x⟩)
theorem XD.same {H H' : Hp} {d : Addr} {fs : List (Str × V)} (x : XD H d fs) (s : Same H H') : XD H' d fs := x.elim (fun x => .inl (s _ _ x)) fun x => .inr (s _ _ x)
theorem inst_of {P : Program} {w : World} {H : Hp} {h : Heap} {a C : Addr} {d : Option Addr} (x : XV H a C d) (ok : HOk P w H h) (hd : ∀ dd, d = some dd → ∃ fs, XD H dd fs) : ∃ ox od, PySem.W.InstAt h a ox C od := by
  obtain ⟨oe, vs, e, c, z, q⟩ := x.at ok
  have no : PySem.W.notCls oe = true := by
    unfold PySem.W.notCls
    rw [q]
  cases d with
  | none => exact ⟨oe, none, e, c, no, by rw [z]; trivial⟩
  | some dd =>
    obtain ⟨fs, y⟩ := hd dd rfl
    obtain ⟨mA, ⟨o, es, ep, ho, _⟩, _⟩ := y.at ok
    exact ⟨oe, some o, e, c, no, by rw [z]; exact ho⟩
/-- isinstance(e, c), e a tracked exception -/
def rIsX (K : Frag) : List V → Hp → VK → Prop := fun xs H Q => ∃ (a D : Addr) (d : Option Addr) (c : V) (cv : Value) (b : Bool), xs = [.ref a, c] ∧ XV H a D d ∧ (∀ dd, d = some dd → ∃ fs, XD H dd fs) ∧ ExcC K D ∧
  (∀ u, RelV c u → u = cv) ∧ PySem.W.kitOne K (.ref D) cv = some b ∧ Q (.bl b) H
theorem call_isX {X : Cx} : CallR X (.builtin "isinstance") (rIsX X.K) := by
  intro pins s σ H xs us Q I r h
  obtain ⟨a, D, d, c, cv, b, rfl, hx, hd, T, hcv, e, q⟩ := h
  cases r with
  | cons rx rr =>
    cases rr with
    | cons rt rr =>
      cases rr
      cases rx
      have ec := hcv _ rt
      subst ec
      obtain ⟨ox, od, J⟩ := inst_of hx I.hok hd
      refine PySem.W.kia_one (PySem.W.fr_kitx T.hg T.hk T.hs T.hd T.ha T.hn T.ht T.hm) I.kIn J e (fun z => nomatch z) ?_
      exact fun tk => ⟨.bl b, H, I.kept (t' := tk) fun _ _ z => z, rfl, q⟩
/-- e.f, e a tracked exception with its own dict -/
def tXv (K : Frag) (f : Str) (te : TE) : TE := fun σ H Q => te σ H fun x H1 => ∃ (a C d : Addr) (fs : List (Str × V)) (v : V), x = .ref a ∧ XV H1 a C (some d) ∧ XD H1 d fs ∧ XfC K C ∧ PySem.W.findIn K (.ref C) f = some none ∧ fs.lookup f = some v ∧ Q v H1
theorem pe_xv {X : Cx} {e : Expr} {te : TE} {pos : Pos} {n : Str} (he : PE X e te) (hb : attributeBase e n X.env (eval e X.env) = eval e X.env := by rfl) : PE X (.Attribute e n pos) (tXv X.K n te) := by
  refine ⟨?_⟩
  intro pins s σ H Q I h
  refine attr_of hb (thn (he.run pins s σ H _ I h) ?_)
  rintro u s1 ⟨x, H1, I1, rx, a, C, d, fs, v, rfl, xv, xd, T, hno, l, q⟩
  obtain rfl : u = Value.ref a := rx
  obtain ⟨oe, vs, ea, ec, ed, eq⟩ := xv.at I1.hok
  obtain ⟨mA, hns, hr⟩ := xd.at I1.hok
  obtain ⟨od, ho, hl⟩ := lookIn_ns hns
  obtain ⟨u, hu, ru⟩ := RelO.some_of (v := v) (o := mA n) (by rw [← l]; exact hr n)
  have J : PySem.W.InstAt s1.heap a oe C (some od) := by
    refine ⟨ea, ec, ?_, ?_⟩
    · unfold PySem.W.notCls
      rw [eq]
    · rw [ed]
      exact ho
  refine HandSPX.exc_get I1.kIn J T.ga T.gg T.exC (PySem.W.findObj_own T.hdC hno rfl (by rw [hl, hu])) (handed_of ru) ?_
  exact ⟨v, H1, I1.tok _, ru, q⟩
end Fr
namespace Fw
open PySem PySem.Spec PyProof.Rows L2 Fr
/-! # values without a heap -/
inductive Da where
  | non | bl (b : Bool) | int (i : Int) | str (x : Str) | lst (xs : List Da) | tup (xs : List Da) | obj (n : Nat) (xs : List Da)
/-- what the objects of the program are, kind by kind: Ob n H v vs: v is an object of the kind n in H, of the values vs -/
structure Ly where
  K : Frag
  Ob : Nat → Hp → V → List V → Prop
  mo : ∀ {n H H' v vs}, Same H H' → Ob n H v vs → Ob n H' v vs
mutual
inductive Dv (L : Ly) (H : Hp) : V → Da → Prop
  | non : Dv L H .non .non
  | bl (b : Bool) : Dv L H (.bl b) (.bl b)
  | int (i : Int) : Dv L H (.int i) (.int i)
  | str (x : Str) : Dv L H (.str x) (.str x)
  | lst {a : Addr} {xs : List V} {ds : List Da} : H a = some (.lst xs) → DvAll L H xs ds → Dv L H (.ref a) (.lst ds)
  | tup {a : Addr} {xs : List V} {ds : List Da} : SqT L.K H a xs → DvAll L H xs ds → Dv L H (.ref a) (.tup ds)
  | obj {n : Nat} {v : V} {xs : List V} {ds : List Da} : L.Ob n H v xs → DvAll L H xs ds → Dv L H v (.obj n ds)
inductive DvAll (L : Ly) (H : Hp) : List V → List Da → Prop
  | nil : DvAll L H [] []
  | cons {v : V} {vs : List V} {d : Da} {ds : List Da} : Dv L H v d → DvAll L H vs ds → DvAll L H (v :: vs) (d :: ds)
end
mutual
theorem dv_same {L : Ly} {H H' : Hp} (e : Same H H') : ∀ {v : V} {d : Da}, Dv L H v d → Dv L H' v d
  | _, _, .non => .non
  | _, _, .bl b => .bl b
  | _, _, .int i => .int i
  | _, _, .str x => .str x
  | _, _, .lst h t => .lst (e _ _ h) (dvs_same e t)
  | _, _, .tup h t => .tup (same_sqt e h) (dvs_same e t)
  | _, _, .obj h t => .obj (L.mo e h) (dvs_same e t)
theorem dvs_same {L : Ly} {H H' : Hp} (e : Same H H') : ∀ {vs : List V} {ds : List Da}, DvAll L H vs ds → DvAll L H' vs ds
  | _, _, .nil => .nil
  | _, _, .cons h t => .cons (dv_same e h) (dvs_same e t)
end
theorem dvs_len {L : Ly} {H : Hp} : ∀ {vs : List V} {ds : List Da}, DvAll L H vs ds → vs.length = ds.length
  | _, _, .nil => rfl
  | _, _, .cons h t => by simp [dvs_len t]
theorem dvs_app {L : Ly} {H : Hp} : ∀ {vs ws : List V} {ds es : List Da}, DvAll L H vs ds → DvAll L H ws es → DvAll L H (vs ++ ws) (ds ++ es)
  | _, _, _, _, .nil, s => s
  | _, _, _, _, .cons h t, s => .cons h (dvs_app t s)
theorem dvs_get {L : Ly} {H : Hp} : ∀ {vs : List V} {ds : List Da} {i : Nat} {v : V}, DvAll L H vs ds → vs[i]? = some v → ∃ d, ds[i]? = some d ∧ Dv L H v d
  | _, _, i, _, .nil, e => by simp at e
  | _, _, 0, _, .cons h t, e => by
    simp at e
    subst e
    exact ⟨_, rfl, h⟩
  | _, _, i + 1, _, .cons h t, e => by
    obtain ⟨d, h1, h2⟩ := dvs_get (i := i) t (by simpa using e)
    exact ⟨d, by simpa using h1, h2⟩
theorem dvs_at {L : Ly} {H : Hp} : ∀ {vs : List V} {ds : List Da} {i : Nat} {d : Da}, DvAll L H vs ds → ds[i]? = some d → ∃ v, vs[i]? = some v ∧ Dv L H v d
  | _, _, i, _, .nil, e => by simp at e
  | _, _, 0, _, .cons h t, e => by
    simp at e
    subst e
    exact ⟨_, rfl, h⟩
  | _, _, i + 1, _, .cons h t, e => by
    obtain ⟨d, h1, h2⟩ := dvs_at (i := i) t (by simpa using e)
    exact ⟨d, by simpa using h1, h2⟩
theorem dvs_set {L : Ly} {H : Hp} : ∀ {vs : List V} {ds : List Da} (i : Nat) {v : V} {d : Da}, DvAll L H vs ds → Dv L H v d → DvAll L H (vs.set i v) (ds.set i d)
  | _, _, _, _, _, .nil, _ => .nil
  | _, _, 0, _, _, .cons h t, e => .cons e t
  | _, _, i + 1, _, _, .cons h t, e => .cons h (dvs_set i t e)
theorem dvs_erase {L : Ly} {H : Hp} : ∀ {vs : List V} {ds : List Da} (i : Nat), DvAll L H vs ds → DvAll L H (vs.eraseIdx i) (ds.eraseIdx i)
  | _, _, _, .nil => .nil
  | _, _, 0, .cons h t => t
  | _, _, i + 1, .cons h t => .cons h (dvs_erase i t)
theorem dvs_drop {L : Ly} {H : Hp} : ∀ {vs : List V} {ds : List Da} (i : Nat), DvAll L H vs ds → DvAll L H (vs.drop i) (ds.drop i)
  | _, _, _, .nil => by simpa using DvAll.nil
  | _, _, 0, h => h
  | _, _, i + 1, .cons h t => dvs_drop i t
theorem dvs_take {L : Ly} {H : Hp} : ∀ {vs : List V} {ds : List Da} (i : Nat), DvAll L H vs ds → DvAll L H (vs.take i) (ds.take i)
  | _, _, _, .nil => by simpa using DvAll.nil
  | _, _, 0, h => by simpa using DvAll.nil
  | _, _, i + 1, .cons h t => .cons h (dvs_take i t)
theorem draw_trk {d l c : Addr} {H : Hp} (D : Draw d l c H) : H d ≠ none ∧ H l ≠ none ∧ H c ≠ none := by
  obtain ⟨_, _, _, _, D⟩ := D
  exact ⟨by rw [D.hd]; simp, by rw [D.hl]; simp, by rw [D.hc]; simp⟩
theorem draw_same {d l c : Addr} {H H' : Hp} (D : Draw d l c H) (s : Same H H') : Draw d l c H' := by
  obtain ⟨a, b, e, f, D⟩ := D
  exact ⟨a, b, e, f, s _ _ D.hd, s _ _ D.hl, s _ _ D.hc, D.ne⟩
/-! # a frame's slots without a heap -/
inductive Sl where
  | dat (d : Da)
  /-- a list that may still change, at p -/
  | gro (p : Addr) (ds : List Da)
  /-- the state of the draws -/
  | drw (d l c : Addr)
  /-- no slot of the def: it tells the tables that stand around -/
  | tab (T : List (Addr × Str))
def Sl.isTab : Sl → Bool
  | .tab _ => true
  | _ => false
abbrev En := List (Option Sl)
def slA : Option Sl → List Addr
  | some (.gro p _) => [p]
  | some (.drw d l c) => [d, l, c]
  | _ => []
def own (ρ : En) : List Addr := ρ.flatMap slA
def RepS (L : Ly) (G H : Hp) : Option V → Option Sl → Prop
  | _, none => True
  | some v, some (.dat d) => Dv L G v d
  | some v, some (.gro p ds) => v = .ref p ∧ G p = none ∧ ∃ vs, H p = some (.lst vs) ∧ DvAll L G vs ds
  | some v, some (.drw d l c) => v = .ref d ∧ G d = none ∧ G l = none ∧ Draw d l c H
  | none, some t => t.isTab = true
  | some _, some (.tab _) => False
theorem reps_none {L : Ly} {G H : Hp} {t : Sl} (h : RepS L G H none (some t)) (n : t.isTab = false := by rfl) : False := by
  have h' : t.isTab = true := by cases t <;> exact h
  rw [n] at h'
  cases h'
/-- the def's entry: what may change (M), what never changes, the heap; what is kept besides -/
structure Bs where
  M : Addr → Prop
  G0 : Hp
  H0 : Hp
  ks : List (Addr × HO)
  /-- tables of code objects, with the names of what they tell -/
  T : List (Addr × Str)
/-- the table at P tells code objects of the name q, which never change -/
def TabG (G H : Hp) (P : Addr) (q : Str) : Prop := ∃ ps : Array Value, H P = some (.tbl ps) ∧ TriplesOk ps.toList ∧ ∀ (pos : Pos) (cv : Value), codeAmong pos ps.toList = some cv → ∃ c, cv = .ref c ∧ G c = some (LamX.CodeO c q)
theorem TabG.go {G H G' H' : Hp} {P : Addr} {q : Str} (t : TabG G H P q) (s : Same G G') (e : ∀ o, H P = some o → H' P = some o) : TabG G' H' P q := by
  obtain ⟨ps, h1, h2, h3⟩ := t
  refine ⟨ps, e _ h1, h2, fun pos cv hc => ?_⟩
  obtain ⟨c, e1, e2⟩ := h3 pos cv hc
  exact ⟨c, e1, s _ _ e2⟩
theorem TabG.tk {G H : Hp} {P : Addr} {q : Str} (t : TabG G H P q) : H P ≠ none := by
  obtain ⟨ps, h1, _⟩ := t
  rw [h1]
  simp
def TabsG (T : List (Addr × Str)) (G H : Hp) : Prop := ∀ p ∈ T, TabG G H p.1 p.2
theorem TabsG.go {T : List (Addr × Str)} {G H G' H' : Hp} (t : TabsG T G H) (s : Same G G') (e : Same H H') : TabsG T G' H' := fun p hp => (t p hp).go s fun o h => e _ _ h
structure Rep (L : Ly) (B : Bs) (G H : Hp) (σ : L2.St) (ρ : En) : Prop where
  gr : Grow B.M B.G0 B.H0 G H
  mh : ∀ b, B.M b → B.H0 b ≠ none ∧ B.G0 b = none
  env : Paired (RepS L G H) σ ρ
  nd : (own ρ).Nodup
  fm : ∀ p ds, some (Sl.gro p ds) ∈ ρ → B.H0 p = none
  fd : ∀ d l c, some (Sl.drw d l c) ∈ ρ → B.M d ∧ B.M l
  ks : ∀ q ∈ B.ks, H q.1 = some q.2 ∧ G q.1 = none ∧ ¬ B.M q.1 ∧ q.1 ∉ own ρ
  tb : TabsG B.T G H
  tg : ∀ p ∈ B.T, G p.1 = none ∧ p.1 ∉ own ρ ∧ ∀ q ∈ B.ks, q.1 ≠ p.1
  mt : ∀ p ∈ B.T, B.M p.1
  ft : ∀ T, some (Sl.tab T) ∈ ρ → T = B.T
section
variable {L : Ly} {B : Bs} {G H G' H' : Hp} {σ : L2.St} {ρ : En}
theorem Rep.gh (r : Rep L B G H σ ρ) : Same G H := r.gr.gh
theorem RepS.grow {s : Option V} {t : Option Sl} (h : RepS L G H s t) (g : Same G G') (hm : ∀ p ds, t = some (.gro p ds) → H' p = H p ∧ G' p = none) (hd : ∀ d l c, t = some (.drw d l c) → G' d = none ∧ G' l = none ∧ Draw d l c H') : RepS L G' H' s t := by
  cases t with
  | none => cases s <;> trivial
  | some t =>
    cases s with
    | none =>
      cases t with
      | tab T => rfl
      | _ => cases h
    | some v =>
      cases t with
      | tab T => exact h
      | dat d => exact dv_same g h
      | gro p ds =>
        obtain ⟨e, _, vs, h1, h2⟩ := h
        obtain ⟨e1, e2⟩ := hm p ds rfl
        exact ⟨e, e2, vs, e1.trans h1, dvs_same g h2⟩
      | drw d l c =>
        obtain ⟨e, _⟩ := h
        obtain ⟨h1, h2, h3⟩ := hd d l c rfl
        exact ⟨e, h1, h2, h3⟩
theorem paired_imp {α β : Type} {F F' : α → β → Prop} : ∀ {l : List α} {m : List β}, Paired F l m → (∀ a b, b ∈ m → F a b → F' a b) → Paired F' l m
  | _, _, .nil, _ => .nil
  | _, _, .cons h t, f => .cons (f _ _ List.mem_cons_self h) (paired_imp t fun a b m => f a b (List.mem_cons_of_mem _ m))
theorem paired_get {α β : Type} {F : α → β → Prop} : ∀ {l : List α} {m : List β} {i : Nat} {b : β}, Paired F l m → m[i]? = some b → ∃ a, l[i]? = some a ∧ F a b
  | _, _, _, _, .nil, e => by simp at e
  | _, _, 0, _, .cons h t, e => by
    simp at e
    subst e
    exact ⟨_, rfl, h⟩
  | _, _, i + 1, _, .cons h t, e => by
    obtain ⟨d, h1, h2⟩ := paired_get (i := i) t (by simpa using e)
    exact ⟨d, by simpa using h1, h2⟩
theorem paired_set {α β : Type} {F : α → β → Prop} {a : α} {b : β} (h : F a b) : ∀ {l : List α} {m : List β} (i : Nat), Paired F l m → Paired F (l.set i a) (m.set i b)
  | _, _, _, .nil => .nil
  | _, _, 0, .cons _ t => .cons h t
  | _, _, i + 1, .cons g t => .cons g (paired_set h i t)
theorem own_mem {p : Addr} {s : Option Sl} (h : s ∈ ρ) (hp : p ∈ slA s) : p ∈ own ρ := List.mem_flatMap.mpr ⟨s, h, hp⟩
/-- what is owned is tracked, and not among what never changes -/
theorem RepS.own {s : Option V} {t : Option Sl} (h : RepS L G H s t) : ∀ p ∈ slA t, H p ≠ none := by
  intro p hp
  cases t with
  | none => cases hp
  | some t =>
    cases s with
    | none =>
      cases t with
      | tab T => cases hp
      | _ => cases h
    | some v =>
      cases t with
      | tab T => cases hp
      | dat d => cases hp
      | gro q ds =>
        obtain ⟨_, _, vs, h1, _⟩ := h
        simp [slA] at hp
        rw [hp, h1]
        simp
      | drw d l c =>
        obtain ⟨_, _, _, _, _, _, _, D⟩ := h
        simp [slA] at hp
        rcases hp with e | e | e
        · rw [e, D.hd]; simp
        · rw [e, D.hl]; simp
        · rw [e, D.hc]; simp
theorem paired_mem {α β : Type} {F : α → β → Prop} : ∀ {l : List α} {m : List β} {b : β}, Paired F l m → b ∈ m → ∃ a ∈ l, F a b
  | _, _, _, .nil, h => by cases h
  | _, _, _, .cons h t, hb => by
    rcases List.mem_cons.mp hb with e | hb
    · exact ⟨_, List.mem_cons_self, by rw [e]; exact h⟩
    · obtain ⟨a, h1, h2⟩ := paired_mem t hb
      exact ⟨a, List.mem_cons_of_mem _ h1, h2⟩
theorem Rep.own (r : Rep L B G H σ ρ) : ∀ p ∈ own ρ, H p ≠ none := by
  intro p hp
  obtain ⟨s, hs, hp⟩ := List.mem_flatMap.mp hp
  obtain ⟨v, _, h⟩ := paired_mem r.env hs
  exact h.own p hp
/-- a step that leaves what is owned as it is, but for the draws -/
theorem Rep.step (r : Rep L B G H σ ρ) (g : Grow B.M G H G' H') (hd : ∀ d l c, some (Sl.drw d l c) ∈ ρ → Draw d l c H') (ht : TabsG B.T G' H') : Rep L B G' H' σ ρ where
  gr := r.gr.trans g
  mh := r.mh
  env := paired_imp r.env fun a b hb h => h.grow g.gg (fun p ds e => by
    subst e
    have hn := r.fm p ds hb
    have hM : ¬ B.M p := fun z => (r.mh p z).1 hn
    cases a with
    | none => exact (reps_none h).elim
    | some v =>
      obtain ⟨_, hG, vs, h1, _⟩ := h
      exact ⟨(g.hh p _ hM h1).trans h1.symm, g.nw p (by rw [h1]; simp) hG⟩) (fun d l c e => by
    subst e
    cases a with
    | none => exact (reps_none h).elim
    | some v =>
      obtain ⟨_, h1, h2, D⟩ := h
      obtain ⟨t1, t2, _⟩ := draw_trk D
      exact ⟨g.nw d t1 h1, g.nw l t2 h2, hd d l c hb⟩)
  nd := r.nd
  fm := r.fm
  fd := r.fd
  ks := fun q hq => by
    obtain ⟨h1, h2, h3, h4⟩ := r.ks q hq
    exact ⟨g.hh _ _ h3 h1, g.nw _ (by rw [h1]; simp) h2, h3, h4⟩
  tb := ht
  tg := fun p hp => ⟨g.nw _ (r.tb p hp).tk (r.tg p hp).1, (r.tg p hp).2⟩
  mt := r.mt
  ft := r.ft
/-- a new object that never changes -/
theorem Rep.lay (r : Rep L B G H σ ρ) {p : Addr} {o : HO} (n : H p = none) : Rep L B (upd G p o) (upd H p o) σ ρ :=
  r.step (Grow.lay r.gh n) (fun d l c h => by
    obtain ⟨v, _, hv⟩ := paired_mem r.env h
    cases v with
    | none => exact (reps_none hv).elim
    | some v => exact draw_same hv.2.2.2 (same_upd n)) (r.tb.go (same_upd (r.gh.free n)) (same_upd n))
end
end Fw
namespace Fw
open PySem PySem.Spec PyProof.Rows L2 Fr
/-! # expressions without a heap: what must hold of a frame so that k holds of the value -/
structure Px where
  f : En → (Da → En → Prop) → Prop
  mono : ∀ {ρ : En} {k k' : Da → En → Prop}, (∀ d ρ', k d ρ' → k' d ρ') → f ρ k → f ρ k'
structure Pt where
  f : En → (Bool → En → Prop) → Prop
  mono : ∀ {ρ : En} {k k' : Bool → En → Prop}, (∀ d ρ', k d ρ' → k' d ρ') → f ρ k → f ρ k'
structure Pl where
  f : En → (List Da → En → Prop) → Prop
  mono : ∀ {ρ : En} {k k' : List Da → En → Prop}, (∀ d ρ', k d ρ' → k' d ρ') → f ρ k → f ρ k'
def tW (L : Ly) (g : Px) : TE := fun σ H Q => ∃ B G ρ, Rep L B G H σ ρ ∧ g.f ρ fun d ρ' => ∀ v G' H', Rep L B G' H' σ ρ' → Same G G' → Dv L G' v d → Q v H'
def tWT (L : Ly) (g : Pt) : TT := fun σ H Q => ∃ B G ρ, Rep L B G H σ ρ ∧ g.f ρ fun b ρ' => ∀ G' H', Rep L B G' H' σ ρ' → Same G G' → Q b H'
def tWA (L : Ly) (g : Pl) : TA := fun σ H Q => ∃ B G ρ, Rep L B G H σ ρ ∧ g.f ρ fun ds ρ' => ∀ vs G' H', Rep L B G' H' σ ρ' → Same G G' → DvAll L G' vs ds → Q vs H'
section
variable {X : Cx} {L : Ly} {e a b : Expr} {es : List Expr} {pos : Pos}
theorem PE.imp {t t' : TE} (p : PE X e t) (h : ∀ σ H Q, t' σ H Q → t σ H Q) : PE X e t' := ⟨fun pins s σ H Q I q => p.run pins s σ H Q I (h _ _ _ q)⟩
theorem PT.imp {t t' : TT} (p : PT X e t) (h : ∀ σ H Q, t' σ H Q → t σ H Q) : PT X e t' := ⟨fun pins s σ H Q I q => p.run pins s σ H Q I (h _ _ _ q)⟩
theorem PA.imp {t t' : TA} (p : PA X es t) (h : ∀ σ H Q, t' σ H Q → t σ H Q) : PA X es t' := ⟨fun pos pins s σ H Q I q => p.run pos pins s σ H Q I (h _ _ _ q)⟩
/-! ## a value at once -/
def pC (d : Da) : Px := ⟨fun ρ k => k d ρ, fun h => h _ _⟩
theorem tW_C {v : V} {d : Da} (hv : ∀ G, Dv L G v d) (p : PE X e (tC v)) : PE X e (tW L (pC d)) := PE.imp p fun σ H Q ⟨B, G, ρ, r, h⟩ => h v G H r (Same.refl _) (hv G)
theorem w_int {n : Int} {kd : Nat} (p : PE X e (tC (.int n))) : PE X e (tW L (pC (.int n))) := tW_C (fun _ => .int n) p
theorem w_bl {b : Bool} (p : PE X e (tC (.bl b))) : PE X e (tW L (pC (.bl b))) := tW_C (fun _ => .bl b) p
theorem w_str {x : Str} (p : PE X e (tC (.str x))) : PE X e (tW L (pC (.str x))) := tW_C (fun _ => .str x) p
theorem w_non (p : PE X e (tC .non)) : PE X e (tW L (pC .non)) := tW_C (fun _ => .non) p
/-- a name: data -/
def pV (i : Nat) : Px := ⟨fun ρ k => ∃ d, ρ[i]? = some (some (.dat d)) ∧ k d ρ, fun h ⟨d, e, q⟩ => ⟨d, e, h _ _ q⟩⟩
theorem w_v {i : Nat} (p : PE X e (tVar i)) : PE X e (tW L (pV i)) := PE.imp p fun σ H Q ⟨B, G, ρ, r, d, hi, h⟩ => by
  obtain ⟨s, hs, hr⟩ := paired_get r.env hi
  cases s with
  | none => exact (reps_none hr).elim
  | some v => exact ⟨v, hs, h v G H r (Same.refl _) hr⟩
/-! ## two values -/
structure R2p where
  f : Da → Da → (Da → Prop) → Prop
  mono : ∀ {x y : Da} {k k' : Da → Prop}, (∀ d, k d → k' d) → f x y k → f x y k'
def Snd2 (L : Ly) (R : R2) (r : R2p) : Prop := ∀ {B : Bs} {G H : Hp} {σ : L2.St} {ρ : En} {v u : V} {x y : Da} {Q : VK}, Rep L B G H σ ρ → Dv L G v x → Dv L G u y →
  r.f x y (fun z => ∀ w G' H', Rep L B G' H' σ ρ → Same G G' → Dv L G' w z → Q w H') → R v u H Q
def p2 (ga gb : Px) (r : R2p) : Px := ⟨fun ρ k => ga.f ρ fun x ρ1 => gb.f ρ1 fun y ρ2 => r.f x y fun z => k z ρ2, fun h => ga.mono fun _ _ => gb.mono fun _ _ => r.mono fun _ => h _ _⟩
theorem tW_tOp {R : R2} {r : R2p} {ga gb : Px} (hs : Snd2 L R r) : ∀ σ H Q, tW L (p2 ga gb r) σ H Q → tOp R (tW L ga) (tW L gb) σ H Q := fun σ H Q ⟨B, G, ρ, r0, h⟩ =>
  ⟨B, G, ρ, r0, ga.mono (fun x ρ1 h1 v G1 H1 r1 s1 d1 => ⟨B, G1, ρ1, r1, gb.mono (fun y ρ2 h2 u G2 H2 r2 s2 d2 => hs r2 (dv_same s2 d1) d2 (r.mono (fun z h3 w G3 H3 r3 s3 d3 => h3 w G3 H3 r3 (s1.trans (s2.trans s3)) d3) h2)) h1⟩) h⟩
theorem w_tOp {R : R2} {r : R2p} {ga gb : Px} (hs : Snd2 L R r) (p : PE X e (tOp R (tW L ga) (tW L gb))) : PE X e (tW L (p2 ga gb r)) := PE.imp p (tW_tOp hs)
theorem w_op {op : Operator} {R : R2} {r : R2p} {ga gb : Px} (ho : OpR X (binaryOp op) R) (hs : Snd2 L R r) (ha : PE X a (tW L ga)) (hb : PE X b (tW L gb)) : PE X (.BinOp a op b pos) (tW L (p2 ga gb r)) := w_tOp hs (pe_op ho ha hb)
theorem w_cmp {op : CmpOp} {R : R2} {r : R2p} {ga gb : Px} (ho : OpR X (compareOp op) R) (hs : Snd2 L R r) (ha : PE X a (tW L ga)) (hb : PE X b (tW L gb)) (hm : behindInMarks op b = false) : PE X (.Compare a [op] [b] pos) (tW L (p2 ga gb r)) :=
  w_tOp hs (pe_cmpR ho ha hb hm)
theorem w_ix {R : R2} {r : R2p} {ga gb : Px} (ho : IxR X R) (hs : Snd2 L R r) (ha : PE X a (tW L ga)) (hb : PE X b (tW L gb)) (hp : PlainIx b) : PE X (.Subscript a b pos) (tW L (p2 ga gb r)) := w_tOp hs (pe_ix ho ha hb hp)
/-! ## arguments -/
def pN : Pl := ⟨fun ρ k => k [] ρ, fun h => h _ _⟩
def pK (g : Px) (gs : Pl) : Pl := ⟨fun ρ k => g.f ρ fun d ρ1 => gs.f ρ1 fun ds ρ2 => k (d :: ds) ρ2, fun h => g.mono fun _ _ => gs.mono fun _ _ => h _ _⟩
theorem w_nil : PA X [] (tWA L pN) := PA.imp pa_nil fun σ H Q ⟨B, G, ρ, r, h⟩ => h [] G H r (Same.refl _) .nil
theorem w_cons {g : Px} {gs : Pl} (ha : PE X e (tW L g)) (hr : PA X es (tWA L gs)) (hs : starEach (e :: es) X.env = (false, eval e X.env) :: starEach es X.env := by rfl) : PA X (e :: es) (tWA L (pK g gs)) :=
  PA.imp (pa_cons ha hr hs) fun σ H Q ⟨B, G, ρ, r0, h⟩ =>
    ⟨B, G, ρ, r0, g.mono (fun x ρ1 h1 v G1 H1 r1 s1 d1 => ⟨B, G1, ρ1, r1, gs.mono (fun ds ρ2 h2 vs G2 H2 r2 s2 d2 => h2 (v :: vs) G2 H2 r2 (s1.trans s2) (.cons (dv_same s2 d1) d2)) h1⟩) h⟩
/-! ## displays -/
def pTup (g : Pl) : Px := ⟨fun ρ k => g.f ρ fun ds ρ1 => ds.length ≤ sizeLine ∧ k (.tup ds) ρ1, fun h => g.mono fun _ _ z => ⟨z.1, h _ _ z.2⟩⟩
def pLst (g : Pl) : Px := ⟨fun ρ k => g.f ρ fun ds ρ1 => ds.length ≤ sizeLine ∧ k (.lst ds) ρ1, fun h => g.mono fun _ _ z => ⟨z.1, h _ _ z.2⟩⟩
theorem w_tup {g : Pl} {x1} (h : PA X es (tWA L g)) : PE X (.Tuple es x1 pos) (tW L (pTup g)) := PE.imp (pe_tup h) fun σ H Q ⟨B, G, ρ, r, q⟩ =>
  ⟨B, G, ρ, r, g.mono (fun ds ρ1 h1 vs G1 H1 r1 s1 d1 => ⟨by rw [dvs_len d1]; exact h1.1, fun p hp => h1.2 (.ref p) _ _ (r1.lay hp) (s1.trans (same_upd (r1.gh.free hp))) (.tup (.inl (.inl upd_same)) (dvs_same (same_upd (r1.gh.free hp)) d1))⟩) q⟩
theorem w_lst {g : Pl} (h : PA X es (tWA L g)) : PE X (.List es pos) (tW L (pLst g)) := PE.imp (pe_lst h) fun σ H Q ⟨B, G, ρ, r, q⟩ =>
  ⟨B, G, ρ, r, g.mono (fun ds ρ1 h1 vs G1 H1 r1 s1 d1 => ⟨by rw [dvs_len d1]; exact h1.1, fun p hp => h1.2 (.ref p) _ _ (r1.lay hp) (s1.trans (same_upd (r1.gh.free hp))) (.lst upd_same (dvs_same (same_upd (r1.gh.free hp)) d1))⟩) q⟩
/-! ## tests -/
def pB (g : Px) : Pt := ⟨fun ρ k => g.f ρ fun d ρ1 => ∃ b, d = .bl b ∧ k b ρ1, fun h => g.mono fun _ _ ⟨b, e, q⟩ => ⟨b, e, h _ _ q⟩⟩
theorem w_val {g : Px} (h : PT X e (tB (tW L g))) : PT X e (tWT L (pB g)) := PT.imp h fun σ H Q ⟨B, G, ρ, r, q⟩ =>
  ⟨B, G, ρ, r, g.mono (fun d ρ1 ⟨b, e, h1⟩ v G1 H1 r1 s1 d1 => by subst e; cases d1; exact ⟨b, rfl, h1 G1 H1 r1 s1⟩) q⟩
theorem w_cmpT {op : CmpOp} {R : R2} {r : R2p} {ga gb : Px} (ho : OpR X (compareOp op) R) (hs : Snd2 L R r) (ha : PE X a (tW L ga)) (hb : PE X b (tW L gb)) (hm : behindInMarks op b = false) : PT X (.Compare a [op] [b] pos) (tWT L (pB (p2 ga gb r))) :=
  PT.imp (pt_cmpR ho ha hb hm) fun σ H Q ⟨B, G, ρ, r0, q⟩ => tW_tOp hs σ H _ ⟨B, G, ρ, r0, (p2 ga gb r).mono (fun d ρ1 ⟨b, e, h1⟩ v G1 H1 r1 s1 d1 => by subst e; cases d1; exact ⟨b, rfl, h1 G1 H1 r1 s1⟩) q⟩
def pNot (g : Pt) : Pt := ⟨fun ρ k => g.f ρ fun b ρ1 => k (!b) ρ1, fun h => g.mono fun _ _ => h _ _⟩
theorem w_not {g : Pt} (h : PT X e (tWT L g)) (p : ∀ {t : TT}, PT X e t → PT X a (tNot t)) : PT X a (tWT L (pNot g)) := PT.imp (p h) fun σ H Q ⟨B, G, ρ, r, q⟩ =>
  ⟨B, G, ρ, r, g.mono (fun b ρ1 h1 G1 H1 r1 s1 => h1 G1 H1 r1 s1) q⟩
def pAnd (g g' : Pt) : Pt := ⟨fun ρ k => g.f ρ fun b ρ1 => if b = true then g'.f ρ1 k else k false ρ1, fun h => g.mono fun b _ z => by
  by_cases hb : b = true
  · rw [if_pos hb] at z ⊢
    exact g'.mono h z
  · rw [if_neg hb] at z ⊢
    exact h _ _ z⟩
def pOr (g g' : Pt) : Pt := ⟨fun ρ k => g.f ρ fun b ρ1 => if b = true then k true ρ1 else g'.f ρ1 k, fun h => g.mono fun b _ z => by
  by_cases hb : b = true
  · rw [if_pos hb] at z ⊢
    exact h _ _ z
  · rw [if_neg hb] at z ⊢
    exact g'.mono h z⟩
theorem tWT_and {g g' : Pt} : ∀ σ H Q, tWT L (pAnd g g') σ H Q → tAnd (tWT L g) (tWT L g') σ H Q := fun σ H Q ⟨B, G, ρ, r, q⟩ =>
  ⟨B, G, ρ, r, g.mono (fun b ρ1 h1 G1 H1 r1 s1 => by
    show if b = true then _ else _
    by_cases hb : b = true
    · rw [if_pos hb] at h1 ⊢
      exact ⟨B, G1, ρ1, r1, g'.mono (fun c ρ2 h2 G2 H2 r2 s2 => h2 G2 H2 r2 (s1.trans s2)) h1⟩
    · rw [if_neg hb] at h1 ⊢
      exact h1 G1 H1 r1 s1) q⟩
theorem tWT_or {g g' : Pt} : ∀ σ H Q, tWT L (pOr g g') σ H Q → tOr (tWT L g) (tWT L g') σ H Q := fun σ H Q ⟨B, G, ρ, r, q⟩ =>
  ⟨B, G, ρ, r, g.mono (fun b ρ1 h1 G1 H1 r1 s1 => by
    show if b = true then _ else _
    by_cases hb : b = true
    · rw [if_pos hb] at h1 ⊢
      exact h1 G1 H1 r1 s1
    · rw [if_neg hb] at h1 ⊢
      exact ⟨B, G1, ρ1, r1, g'.mono (fun c ρ2 h2 G2 H2 r2 s2 => h2 G2 H2 r2 (s1.trans s2)) h1⟩) q⟩
theorem PW.imp {t t' : TT} (p : PW X e t) (h : ∀ σ H Q, t' σ H Q → t σ H Q) : PW X e t' := ⟨fun w pins s σ H Q I q => p.run w pins s σ H Q I (h _ _ _ q)⟩
def pIf (c : Pt) (ga gb : Px) : Px := ⟨fun ρ k => c.f ρ fun b ρ1 => if b = true then ga.f ρ1 k else gb.f ρ1 k, fun h => c.mono fun b _ z => by
  by_cases hb : b = true
  · rw [if_pos hb] at z ⊢
    exact ga.mono h z
  · rw [if_neg hb] at z ⊢
    exact gb.mono h z⟩
theorem w_ifExp {c : Expr} {gc : Pt} {ga gb : Px} (hc : PT X c (tWT L gc)) (ha : PE X a (tW L ga)) (hb : PE X b (tW L gb)) : PE X (.IfExp c a b pos) (tW L (pIf gc ga gb)) := PE.imp (pe_ifExp hc ha hb) fun σ H Q ⟨B, G, ρ, r, q⟩ =>
  ⟨B, G, ρ, r, gc.mono (fun b ρ1 h1 G1 H1 r1 s1 => by
    show if b = true then _ else _
    by_cases hb : b = true
    · rw [if_pos hb] at h1 ⊢
      exact ⟨B, G1, ρ1, r1, ga.mono (fun x ρ2 h2 v G2 H2 r2 s2 d2 => h2 v G2 H2 r2 (s1.trans s2) d2) h1⟩
    · rw [if_neg hb] at h1 ⊢
      exact ⟨B, G1, ρ1, r1, gb.mono (fun x ρ2 h2 v G2 H2 r2 s2 d2 => h2 v G2 H2 r2 (s1.trans s2) d2) h1⟩) q⟩
end
end Fw
namespace Fw
open PySem PySem.Spec PyProof.Rows L2 Fr
/-! # the operators' rules without a heap -/
section
variable {L : Ly}
def r2I (C : Int → Int → Prop) (g : Int → Int → Da) : R2p := ⟨fun x y k => ∃ i j, x = .int i ∧ y = .int j ∧ C i j ∧ k (g i j), fun h ⟨i, j, a, b, c, q⟩ => ⟨i, j, a, b, c, h _ q⟩⟩
theorem snd_I {C C' : Int → Int → Prop} {gV : Int → Int → V} {g : Int → Int → Da} (hC : ∀ i j, C' i j → C i j) (hg : ∀ i j G, Dv L G (gV i j) (g i j)) : Snd2 L (rI C gV) (r2I C' g) := by
  rintro B G H σ ρ v u x y Q r d1 d2 ⟨i, j, rfl, rfl, c, k⟩
  cases d1
  cases d2
  exact ⟨i, j, rfl, rfl, hC i j c, k _ G H r (Same.refl _) (hg i j G)⟩
theorem snd_I0 {gV : Int → Int → V} {g : Int → Int → Da} (hg : ∀ i j G, Dv L G (gV i j) (g i j)) : Snd2 L (rI0 gV) (r2I (fun _ _ => True) g) := by
  rintro B G H σ ρ v u x y Q r d1 d2 ⟨i, j, rfl, rfl, c, k⟩
  cases d1
  cases d2
  exact ⟨i, j, rfl, rfl, k _ G H r (Same.refl _) (hg i j G)⟩
def rAdd := r2I (fun _ _ => True) fun i j => .int (i + j)
def rSub := r2I (fun _ _ => True) fun i j => .int (i - j)
def rMulW := r2I CMulW fun i j => .int (i * j)
def rModN := r2I (fun _ j => j ≠ 0) fun i j => .int (i.fmod j)
def rDivW := r2I CDivW fun i j => .int (i / j)
def rLt := r2I (fun _ _ => True) fun i j => .bl (decide (i < j))
def rLe := r2I (fun _ _ => True) fun i j => .bl (decide (i ≤ j))
def rGt := r2I (fun _ _ => True) fun i j => .bl (decide (j < i))
def rGe := r2I (fun _ _ => True) fun i j => .bl (decide (j ≤ i))
/-! ## data of the kit -/
mutual
def py : Da → Option PyData
  | .non => some .none
  | .bl b => some (.bool b)
  | .int i => some (.int i)
  | .str x => some (.str x)
  | .lst xs => (pys xs).map .list
  | .tup xs => (pys xs).map .tuple
  | .obj _ _ => none
def pys : List Da → Option (List PyData)
  | [] => some []
  | x :: r => (py x).bind fun d => (pys r).map fun ds => d :: ds
end
mutual
theorem py_dp {G : Hp} : ∀ {v : V} {x : Da} {d : PyData}, Dv L G v x → py x = some d → Dp L.K G v d
  | _, _, _, .non, e => by
    cases e
    exact .non
  | _, _, _, .bl b, e => by
    cases e
    exact .bl b
  | _, _, _, .int i, e => by
    cases e
    exact .int i
  | _, _, _, .str x, e => by
    cases e
    exact .str x
  | _, _, d, .lst (ds := ds) h t, e => by
    have e' : (pys ds).map PyData.list = some d := by simpa only [py] using e
    obtain ⟨es, h1, rfl⟩ := Option.map_eq_some_iff.mp e'
    exact .lst (.inl (.inl h)) (pys_dp t h1)
  | _, _, d, .tup (ds := ds) h t, e => by
    have e' : (pys ds).map PyData.tuple = some d := by simpa only [py] using e
    obtain ⟨es, h1, rfl⟩ := Option.map_eq_some_iff.mp e'
    exact .tup h (pys_dp t h1)
  | _, _, _, .obj h t, e => by simp only [py] at e; cases e
theorem pys_dp {G : Hp} : ∀ {vs : List V} {xs : List Da} {ds : List PyData}, DvAll L G vs xs → pys xs = some ds → DpAll L.K G vs ds
  | _, _, _, .nil, e => by
    cases e
    exact .nil
  | _, _, ds, .cons (d := x) (ds := r) h t, e => by
    have e' : ((py x).bind fun d => (pys r).map fun ds => d :: ds) = some ds := by simpa only [pys] using e
    obtain ⟨d, h1, e2⟩ := Option.bind_eq_some_iff.mp e'
    obtain ⟨es, h2, rfl⟩ := Option.map_eq_some_iff.mp e2
    exact .cons (py_dp h h1) (pys_dp t h2)
end
/-- x == y, x != y -/
def rEqP : R2p := ⟨fun x y k => ∃ d e, py x = some d ∧ py y = some e ∧ SeqAt.shaped d = true ∧ SeqAt.shaped e = true ∧ k (.bl (PyData.eqv d e)), fun h ⟨d, e, a, b, c, f, q⟩ => ⟨d, e, a, b, c, f, h _ q⟩⟩
def rNeP : R2p := ⟨fun x y k => ∃ d e, py x = some d ∧ py y = some e ∧ SeqAt.shaped d = true ∧ SeqAt.shaped e = true ∧ k (.bl (!PyData.eqv d e)), fun h ⟨d, e, a, b, c, f, q⟩ => ⟨d, e, a, b, c, f, h _ q⟩⟩
theorem snd_eq : Snd2 L (rEqD L.K) rEqP := by
  rintro B G H σ ρ v u x y Q r d1 d2 ⟨d, e, h1, h2, s1, s2, k⟩
  exact ⟨d, e, dp_same r.gh (py_dp d1 h1), dp_same r.gh (py_dp d2 h2), s1, s2, k _ G H r (Same.refl _) (.bl _)⟩
theorem snd_ne : Snd2 L (rNeD L.K) rNeP := by
  rintro B G H σ ρ v u x y Q r d1 d2 ⟨d, e, h1, h2, s1, s2, k⟩
  exact ⟨d, e, dp_same r.gh (py_dp d1 h1), dp_same r.gh (py_dp d2 h2), s1, s2, k _ G H r (Same.refl _) (.bl _)⟩
/-! ## items, + of lists -/
theorem atI_get {α β : Type} {xs : List α} {ys : List β} {i : Int} {y : β} (hl : xs.length = ys.length) (h : atI ys i = some y) : ∃ j : Nat, ys[j]? = some y ∧ ∀ x, xs[j]? = some x → atI xs i = some x := by
  unfold atI at h ⊢
  rw [hl]
  obtain ⟨j, h1, h2⟩ := Option.bind_eq_some_iff.mp h
  exact ⟨j, h2, fun x hx => by rw [h1]; exact hx⟩
def rIxP : R2p := ⟨fun x y k => ∃ (ds : List Da) (i : Int) (d : Da), x = .lst ds ∧ y = .int i ∧ atI ds i = some d ∧ k d, fun h ⟨ds, i, d, a, b, c, q⟩ => ⟨ds, i, d, a, b, c, h _ q⟩⟩
def rIxTP : R2p := ⟨fun x y k => ∃ (ds : List Da) (i : Int) (d : Da), x = .tup ds ∧ y = .int i ∧ atI ds i = some d ∧ k d, fun h ⟨ds, i, d, a, b, c, q⟩ => ⟨ds, i, d, a, b, c, h _ q⟩⟩
theorem snd_ix : Snd2 L (rIxL L.K) rIxP := by
  rintro B G H σ ρ v u x y Q r d1 d2 ⟨ds, i, d, rfl, rfl, hi, k⟩
  cases d1 with
  | @lst a xs _ hs ha =>
    cases d2
    obtain ⟨j, h1, h2⟩ := atI_get (xs := xs) (dvs_len ha) hi
    obtain ⟨w, h3, h4⟩ := dvs_at ha h1
    exact ⟨a, xs, i, w, rfl, rfl, .inl (.inl (r.gh _ _ hs)), h2 w h3, k w G H r (Same.refl _) h4⟩
theorem snd_ixT : Snd2 L (rIxT L.K) rIxTP := by
  rintro B G H σ ρ v u x y Q r d1 d2 ⟨ds, i, d, rfl, rfl, hi, k⟩
  cases d1 with
  | @tup a xs _ hs ha =>
    cases d2
    obtain ⟨j, h1, h2⟩ := atI_get (xs := xs) (dvs_len ha) hi
    obtain ⟨w, h3, h4⟩ := dvs_at ha h1
    exact ⟨a, xs, i, w, rfl, rfl, same_sqt r.gh hs, h2 w h3, k w G H r (Same.refl _) h4⟩
end
/-! # built-in functions of one value -/
structure R1p where
  f : List Da → (Da → Prop) → Prop
  mono : ∀ {x : List Da} {k k' : Da → Prop}, (∀ d, k d → k' d) → f x k → f x k'
def Snd1 (L : Ly) (R : List V → Hp → VK → Prop) (r : R1p) : Prop := ∀ {B : Bs} {G H : Hp} {σ : L2.St} {ρ : En} {vs : List V} {xs : List Da} {Q : VK}, Rep L B G H σ ρ → DvAll L G vs xs →
  r.f xs (fun z => ∀ w G' H', Rep L B G' H' σ ρ → Same G G' → Dv L G' w z → Q w H') → R vs H Q
def p1 (g : Pl) (r : R1p) : Px := ⟨fun ρ k => g.f ρ fun xs ρ1 => r.f xs fun z => k z ρ1, fun h => g.mono fun _ _ => r.mono fun _ => h _ _⟩
section
variable {X : Cx} {L : Ly} {e : Expr}
theorem w_tCB {R : List V → Hp → VK → Prop} {r : R1p} {g : Pl} (hs : Snd1 L R r) (p : PE X e (tCB R (tWA L g))) : PE X e (tW L (p1 g r)) := PE.imp p fun σ H Q ⟨B, G, ρ, r0, h⟩ =>
  ⟨B, G, ρ, r0, g.mono (fun xs ρ1 h1 vs G1 H1 r1 s1 d1 => hs r1 d1 (r.mono (fun z h3 w G3 H3 r3 s3 d3 => h3 w G3 H3 r3 (s1.trans s3) d3) h1)) h⟩
def rLen : R1p := ⟨fun xs k => ∃ ds, (xs = [.lst ds] ∨ xs = [.tup ds]) ∧ k (.int ds.length), fun h ⟨ds, e, q⟩ => ⟨ds, e, h _ q⟩⟩
theorem snd_len : Snd1 L (fun xs H Q => ∃ p ys, xs = [.ref p] ∧ (SqL L.K H p ys ∨ SqT L.K H p ys) ∧ Q (.int ys.length) H) rLen := by
  rintro B G H σ ρ vs xs Q r dv ⟨ds, e, k⟩
  have fin : ∀ {ys : List V}, DvAll L G ys ds → Q (.int ys.length) H := fun {ys} ha => by
    rw [dvs_len ha]
    exact k _ G H r (Same.refl _) (.int _)
  rcases e with rfl | rfl
  · cases dv with
    | cons d t =>
      cases t
      cases d with
      | @lst a ys _ hs ha => exact ⟨a, ys, rfl, .inl (.inl (.inl (r.gh _ _ hs))), fin ha⟩
  · cases dv with
    | cons d t =>
      cases t
      cases d with
      | @tup a ys _ hs ha => exact ⟨a, ys, rfl, .inr (same_sqt r.gh hs), fin ha⟩
def rAbs : R1p := ⟨fun xs k => ∃ i, xs = [.int i] ∧ k (.int (if i < 0 then -i else i)), fun h ⟨i, e, q⟩ => ⟨i, e, h _ q⟩⟩
theorem snd_abs : Snd1 L (fun xs H Q => ∃ i, xs = [.int i] ∧ Q (.int (if i < 0 then -i else i)) H) rAbs := by
  rintro B G H σ ρ vs xs Q r dv ⟨i, rfl, k⟩
  cases dv with
  | cons d t =>
    cases t
    cases d
    exact ⟨i, rfl, k _ G H r (Same.refl _) (.int _)⟩
def rInt1 : R1p := ⟨fun xs k => (∃ i, xs = [.int i] ∧ k (.int i)) ∨ ∃ b, xs = [.bl b] ∧ k (.int (if b then 1 else 0)), fun h z => z.elim (fun ⟨i, e, q⟩ => .inl ⟨i, e, h _ q⟩) fun ⟨i, e, q⟩ => .inr ⟨i, e, h _ q⟩⟩
theorem snd_int1 : Snd1 L (fun xs H Q => (∃ i, xs = [.int i] ∧ Q (.int i) H) ∨ ∃ k, xs = [.bl k] ∧ Q (.int (if k then 1 else 0)) H) rInt1 := by
  rintro B G H σ ρ vs xs Q r dv z
  rcases z with ⟨i, rfl, k⟩ | ⟨i, rfl, k⟩
  · cases dv with
    | cons d t =>
      cases t
      cases d
      exact .inl ⟨i, rfl, k _ G H r (Same.refl _) (.int _)⟩
  · cases dv with
    | cons d t =>
      cases t
      cases d
      exact .inr ⟨i, rfl, k _ G H r (Same.refl _) (.int _)⟩
end
/-! # the promise of a def, without a heap -/
abbrev Pf := R1p
/-- a def of data: nothing that stood is changed -/
def spF (L : Ly) (F : Pf) : Sp := fun vs H Q _ => ∃ G ds, Same G H ∧ DvAll L G vs ds ∧ F.f ds fun d => ∀ v G' H', Grow M0 G H G' H' → Dv L G' v d → Q v H'
/-- a def whose first argument is the state of the draws -/
def spD (L : Ly) (F : Pf) : Sp := fun vs H Q _ => ∃ G d l c us ds, vs = .ref d :: us ∧ Same G H ∧ G d = none ∧ G l = none ∧ Draw d l c H ∧ DvAll L G us ds ∧
  F.f ds fun x => ∀ v G' H', Grow (Mdl d l) G H G' H' → Draw d l c H' → Dv L G' v x → Q v H'
def pF (g : Pl) (F : Pf) : Px := p1 g F
def pD (i : Nat) (g : Pl) (F : Pf) : Px := ⟨fun ρ k => ∃ d l c, ρ[i]? = some (some (.drw d l c)) ∧ g.f ρ fun xs ρ1 => some (.drw d l c) ∈ ρ1 ∧ F.f xs fun z => k z ρ1,
  fun h ⟨d, l, c, e, q⟩ => ⟨d, l, c, e, g.mono (fun _ _ z => ⟨z.1, F.mono (fun _ => h _ _) z.2⟩) q⟩⟩
section
variable {X : Cx} {L : Ly} {k j i : Nat} {x : Str} {p pos : Pos} {e : Expr} {es : List Expr}
theorem draw_mem {B : Bs} {G H : Hp} {σ : L2.St} {ρ : En} (r : Rep L B G H σ ρ) {d l c : Addr} (h : some (Sl.drw d l c) ∈ ρ) : Draw d l c H ∧ G d = none ∧ G l = none := by
  obtain ⟨v, _, hv⟩ := paired_mem r.env h
  cases v with
  | none => exact (reps_none hv).elim
  | some v => exact ⟨hv.2.2.2, hv.2.1, hv.2.2.1⟩
theorem flat_apart {a b : Option Sl} : ∀ {ρ : En}, (own ρ).Nodup → a ∈ ρ → b ∈ ρ → a ≠ b → ∀ x ∈ slA a, x ∉ slA b
  | s :: r, nd, ha, hb, hn, x, hx, hy => by
    have nd' : (slA s ++ own r).Nodup := nd
    obtain ⟨_, n2, n3⟩ := List.nodup_append.mp nd'
    rcases List.mem_cons.mp ha with e1 | h1
    · rcases List.mem_cons.mp hb with e2 | h2
      · exact hn (e1.trans e2.symm)
      · subst e1
        exact n3 x hx x (own_mem h2 hy) rfl
    · rcases List.mem_cons.mp hb with e2 | h2
      · subst e2
        exact n3 x hy x (own_mem h1 hx) rfl
      · exact flat_apart n2 h1 h2 hn x hx hy
theorem imp_F {g : Pl} {F : Pf} : ∀ σ H Q, tW L (pF g F) σ H Q → tCall (spF L F) [] C8.E0 (tWA L g) σ H Q := fun σ H Q ⟨B, G, ρ, r0, h⟩ =>
  ⟨B, G, ρ, r0, g.mono (fun xs ρ1 h1 vs G1 H1 r1 s1 d1 => by
    show spF L F (vs ++ []) H1 Q C8.E0
    rw [List.append_nil]
    exact ⟨G1, xs, r1.gh, d1, F.mono (fun z h3 v G' H' gr dv => h3 v G' H' (r1.step (gr.weak fun b z => z.elim) (fun d l c hm => draw_same (draw_mem r1 hm).1 gr.same) (r1.tb.go gr.gg gr.same)) (s1.trans gr.gg) dv) h1⟩) h⟩
theorem w_call {g : Pl} {F : Pf} (c : CalG X.prog X.w X.K X.mg X.base C8.CX0 k x (spF L F)) (hr : Room j X.A) (hk : k ≤ j) (hgu : X.A.guards = some []) (hg : Gl X x) (ha : PA X (e :: es) (tWA L g))
    (hdb : (x == ("__debug__" : Str)) = false := by decide) (he : starEach (e :: es) X.env = (false, eval e X.env) :: starEach es X.env := by rfl)
    (hpl : (backTo pos (starEach es X.env)).any (·.1) = false := by rfl) : PE X (.Call (.Name x p) (e :: es) [] pos) (tW L (pF g F)) :=
  PE.imp (pe_cg c hr hk hgu hg ha hdb he hpl) imp_F
/-- f(draw, e, ..) -/
theorem w_callD {g : Pl} {F : Pf} (c : CalG X.prog X.w X.K X.mg X.base C8.CX0 k x (spD L F)) (hr : Room j X.A) (hk : k ≤ j) (hgu : X.A.guards = some []) (hg : Gl X x) (hd : PE X e (tVar i)) (ha : PA X es (tWA L g))
    (hdb : (x == ("__debug__" : Str)) = false := by decide) (he : starEach (e :: es) X.env = (false, eval e X.env) :: starEach es X.env := by rfl)
    (hpl : (backTo pos (starEach es X.env)).any (·.1) = false := by rfl) : PE X (.Call (.Name x p) (e :: es) [] pos) (tW L (pD i g F)) :=
  PE.imp (pe_cg c hr hk hgu hg (pa_cons hd ha he) hdb he hpl) fun σ H Q ⟨B, G, ρ, r0, d, l, cc, hi, h⟩ => by
    obtain ⟨s, hs, hv⟩ := paired_get r0.env hi
    cases s with
    | none => exact (reps_none hv).elim
    | some v =>
      obtain ⟨rfl, _⟩ := hv
      refine ⟨_, hs, B, G, ρ, r0, g.mono (fun xs ρ1 h1 vs G1 H1 r1 s1 d1 => ?_) h⟩
      show spD L F ((.ref d :: vs) ++ []) H1 Q C8.E0
      rw [List.append_nil]
      obtain ⟨hm, h1⟩ := h1
      obtain ⟨D, n1, n2⟩ := draw_mem r1 hm
      refine ⟨G1, d, l, cc, vs, xs, rfl, r1.gh, n1, n2, D, d1, F.mono (fun z h3 v G' H' gr D' dv => ?_) h1⟩
      refine h3 v G' H' (r1.step (gr.weak fun b z => ?_) (fun d' l' c' hm' => ?_) (fun p hp => (r1.tb p hp).go gr.gg fun o ho => gr.hh _ _ (fun z => (r1.tg p hp).2.1 (own_mem hm (by
        rcases z with z | z
        · rw [z]; simp [slA]
        · rw [z]; simp [slA]))) ho)) (s1.trans gr.gg) dv
      · rcases z with z | z
        · rw [z]
          exact (r1.fd _ _ _ hm).1
        · rw [z]
          exact (r1.fd _ _ _ hm).2
      · by_cases hs : (some (Sl.drw d' l' c')) = some (Sl.drw d l cc)
        · cases hs
          exact D'
        · have ap := flat_apart r1.nd hm' hm hs
          obtain ⟨D1, _⟩ := draw_mem r1 hm'
          obtain ⟨q1, q2, q3, q4, D1⟩ := D1
          have off : ∀ b, b ∈ slA (some (Sl.drw d' l' c')) → ¬ Mdl d l b := fun b hb z => ap b hb (by
            rcases z with z | z
            · rw [z]; simp [slA]
            · rw [z]; simp [slA])
          exact ⟨q1, q2, q3, q4, gr.hh _ _ (off _ (by simp [slA])) D1.hd, gr.hh _ _ (off _ (by simp [slA])) D1.hl, gr.hh _ _ (off _ (by simp [slA])) D1.hc, D1.ne⟩
end
end Fw
namespace Fw
open PySem PySem.Spec PyProof.Rows L2 Fr
/-! # statements without a heap -/
structure Ps where
  f : En → (En → Prop) → (Da → En → Prop) → (En → Prop) → (En → Prop) → Prop
  mono : ∀ {ρ : En} {nx nx' bk bk' ct ct' : En → Prop} {rt rt' : Da → En → Prop}, (∀ r, nx r → nx' r) → (∀ d r, rt d r → rt' d r) → (∀ r, bk r → bk' r) → (∀ r, ct r → ct' r) → f ρ nx rt bk ct → f ρ nx' rt' bk' ct'
def tWS (L : Ly) (g : Ps) : TS := fun D σ H => ∃ B G ρ, Rep L B G H σ ρ ∧ g.f ρ
  (fun ρ' => ∀ σ' G' H', Rep L B G' H' σ' ρ' → Same G G' → D.nx σ' H')
  (fun d ρ' => ∀ v σ' G' H', Rep L B G' H' σ' ρ' → Same G G' → Dv L G' v d → D.rt v H')
  (fun ρ' => ∀ σ' G' H', Rep L B G' H' σ' ρ' → Same G G' → D.bk σ' H')
  (fun ρ' => ∀ σ' G' H', Rep L B G' H' σ' ρ' → Same G G' → D.ct σ' H')
section
variable {X : Cx} {L : Ly} {B : Bs} {G H : Hp} {σ : L2.St} {ρ : En} {st : Stmt} {ss : List Stmt}
theorem PS.imp {t t' : TS} (p : PS X st t) (h : ∀ D σ H, t' D σ H → t D σ H) : PS X st t' := ⟨fun pins s σ H D I q => p.run pins s σ H D I (h _ _ _ q)⟩
theorem PSs.imp {t t' : TS} (p : PSs X ss t) (h : ∀ D σ H, t' D σ H → t D σ H) : PSs X ss t' := ⟨fun pins s σ H D I q => p.run pins s σ H D I (h _ _ _ q)⟩
/-! ## a slot is stored -/
theorem own_set : ∀ {ρ : En} {i : Nat} {t : Option Sl}, slA t = [] → (own (ρ.set i t)).Sublist (own ρ)
  | [], _, _, _ => by simp [own]
  | s :: r, 0, t, h => by
    show (slA t ++ own r).Sublist (slA s ++ own r)
    rw [h]
    exact List.sublist_append_right _ _
  | s :: r, i + 1, t, h => by
    show (slA s ++ own (r.set i t)).Sublist (slA s ++ own r)
    exact (List.Sublist.refl _).append (own_set h)
theorem mem_set {ρ : En} {i : Nat} {t s : Option Sl} (h : s ∈ ρ.set i t) : s ∈ ρ ∨ s = t := List.mem_or_eq_of_mem_set h
theorem Rep.setD (r : Rep L B G H σ ρ) {i : Nat} {v : V} {d : Da} (h : Dv L G v d) : Rep L B G H (σ.set i (some v)) (ρ.set i (some (.dat d))) where
  gr := r.gr
  mh := r.mh
  env := paired_set (a := some v) (b := some (.dat d)) h i r.env
  nd := r.nd.sublist (own_set rfl)
  fm := fun p ds hm => (mem_set hm).elim (r.fm p ds) fun z => by cases z
  fd := fun d' l c hm => (mem_set hm).elim (r.fd d' l c) fun z => by cases z
  ks := fun q hq => by
    obtain ⟨h1, h2, h3, h4⟩ := r.ks q hq
    exact ⟨h1, h2, h3, fun z => h4 ((own_set rfl).subset z)⟩
  tb := r.tb
  tg := fun p hp => ⟨(r.tg p hp).1, fun z => (r.tg p hp).2.1 ((own_set rfl).subset z), (r.tg p hp).2.2⟩
  mt := r.mt
  ft := fun T hm => (mem_set hm).elim (r.ft T) fun z => by cases z
def sSet (i : Nat) (g : Px) : Ps := ⟨fun ρ nx _ _ _ => g.f ρ fun d ρ1 => nx (ρ1.set i (some (.dat d))), fun h _ _ _ => g.mono fun _ _ => h _⟩
theorem w_set {i : Nat} {g : Px} (p : PS X st (tAsg (tW L g) (gName i))) : PS X st (tWS L (sSet i g)) := PS.imp p fun D σ H ⟨B, G, ρ, r, h⟩ =>
  ⟨B, G, ρ, r, g.mono (fun d ρ1 h1 v G1 H1 r1 s1 d1 => h1 _ G1 H1 (r1.setD d1) s1) h⟩
def sRet (g : Px) : Ps := ⟨fun ρ _ rt _ _ => g.f ρ rt, fun _ h _ _ => g.mono h⟩
theorem w_ret {g : Px} (p : PS X st (tRet (tW L g))) : PS X st (tWS L (sRet g)) := PS.imp p fun D σ H ⟨B, G, ρ, r, h⟩ =>
  ⟨B, G, ρ, r, g.mono (fun d ρ1 h1 v G1 H1 r1 s1 d1 => h1 v _ G1 H1 r1 s1 d1) h⟩
def sExpr (g : Px) : Ps := ⟨fun ρ nx _ _ _ => g.f ρ fun _ ρ1 => nx ρ1, fun h _ _ _ => g.mono fun _ _ => h _⟩
theorem w_expr {g : Px} (p : PS X st (tDrop (tW L g))) : PS X st (tWS L (sExpr g)) := PS.imp p fun D σ H ⟨B, G, ρ, r, h⟩ =>
  ⟨B, G, ρ, r, g.mono (fun d ρ1 h1 v G1 H1 r1 s1 d1 => h1 _ G1 H1 r1 s1) h⟩
/-! ## blocks -/
def sNil : Ps := ⟨fun ρ nx _ _ _ => nx ρ, fun h _ _ _ => h _⟩
theorem w_snil (p : PSs X ss tNext) : PSs X ss (tWS L sNil) := PSs.imp p fun D σ H ⟨B, G, ρ, r, h⟩ => h σ G H r (Same.refl _)
theorem w_one {g : Ps} (p : PS X st (tWS L g)) : PSs X [st] (tWS L g) := pss_one p
def sSeq (g h : Ps) : Ps := ⟨fun ρ nx rt bk ct => g.f ρ (fun ρ1 => h.f ρ1 nx rt bk ct) rt bk ct, fun a b c d => g.mono (fun _ => h.mono a b c d) b c d⟩
theorem tWS_then {g : Ps} {D : Ends} {G1 : Hp} (s1 : Same G G1) {ρ' : En} (h : g.f ρ'
    (fun ρ' => ∀ σ' G' H', Rep L B G' H' σ' ρ' → Same G G' → D.nx σ' H')
    (fun d ρ' => ∀ v σ' G' H', Rep L B G' H' σ' ρ' → Same G G' → Dv L G' v d → D.rt v H')
    (fun ρ' => ∀ σ' G' H', Rep L B G' H' σ' ρ' → Same G G' → D.bk σ' H')
    (fun ρ' => ∀ σ' G' H', Rep L B G' H' σ' ρ' → Same G G' → D.ct σ' H')) {σ1 : L2.St} {H1 : Hp} (r : Rep L B G1 H1 σ1 ρ') : tWS L g D σ1 H1 :=
  ⟨B, G1, ρ', r, g.mono (fun _ k σ' G' H' r' s' => k σ' G' H' r' (s1.trans s')) (fun _ _ k v σ' G' H' r' s' => k v σ' G' H' r' (s1.trans s')) (fun _ k σ' G' H' r' s' => k σ' G' H' r' (s1.trans s')) (fun _ k σ' G' H' r' s' => k σ' G' H' r' (s1.trans s')) h⟩
theorem w_seq {g h : Ps} (p : PS X st (tWS L g)) (q : PSs X ss (tWS L h)) : PSs X (st :: ss) (tWS L (sSeq g h)) := PSs.imp (pss_cons p q) fun D σ H ⟨B, G, ρ, r, k⟩ =>
  ⟨B, G, ρ, r, g.mono (fun ρ1 h1 σ' G' H' r' s' => tWS_then s' h1 r') (fun _ _ z => z) (fun _ z => z) (fun _ z => z) k⟩
def sIf (c : Pt) (g h : Ps) : Ps := ⟨fun ρ nx rt bk ct => c.f ρ fun b ρ1 => if b = true then g.f ρ1 nx rt bk ct else h.f ρ1 nx rt bk ct, fun a1 a2 a3 a4 => c.mono fun b _ z => by
  by_cases hb : b = true
  · rw [if_pos hb] at z ⊢
    exact g.mono a1 a2 a3 a4 z
  · rw [if_neg hb] at z ⊢
    exact h.mono a1 a2 a3 a4 z⟩
theorem w_if {c : Pt} {g h : Ps} (p : PS X st (tIfS (tWT L c) (tWS L g) (tWS L h))) : PS X st (tWS L (sIf c g h)) := PS.imp p fun D σ H ⟨B, G, ρ, r, k⟩ =>
  ⟨B, G, ρ, r, c.mono (fun b ρ1 h1 G1 H1 r1 s1 => by
    show if b = true then _ else _
    by_cases hb : b = true
    · rw [if_pos hb] at h1 ⊢
      exact tWS_then s1 h1 r1
    · rw [if_neg hb] at h1 ⊢
      exact tWS_then s1 h1 r1) k⟩
/-! ## targets -/
structure Tg where
  f : Da → En → (En → Prop) → Prop
  mono : ∀ {d : Da} {ρ : En} {k k' : En → Prop}, (∀ r, k r → k' r) → f d ρ k → f d ρ k'
def SndG (L : Ly) (g : TG) (t : Tg) : Prop := ∀ {B : Bs} {G H : Hp} {σ : L2.St} {ρ : En} {v : V} {d : Da} {k : L2.St → Hp → Prop}, Rep L B G H σ ρ → Dv L G v d → t.f d ρ (fun ρ' => ∀ σ', Rep L B G H σ' ρ' → k σ' H) → g v σ H k
def tgN (i : Nat) : Tg := ⟨fun d ρ k => k (ρ.set i (some (.dat d))), fun h => h _⟩
theorem snd_tgN {i : Nat} : SndG L (gName i) (tgN i) := fun r d1 h => h _ (r.setD d1)
structure Tgs where
  f : List Da → En → (En → Prop) → Prop
  mono : ∀ {d : List Da} {ρ : En} {k k' : En → Prop}, (∀ r, k r → k' r) → f d ρ k → f d ρ k'
def SndGs (L : Ly) (g : TGs) (t : Tgs) : Prop := ∀ {B : Bs} {G H : Hp} {σ : L2.St} {ρ : En} {vs : List V} {ds : List Da} {k : L2.St → Hp → Prop}, Rep L B G H σ ρ → DvAll L G vs ds → t.f ds ρ (fun ρ' => ∀ σ', Rep L B G H σ' ρ' → k σ' H) → g vs σ H k
def tgNil : Tgs := ⟨fun ds ρ k => ds = [] ∧ k ρ, fun h z => ⟨z.1, h _ z.2⟩⟩
theorem snd_tgNil : SndGs L gNil tgNil := by
  rintro B G H σ ρ vs ds k r d ⟨rfl, h⟩
  cases d
  exact ⟨rfl, h σ r⟩
def tgCons (t : Tg) (u : Tgs) : Tgs := ⟨fun ds ρ k => ∃ d r, ds = d :: r ∧ t.f d ρ fun ρ1 => u.f r ρ1 k, fun h ⟨d, r, e, q⟩ => ⟨d, r, e, t.mono (fun _ => u.mono h) q⟩⟩
theorem snd_tgCons {g : TG} {gs : TGs} {t : Tg} {u : Tgs} (h1 : SndG L g t) (h2 : SndGs L gs u) : SndGs L (gCons g gs) (tgCons t u) := by
  rintro B G H σ ρ vs ds k r d ⟨x, xs, rfl, h⟩
  cases d with
  | cons d1 d2 => exact ⟨_, _, rfl, h1 r d1 (t.mono (fun ρ1 z σ' r' => h2 r' d2 z) h)⟩
def tgTup (n : Nat) (u : Tgs) : Tg := ⟨fun d ρ k => ∃ ds, d = .tup ds ∧ ds.length = n ∧ u.f ds ρ k, fun h ⟨ds, e, l, q⟩ => ⟨ds, e, l, u.mono h q⟩⟩
theorem snd_tgTup {n : Nat} {gs : TGs} {u : Tgs} (h2 : SndGs L gs u) : SndG L (gTup L.K n gs) (tgTup n u) := by
  rintro B G H σ ρ v d k r dv ⟨ds, rfl, hl, h⟩
  cases dv with
  | @tup a xs _ hs ha => exact ⟨a, xs, rfl, same_sqt r.gh hs, (dvs_len ha).trans hl, h2 r ha h⟩
/-! ## for over a list or a tuple of data -/
def loopF (t : Tg) (g : Ps) (nx : En → Prop) (rt : Da → En → Prop) : List Da → En → Prop
  | [], ρ => nx ρ
  | x :: r, ρ => t.f x ρ fun ρ1 => g.f ρ1 (loopF t g nx rt r) rt nx (loopF t g nx rt r)
theorem loopF_mono {t : Tg} {g : Ps} {nx nx' : En → Prop} {rt rt' : Da → En → Prop} (h1 : ∀ r, nx r → nx' r) (h2 : ∀ d r, rt d r → rt' d r) : ∀ {ds : List Da} {ρ : En}, loopF t g nx rt ds ρ → loopF t g nx' rt' ds ρ
  | [], _, h => h1 _ h
  | _ :: r, _, h => t.mono (fun _ => g.mono (fun _ => loopF_mono h1 h2 (ds := r)) h2 h1 fun _ => loopF_mono h1 h2 (ds := r)) h
def sFor (src : Px) (t : Tg) (g : Ps) : Ps := ⟨fun ρ nx rt _ _ => src.f ρ fun d ρ1 => ∃ ds, (d = .lst ds) ∧ loopF t g nx rt ds ρ1, fun a b _ _ => src.mono fun _ _ ⟨ds, e, q⟩ => ⟨ds, e, loopF_mono a b q⟩⟩
def sForT (src : Px) (t : Tg) (g : Ps) : Ps := ⟨fun ρ nx rt _ _ => src.f ρ fun d ρ1 => ∃ ds, (d = .tup ds) ∧ loopF t g nx rt ds ρ1, fun a b _ _ => src.mono fun _ _ ⟨ds, e, q⟩ => ⟨ds, e, loopF_mono a b q⟩⟩
theorem drop_at {α : Type} {l : List α} {i : Nat} {x : α} (h : l[i]? = some x) : l.drop i = x :: l.drop (i + 1) := by
  obtain ⟨hi, e⟩ := List.getElem?_eq_some_iff.mp h
  rw [List.drop_eq_getElem_cons hi, e]
theorem for_turn {D : Ends} {G0 G1 : Hp} {xs : List V} {ds : List Da} {t : Tg} {g : Ps} {gt : TG} (hg : SndG L gt t) (s0 : Same G0 G1) (ha : DvAll L G1 xs ds) (P : Nat → L2.St → Hp → Prop)
    (hP : ∀ j σ H, P j σ H ↔ ∃ G' ρ', Rep L B G' H σ ρ' ∧ Same G1 G' ∧ loopF t g
      (fun ρ' => ∀ σ' G' H', Rep L B G' H' σ' ρ' → Same G0 G' → D.nx σ' H')
      (fun d ρ' => ∀ v σ' G' H', Rep L B G' H' σ' ρ' → Same G0 G' → Dv L G' v d → D.rt v H') (ds.drop j) ρ')
    : ∀ (j : Nat) (x : V) (σ : L2.St) (H : Hp), xs[j]? = some x → P j σ H → gt x σ H fun σ2 H2 => tWS L g { D with nx := P (j + 1), ct := P (j + 1), bk := D.nx } σ2 H2 := by
  intro j x σ H hx h
  obtain ⟨G', ρ', r, s, hl⟩ := (hP _ _ _).mp h
  obtain ⟨d, hd, dv⟩ := dvs_get ha hx
  rw [drop_at hd] at hl
  refine hg r (dv_same s dv) (t.mono (fun ρ2 h2 σ' r' => ⟨B, G', ρ2, r', g.mono ?_ ?_ ?_ ?_ h2⟩) hl)
  · intro ρ3 h3 σ3 G3 H3 r3 s3
    exact (hP _ _ _).mpr ⟨G3, ρ3, r3, s.trans s3, h3⟩
  · intro d3 ρ3 h3 v σ3 G3 H3 r3 s3
    exact h3 v σ3 G3 H3 r3 (s0.trans (s.trans s3))
  · intro ρ3 h3 σ3 G3 H3 r3 s3
    exact h3 σ3 G3 H3 r3 (s0.trans (s.trans s3))
  · intro ρ3 h3 σ3 G3 H3 r3 s3
    exact (hP _ _ _).mpr ⟨G3, ρ3, r3, s.trans s3, h3⟩
theorem w_for {src : Px} {gt : TG} {t : Tg} {g : Ps} (hg : SndG L gt t) (p : PS X st (tFor (iList L.K (tW L src)) gt (tWS L g))) : PS X st (tWS L (sFor src t g)) := PS.imp p fun D σ H ⟨B, G, ρ, r, k⟩ =>
  ⟨B, G, ρ, r, src.mono (fun d ρ1 ⟨ds, e, h1⟩ v G1 H1 r1 s1 d1 => by
    subst e
    cases d1 with
    | @lst a xs _ hs ha =>
      refine ⟨a, rfl, ⟨xs, .inl (.inl (r1.gh _ _ hs))⟩, ?_⟩
      have tr := for_turn (D := D) (g := g) (B := B) hg s1 ha _ (fun _ _ _ => Iff.rfl)
      refine for_list (K := L.K) (a := a) (xs := xs) _ ⟨G1, ρ1, r1, Same.refl _, by simpa using h1⟩ ?_ tr ?_
      · rintro j σ' H' _ ⟨G', ρ', r', s', _⟩
        exact .inl (.inl (r'.gh _ _ (s' _ _ hs)))
      · rintro σ' H' ⟨G', ρ', r', s', hl⟩
        rw [dvs_len ha, List.drop_length] at hl
        exact hl σ' G' H' r' (s1.trans s')) k⟩
theorem w_forT {src : Px} {gt : TG} {t : Tg} {g : Ps} (hg : SndG L gt t) (p : PS X st (tFor (iTup L.K (tW L src)) gt (tWS L g))) : PS X st (tWS L (sForT src t g)) := PS.imp p fun D σ H ⟨B, G, ρ, r, k⟩ =>
  ⟨B, G, ρ, r, src.mono (fun d ρ1 ⟨ds, e, h1⟩ v G1 H1 r1 s1 d1 => by
    subst e
    cases d1 with
    | @tup a xs _ hs ha =>
      refine ⟨a, rfl, ⟨xs, same_sqt r1.gh hs⟩, ?_⟩
      have tr := for_turn (D := D) (g := g) (B := B) hg s1 ha _ (fun _ _ _ => Iff.rfl)
      refine for_tup (K := L.K) (a := a) (xs := xs) _ ⟨G1, ρ1, r1, Same.refl _, by simpa using h1⟩ ?_ tr ?_
      · rintro j σ' H' _ ⟨G', ρ', r', s', _⟩
        exact same_sqt r'.gh (same_sqt s' hs)
      · rintro σ' H' ⟨G', ρ', r', s', hl⟩
        rw [dvs_len ha, List.drop_length] at hl
        exact hl σ' G' H' r' (s1.trans s')) k⟩
/-! ## for over range(n), range(a, b) -/
def sForR (src : Pl) (t : Tg) (g : Ps) : Ps := ⟨fun ρ nx rt _ _ => src.f ρ fun d ρ1 => ∃ j : Int, d = [.int j] ∧ -(2 ^ 62) ≤ j ∧ j < 2 ^ 62 ∧ loopF t g nx rt ((List.range j.toNat).map fun i : Nat => .int ((i : Nat) : Int)) ρ1,
  fun a b _ _ => src.mono fun _ _ ⟨j, e, l, m, q⟩ => ⟨j, e, l, m, loopF_mono a b q⟩⟩
/-! ## while -/
def sWh (c : Pt) (g : Ps) : Ps := ⟨fun ρ nx rt _ _ => ∃ I : Nat → En → Prop, (∃ m, I m ρ) ∧ ∀ m ρ', I m ρ' → c.f ρ' fun b ρ1 => if b = true then g.f ρ1 (fun ρ2 => ∃ m', m' < m ∧ I m' ρ2) rt nx (fun ρ2 => ∃ m', m' < m ∧ I m' ρ2) else nx ρ1,
  fun a b _ _ ⟨I, h0, h1⟩ => ⟨I, h0, fun m ρ' hI => c.mono (fun t _ z => by
    by_cases ht : t = true
    · rw [if_pos ht] at z ⊢
      exact g.mono (fun _ y => y) b a (fun _ y => y) z
    · rw [if_neg ht] at z ⊢
      exact a _ z) (h1 m ρ' hI)⟩⟩
theorem w_while {c : Pt} {g : Ps} (p : PS X st (tWhile (tWT L c) (tWS L g))) : PS X st (tWS L (sWh c g)) := PS.imp p fun D σ H ⟨B, G, ρ, r, I, ⟨m0, h0⟩, h1⟩ => by
  refine ⟨fun m σ' H' => ∃ G' ρ', Rep L B G' H' σ' ρ' ∧ Same G G' ∧ I m ρ', ⟨m0, G, ρ, r, Same.refl _, h0⟩, ?_⟩
  rintro m σ' H' ⟨G', ρ', r', s', hI⟩
  refine ⟨B, G', ρ', r', c.mono (fun t ρ1 z G1 H1 r1 s1 => ?_) (h1 m ρ' hI)⟩
  by_cases ht : t = true
  · rw [if_pos ht] at z
    subst ht
    refine ⟨fun σ2 H2 => ∃ m', m' < m ∧ ∃ G2 ρ2, Rep L B G2 H2 σ2 ρ2 ∧ Same G G2 ∧ I m' ρ2, fun σ2 H2 ⟨m', l, q⟩ => ⟨m', l, q⟩, B, G1, ρ1, r1, g.mono ?_ ?_ ?_ ?_ z⟩
    · rintro ρ2 ⟨m', l, hI'⟩ σ2 G2 H2 r2 s2
      exact ⟨m', l, G2, ρ2, r2, s'.trans (s1.trans s2), hI'⟩
    · intro d ρ2 h2 v σ2 G2 H2 r2 s2
      exact h2 v σ2 G2 H2 r2 (s'.trans (s1.trans s2))
    · intro ρ2 h2 σ2 G2 H2 r2 s2
      exact h2 σ2 G2 H2 r2 (s'.trans (s1.trans s2))
    · rintro ρ2 ⟨m', l, hI'⟩ σ2 G2 H2 r2 s2
      exact ⟨m', l, G2, ρ2, r2, s'.trans (s1.trans s2), hI'⟩
  · rw [if_neg ht] at z
    have ht' : t = false := by simpa using ht
    subst ht'
    exact z σ' G1 H1 r1 (s'.trans s1)
end
end Fw
namespace Fw
open PySem PySem.Spec PyProof.Rows L2 Fr
/-! # lists that grow -/
section
variable {X : Cx} {L : Ly} {B : Bs} {G H : Hp} {σ : L2.St} {ρ : En} {st : Stmt} {e : Expr}
theorem Rep.h0 (r : Rep L B G H σ ρ) {p : Addr} (n : H p = none) : B.H0 p = none := by
  cases q : B.H0 p with
  | none => rfl
  | some o => exact absurd n (r.gr.tr p (by rw [q]; simp))
theorem Rep.mH (r : Rep L B G H σ ρ) {p : Addr} (h : B.M p) : H p ≠ none := r.gr.tr p (r.mh p h).1
theorem own_in {p : Addr} : ∀ {ρ : En} {i : Nat} {t : Option Sl}, p ∈ own (ρ.set i t) → p ∈ own ρ ∨ p ∈ slA t
  | [], _, _, h => by simp [own] at h
  | s :: r, 0, t, h => by
    have h' : p ∈ slA t ++ own r := h
    rcases List.mem_append.mp h' with h' | h'
    · exact .inr h'
    · exact .inl (List.mem_append.mpr (.inr h') : p ∈ slA s ++ own r)
  | s :: r, i + 1, t, h => by
    have h' : p ∈ slA s ++ own (r.set i t) := h
    rcases List.mem_append.mp h' with h' | h'
    · exact .inl (List.mem_append.mpr (.inl h') : p ∈ slA s ++ own r)
    · exact (own_in h').imp (fun z => (List.mem_append.mpr (.inr z) : p ∈ slA s ++ own r)) id
theorem nd_set {p : Addr} {ds : List Da} : ∀ {ρ : En} {i : Nat}, (own ρ).Nodup → p ∉ own ρ → (own (ρ.set i (some (.gro p ds)))).Nodup
  | [], _, _, _ => by simp [own]
  | s :: r, 0, h, hp => by
    have h' : (slA s ++ own r).Nodup := h
    have hp' : p ∉ slA s ++ own r := hp
    show ([p] ++ own r).Nodup
    rw [List.singleton_append, List.nodup_cons]
    exact ⟨fun z => hp' (List.mem_append.mpr (.inr z)), (List.nodup_append.mp h').2.1⟩
  | s :: r, i + 1, h, hp => by
    have h' : (slA s ++ own r).Nodup := h
    have hp' : p ∉ slA s ++ own r := hp
    obtain ⟨h1, h2, h3⟩ := List.nodup_append.mp h'
    show (slA s ++ own (r.set i (some (.gro p ds)))).Nodup
    refine List.nodup_append.mpr ⟨h1, nd_set h2 fun z => hp' (List.mem_append.mpr (.inr z)), ?_⟩
    intro a ha b hb e
    subst e
    rcases own_in hb with hb | hb
    · exact h3 a ha a hb rfl
    · have e : a = p := by simpa [slA] using hb
      subst e
      exact hp' (List.mem_append.mpr (.inl ha))
/-- a new list in a slot -/
theorem Rep.newG (r : Rep L B G H σ ρ) {i : Nat} {p : Addr} {vs : List V} {ds : List Da} (n : H p = none) (h : DvAll L G vs ds) : Rep L B G (upd H p (.lst vs)) (σ.set i (some (.ref p))) (ρ.set i (some (.gro p ds))) := by
  have hp : p ∉ Fw.own ρ := fun z => r.own p z n
  have s := same_upd n (o := .lst vs)
  refine ⟨r.gr.trans (Grow.new r.gh n), r.mh, ?_, nd_set r.nd hp, ?_, ?_, ?_, r.tb.go (Same.refl _) s, fun t ht => ⟨(r.tg t ht).1, fun z => ?_, (r.tg t ht).2.2⟩, r.mt, fun T hm => (mem_set hm).elim (r.ft T) fun z => by cases z⟩
  · refine paired_set (a := some (V.ref p)) (b := some (.gro p ds)) ⟨rfl, r.gh.free n, vs, upd_same, h⟩ i (paired_imp r.env fun a b hb hh => hh.grow (Same.refl _) (fun q es e => ?_) fun d l c e => ?_)
    · subst e
      refine ⟨?_, ?_⟩
      · rw [upd_ne (fun z => hp (by rw [← z]; exact own_mem hb (by simp [slA])))]
      · cases a with
        | none => exact (reps_none hh).elim
        | some v => exact hh.2.1
    · subst e
      cases a with
      | none => exact (reps_none hh).elim
      | some v => exact ⟨hh.2.1, hh.2.2.1, draw_same hh.2.2.2 s⟩
  · intro q es hm
    rcases mem_set hm with hm | hm
    · exact r.fm q es hm
    · cases hm
      exact r.h0 n
  · intro d l c hm
    rcases mem_set hm with hm | hm
    · exact r.fd d l c hm
    · cases hm
  · intro q hq
    obtain ⟨h1, h2, h3, h4⟩ := r.ks q hq
    refine ⟨s _ _ h1, h2, h3, fun z => ?_⟩
    rcases own_in z with z | z
    · exact h4 z
    · have e : q.1 = p := by simpa [slA] using z
      rw [e, n] at h1
      cases h1
  · rcases own_in z with z | z
    · exact (r.tg t ht).2.1 z
    · have e : t.1 = p := by simpa [slA] using z
      exact (r.tb t ht).tk (by rw [e]; exact n)
theorem gro_at (r : Rep L B G H σ ρ) {i : Nat} {p : Addr} {ds : List Da} (h : ρ[i]? = some (some (.gro p ds))) : σ[i]? = some (some (.ref p)) ∧ G p = none ∧ B.H0 p = none ∧ ¬ B.M p ∧ ∃ vs, H p = some (.lst vs) ∧ DvAll L G vs ds := by
  obtain ⟨s, hs, hv⟩ := paired_get r.env h
  have hn := r.fm p ds (List.mem_of_getElem? h)
  cases s with
  | none => exact (reps_none hv).elim
  | some v =>
    obtain ⟨rfl, h1, h2⟩ := hv
    exact ⟨hs, h1, hn, fun z => (r.mh p z).1 hn, h2⟩
theorem own_same {p : Addr} {ds es : List Da} : ∀ {ρ : En} {i : Nat}, ρ[i]? = some (some (.gro p ds)) → own (ρ.set i (some (.gro p es))) = own ρ
  | [], _, h => by simp at h
  | s :: r, 0, h => by
    simp at h
    subst h
    rfl
  | s :: r, i + 1, h => by
    show slA s ++ own (r.set i (some (.gro p es))) = slA s ++ own r
    rw [own_same (by simpa using h)]
theorem set_self {σ : L2.St} {i : Nat} {v : Option V} (h : σ[i]? = some v) : σ.set i v = σ := by
  obtain ⟨hi, e⟩ := List.getElem?_eq_some_iff.mp h
  subst e
  exact List.set_getElem_self hi
theorem paired_off {F F' : Option V → Option Sl → Prop} {p : Addr} {ds : List Da} {t' : Option Sl} : ∀ {σ : L2.St} {ρ : En} {i : Nat}, Paired F σ ρ → ρ[i]? = some (some (.gro p ds)) → σ[i]? = some (some (.ref p)) → (own ρ).Nodup →
    (∀ a b, p ∉ slA b → b ∈ ρ → F a b → F' a b) → F' (some (.ref p)) t' → Paired F' σ (ρ.set i t')
  | _, _, _, .nil, h, _, _, _, _ => by simp at h
  | _, s :: r, 0, .cons g t, h, hs, nd, f, h1 => by
    simp at h hs
    subst h hs
    have nd' : ([p] ++ own r).Nodup := nd
    rw [List.singleton_append, List.nodup_cons] at nd'
    exact .cons h1 (paired_imp t fun a b hb hh => f a b (fun z => nd'.1 (own_mem hb z)) (List.mem_cons_of_mem _ hb) hh)
  | _, s :: r, i + 1, .cons g t, h, hs, nd, f, h1 => by
    have hi : r[i]? = some (some (.gro p ds)) := by simpa using h
    have nd' : (slA s ++ own r).Nodup := nd
    obtain ⟨_, n2, n3⟩ := List.nodup_append.mp nd'
    have hp : p ∉ slA s := fun z => n3 p z p (own_mem (List.mem_of_getElem? hi) (by simp [slA])) rfl
    exact .cons (f _ _ hp List.mem_cons_self g) (paired_off t hi (by simpa using hs) n2 (fun a b hb hm hh => f a b hb (List.mem_cons_of_mem _ hm) hh) h1)
/-- its slot's list changes -/
theorem Rep.chgG (r : Rep L B G H σ ρ) {i : Nat} {p : Addr} {ds es : List Da} {vs : List V} (hi : ρ[i]? = some (some (.gro p ds))) (h : DvAll L G vs es) : Rep L B G (upd H p (.lst vs)) σ (ρ.set i (some (.gro p es))) := by
  obtain ⟨hs, hG, h0, hM, xs, hx, _⟩ := gro_at r hi
  have gw : Grow B.M B.G0 B.H0 G (upd H p (.lst vs)) := by
    refine ⟨r.gr.gg, fun b o e => ?_, fun b o n e => ?_, fun b e => trk_upd b (r.gr.tr b e), r.gr.nw⟩
    · rw [upd_ne (ne_of_none e hG)]
      exact r.gh _ _ e
    · rw [upd_ne (ne_of_none e h0)]
      exact r.gr.hh b o n e
  have hmem := List.mem_of_getElem? hi
  refine ⟨gw, r.mh, ?_, by rw [own_same hi]; exact r.nd, ?_, ?_, ?_, fun t ht => (r.tb t ht).go (Same.refl _) fun o ho => ?_, fun t ht => ⟨(r.tg t ht).1, by rw [own_same hi]; exact (r.tg t ht).2.1, (r.tg t ht).2.2⟩, r.mt, fun T hm => (mem_set hm).elim (r.ft T) fun z => by cases z⟩
  · refine paired_off r.env hi hs r.nd (fun a b hp hb hh => ?_) ⟨rfl, hG, vs, upd_same, h⟩
    refine hh.grow (Same.refl _) (fun q fs e => ?_) fun d l c e => ?_
    · subst e
      refine ⟨upd_ne (fun z => hp (by rw [z]; simp [slA])), ?_⟩
      cases a with
      | none => exact (reps_none hh).elim
      | some v => exact hh.2.1
    · subst e
      cases a with
      | none => exact (reps_none hh).elim
      | some v =>
        obtain ⟨_, n1, n2, q1, q2, q3, q4, D⟩ := hh
        have off : ∀ b, b ∈ slA (some (Sl.drw d l c)) → b ≠ p := fun b hb z => hp (by rw [← z]; exact hb)
        exact ⟨n1, n2, q1, q2, q3, q4, by rw [upd_ne (off d (by simp [slA]))]; exact D.hd, by rw [upd_ne (off l (by simp [slA]))]; exact D.hl, by rw [upd_ne (off c (by simp [slA]))]; exact D.hc, D.ne⟩
  · intro q fs hm
    rcases mem_set hm with hm | hm
    · exact r.fm q fs hm
    · cases hm
      exact h0
  · intro d l c hm
    rcases mem_set hm with hm | hm
    · exact r.fd d l c hm
    · cases hm
  · intro q hq
    obtain ⟨h1, h2, h3, h4⟩ := r.ks q hq
    rw [own_same hi]
    refine ⟨?_, h2, h3, h4⟩
    rw [upd_ne (fun z => h4 (by rw [z]; exact own_mem hmem (by simp [slA])))]
    exact h1
  · rw [upd_ne (fun z => (r.tg t ht).2.1 (by rw [z]; exact own_mem hmem (by simp [slA])))]
    exact ho
end
end Fw
namespace Fw
open PySem PySem.Spec PyProof.Rows L2 Fr
section
variable {X : Cx} {L : Ly} {B : Bs} {G H : Hp} {σ : L2.St} {ρ : En} {st : Stmt} {e : Expr}
/-- found = [..]: it may grow -/
def sNew (i : Nat) (g : Pl) : Ps := ⟨fun ρ nx _ _ _ => g.f ρ fun ds ρ1 => ds.length ≤ sizeLine ∧ ∀ p, p ∉ own ρ1 → nx (ρ1.set i (some (.gro p ds))), fun h _ _ _ => g.mono fun _ _ z => ⟨z.1, fun p hp => h _ (z.2 p hp)⟩⟩
theorem w_new {i : Nat} {g : Pl} (p : PS X st (tAsg (tLst (tWA L g)) (gName i))) : PS X st (tWS L (sNew i g)) := PS.imp p fun D σ H ⟨B, G, ρ, r, h⟩ =>
  ⟨B, G, ρ, r, g.mono (fun ds ρ1 h1 vs G1 H1 r1 s1 d1 => ⟨by rw [dvs_len d1]; exact h1.1, fun p hp => h1.2 p (fun z => r1.own p z hp) _ G1 _ (r1.newG hp d1) s1⟩) h⟩
/-- found.append(e) -/
def sApp (i : Nat) (g : Px) : Ps := ⟨fun ρ nx _ _ _ => ∃ p ds, ρ[i]? = some (some (.gro p ds)) ∧ g.f ρ fun d ρ1 => ∃ ds1, ρ1[i]? = some (some (.gro p ds1)) ∧ ds1.length < sizeLine ∧ nx (ρ1.set i (some (.gro p (ds1 ++ [d])))),
  fun h _ _ _ ⟨p, ds, e, q⟩ => ⟨p, ds, e, g.mono (fun _ _ ⟨ds1, a, b, c⟩ => ⟨ds1, a, b, h _ c⟩) q⟩⟩
theorem w_app {i : Nat} {g : Px} (p : PS X st (tDrop (tBM L.K "list" rAppend (tVar i) (tCons (tW L g) tNil)))) : PS X st (tWS L (sApp i g)) := PS.imp p fun D σ H ⟨B, G, ρ, r, a, ds, hi, h⟩ => by
  obtain ⟨hs, _, _, _, vs, hv, _⟩ := gro_at r hi
  refine ⟨.ref a, hs, .inl ⟨rfl, vs, .inl (.inl hv)⟩, B, G, ρ, r, g.mono (fun d ρ1 h1 v G1 H1 r1 s1 d1 => ?_) h⟩
  obtain ⟨ds1, hi1, hl, k⟩ := h1
  obtain ⟨_, _, _, _, vs1, hv1, dv1⟩ := gro_at r1 hi1
  refine ⟨a, vs1, v, rfl, rfl, hv1, by rw [dvs_len dv1]; exact hl, ?_⟩
  exact k σ G1 _ (r1.chgG hi1 (dvs_app dv1 (.cons d1 .nil))) s1
/-- a list that grew is read, and grows no more -/
theorem Rep.frz (r : Rep L B G H σ ρ) {i : Nat} {p : Addr} {ds : List Da} (hi : ρ[i]? = some (some (.gro p ds))) : ∃ G', Rep L B G' H σ (ρ.set i (some (.dat (.lst ds)))) ∧ Same G G' ∧ Dv L G' (.ref p) (.lst ds) := by
  obtain ⟨hs, hG, h0, hM, xs, hx, dx⟩ := gro_at r hi
  have sg : Same G (upd G p (.lst xs)) := same_upd hG
  have hmem := List.mem_of_getElem? hi
  have dv : Dv L (upd G p (.lst xs)) (.ref p) (.lst ds) := .lst upd_same (dvs_same sg dx)
  refine ⟨upd G p (.lst xs), ⟨r.gr.done h0 hx, r.mh, ?_, r.nd.sublist (own_set rfl), ?_, ?_, ?_, r.tb.go sg (Same.refl _), fun t ht => ⟨?_, fun z => (r.tg t ht).2.1 ((own_set rfl).subset z), (r.tg t ht).2.2⟩, r.mt, fun T hm => (mem_set hm).elim (r.ft T) fun z => by cases z⟩, sg, dv⟩
  · refine paired_off r.env hi hs r.nd (fun a b hp hb hh => ?_) dv
    refine hh.grow sg (fun q fs e => ?_) fun d l c e => ?_
    · subst e
      refine ⟨rfl, ?_⟩
      rw [upd_ne (fun z => hp (by rw [z]; simp [slA]))]
      cases a with
      | none => exact (reps_none hh).elim
      | some v => exact hh.2.1
    · subst e
      cases a with
      | none => exact (reps_none hh).elim
      | some v =>
        obtain ⟨_, n1, n2, D⟩ := hh
        have off : ∀ b, b ∈ slA (some (Sl.drw d l c)) → b ≠ p := fun b hb z => hp (by rw [← z]; exact hb)
        exact ⟨by rw [upd_ne (off d (by simp [slA]))]; exact n1, by rw [upd_ne (off l (by simp [slA]))]; exact n2, D⟩
  · intro q fs hm
    rcases mem_set hm with hm | hm
    · exact r.fm q fs hm
    · cases hm
  · intro d l c hm
    rcases mem_set hm with hm | hm
    · exact r.fd d l c hm
    · cases hm
  · intro q hq
    obtain ⟨h1, h2, h3, h4⟩ := r.ks q hq
    refine ⟨h1, ?_, h3, fun z => h4 ((own_set rfl).subset z)⟩
    rw [upd_ne (fun z => h4 (by rw [z]; exact own_mem hmem (by simp [slA])))]
    exact h2
  · rw [upd_ne (fun z => (r.tg t ht).2.1 (by rw [z]; exact own_mem hmem (by simp [slA])))]
    exact (r.tg t ht).1
def pFz (i : Nat) : Px := ⟨fun ρ k => ∃ p ds, ρ[i]? = some (some (.gro p ds)) ∧ k (.lst ds) (ρ.set i (some (.dat (.lst ds)))), fun h ⟨p, ds, e, q⟩ => ⟨p, ds, e, h _ _ q⟩⟩
theorem w_frz {i : Nat} (p : PE X e (tVar i)) : PE X e (tW L (pFz i)) := PE.imp p fun σ H Q ⟨B, G, ρ, r, a, ds, hi, h⟩ => by
  obtain ⟨hs, _⟩ := gro_at r hi
  obtain ⟨G', r', s, dv⟩ := r.frz hi
  exact ⟨_, hs, h _ G' H r' s dv⟩
/-- len(left), left[k] of a list that may still change -/
def pLenG (i : Nat) : Px := ⟨fun ρ k => ∃ p ds, ρ[i]? = some (some (.gro p ds)) ∧ k (.int ds.length) ρ, fun h ⟨p, ds, e, q⟩ => ⟨p, ds, e, h _ _ q⟩⟩
theorem w_lenG {i : Nat} (p : PE X e (tCB (fun xs H Q => ∃ p ys, xs = [.ref p] ∧ (SqL L.K H p ys ∨ SqT L.K H p ys) ∧ Q (.int ys.length) H) (tCons (tVar i) tNil))) : PE X e (tW L (pLenG i)) := PE.imp p fun σ H Q ⟨B, G, ρ, r, a, ds, hi, h⟩ => by
  obtain ⟨hs, _, _, _, vs, hv, dv⟩ := gro_at r hi
  refine ⟨_, hs, a, vs, rfl, .inl (.inl (.inl hv)), ?_⟩
  rw [dvs_len dv]
  exact h _ G H r (Same.refl _) (.int _)
def pIxG (i : Nat) (g : Px) : Px := ⟨fun ρ k => ∃ p ds, ρ[i]? = some (some (.gro p ds)) ∧ g.f ρ fun y ρ1 => ∃ ds1 n d, ρ1[i]? = some (some (.gro p ds1)) ∧ y = .int n ∧ atI ds1 n = some d ∧ k d ρ1,
  fun h ⟨p, ds, e, q⟩ => ⟨p, ds, e, g.mono (fun _ _ ⟨a, b, c, d1, d2, d3, d4⟩ => ⟨a, b, c, d1, d2, d3, h _ _ d4⟩) q⟩⟩
theorem w_ixG {i : Nat} {g : Px} (p : PE X e (tOp (rIxL L.K) (tVar i) (tW L g))) : PE X e (tW L (pIxG i g)) := PE.imp p fun σ H Q ⟨B, G, ρ, r, a, ds, hi, h⟩ => by
  obtain ⟨hs, _⟩ := gro_at r hi
  refine ⟨_, hs, B, G, ρ, r, g.mono (fun y ρ1 h1 u G1 H1 r1 s1 d1 => ?_) h⟩
  obtain ⟨ds1, n, d, hi1, rfl, ha, k⟩ := h1
  obtain ⟨_, _, _, _, vs, hv, dv⟩ := gro_at r1 hi1
  cases d1
  obtain ⟨j, h1, h2⟩ := atI_get (xs := vs) (dvs_len dv) ha
  obtain ⟨w, h3, h4⟩ := dvs_at dv h1
  exact ⟨a, vs, n, w, rfl, rfl, .inl (.inl hv), h2 w h3, k w G1 H1 r1 s1 h4⟩
/-- left.pop(k) -/
def pPopG (i : Nat) (g : Px) : Px := ⟨fun ρ k => ∃ p ds, ρ[i]? = some (some (.gro p ds)) ∧ g.f ρ fun y ρ1 => ∃ ds1 n j d, ρ1[i]? = some (some (.gro p ds1)) ∧ y = .int n ∧ -(2 ^ 63) ≤ n ∧ n < 2 ^ 63 ∧ seqIndex? n ds1.length = some j ∧ ds1[j]? = some d ∧
  k d (ρ1.set i (some (.gro p (ds1.eraseIdx j)))), fun h ⟨p, ds, e, q⟩ => ⟨p, ds, e, g.mono (fun _ _ ⟨a, b, c, f, d1, d2, d3, d4, d5, d6, d7⟩ => ⟨a, b, c, f, d1, d2, d3, d4, d5, d6, h _ _ d7⟩) q⟩⟩
theorem w_popG {i : Nat} {g : Px} (p : PE X e (tBM L.K "list" rPopAt (tVar i) (tCons (tW L g) tNil))) : PE X e (tW L (pPopG i g)) := PE.imp p fun σ H Q ⟨B, G, ρ, r, a, ds, hi, h⟩ => by
  obtain ⟨hs, _, _, _, vs, hv, _⟩ := gro_at r hi
  refine ⟨.ref a, hs, .inl ⟨rfl, vs, .inl (.inl hv)⟩, B, G, ρ, r, g.mono (fun d ρ1 h1 v G1 H1 r1 s1 d1 => ?_) h⟩
  obtain ⟨ds1, n, j, x, hi1, rfl, l1, l2, hj, hx, k⟩ := h1
  obtain ⟨_, _, _, _, vs1, hv1, dv1⟩ := gro_at r1 hi1
  cases d1
  obtain ⟨w, h3, h4⟩ := dvs_at dv1 hx
  exact ⟨a, vs1, n, j, w, rfl, rfl, hv1, l1, l2, by rw [dvs_len dv1]; exact hj, h3, k w G1 _ (r1.chgG hi1 (dvs_erase j dv1)) s1 h4⟩
end
/-! # the promise of a def, from its body -/
theorem own_dat : ∀ ds : List Da, own (ds.map fun d => some (Sl.dat d)) = []
  | [] => rfl
  | _ :: r => own_dat r
theorem own_none : ∀ n : Nat, own (List.replicate n none) = []
  | 0 => rfl
  | n + 1 => own_none n
/-- the frame at the entry: the arguments, then empty slots -/
def ent (ds : List Da) (n : Nat) : En := (ds.map fun d => some (Sl.dat d)) ++ List.replicate n none
theorem paired_append {α β : Type} {F : α → β → Prop} : ∀ {l m : List α} {l' m' : List β}, Paired F l l' → Paired F m m' → Paired F (l ++ m) (l' ++ m')
  | _, _, _, _, .nil, h => h
  | _, _, _, _, .cons a t, h => .cons a (paired_append t h)
theorem env_dat {L : Ly} {G H : Hp} : ∀ {vs : List V} {ds : List Da}, DvAll L G vs ds → Paired (RepS L G H) (vs.map some) (ds.map fun d => some (Sl.dat d))
  | _, _, .nil => .nil
  | _, _, .cons h t => .cons h (env_dat t)
theorem env_none {L : Ly} {G H : Hp} : ∀ n : Nat, Paired (RepS L G H) (List.replicate n (none : Option V)) (List.replicate n none)
  | 0 => .nil
  | n + 1 => .cons trivial (env_none n)
theorem rep_ent {L : Ly} {G H : Hp} {vs : List V} {ds : List Da} {n : Nat} (s : Same G H) (h : DvAll L G vs ds) : Rep L ⟨M0, G, H, [], []⟩ G H (vs.map some ++ List.replicate n none) (ent ds n) where
  gr := Grow.refl s
  mh := fun _ z => z.elim
  env := paired_append (env_dat h) (env_none n)
  nd := by
    have e : own (ent ds n) = [] := by
      unfold ent own
      rw [List.flatMap_append]
      have h1 := own_dat ds
      have h2 := own_none n
      unfold own at h1 h2
      rw [h1, h2]
      rfl
    rw [e]
    exact List.nodup_nil
  fm := fun p es hm => by
    unfold ent at hm
    rcases List.mem_append.mp hm with hm | hm
    · obtain ⟨d, _, e⟩ := List.mem_map.mp hm
      cases e
    · obtain ⟨_, e⟩ := List.mem_replicate.mp hm
      cases e
  fd := fun d l c hm => by
    unfold ent at hm
    rcases List.mem_append.mp hm with hm | hm
    · obtain ⟨d, _, e⟩ := List.mem_map.mp hm
      cases e
    · obtain ⟨_, e⟩ := List.mem_replicate.mp hm
      cases e
  ks := fun q hq => by cases hq
  tb := fun p hp => by cases hp
  tg := fun p hp => by cases hp
  mt := fun p hp => by cases hp
  ft := fun T hm => by
    unfold ent at hm
    rcases List.mem_append.mp hm with hm | hm
    · obtain ⟨d, _, e⟩ := List.mem_map.mp hm
      cases e
    · obtain ⟨_, e⟩ := List.mem_replicate.mp hm
      cases e
/-- a def of data: it keeps F if its body does -/
theorem calF {L : Ly} {P : Program} {w : World} {mg : Str → Option Value} {base : Heap} {x : Str} {st : Stmt} {f : Addr} {fd : FuncData} {N ps : List Str} {k n : Nat} {F : Pf} (Fd : C8.Def L.K mg x st f fd) (b : Binds L.K fd ps []) (S : FnScope N ps (C8.fnScope st))
    (hlen : ∀ ds k, F.f ds k → ds.length = ps.length) (hN : ∀ vs : List V, vs.length = ps.length → start N vs = vs.map some ++ List.replicate n none)
    (hbody : ∀ (cdv : Value) (A : Around) (outer : List Env) (s : Shared) (H : Hp) (E : XK), Room k (A.deeper (envOfC x (C8.fnScope st) s.heap.objs.size f cdv)) → A.guards = some [] →
      ∃ g : Ps, PSs (cxOf C8.CX0 P w L.K mg base N x (C8.fnScope st) f cdv A outer s H E).nox (C8.fnBody st) (tWS L g) ∧
        ∀ ds kk, F.f ds kk → g.f (ent ds n) (fun _ => kk .non) (fun d _ => kk d) (fun _ => False) (fun _ => False)) : CalG P w L.K mg base C8.CX0 (k + 1) x (spF L F) := by
  refine calG0 Fd b S ?_ ?_
  · rintro vs H Q E ⟨G, ds, s, dv, h⟩
    exact (dvs_len dv).trans (hlen ds _ h)
  · rintro cdv A outer s H vs Q E hr hgu ⟨G, ds, sg, dv, h⟩
    obtain ⟨g, hp, hF⟩ := hbody cdv A outer s H E hr hgu
    refine ⟨_, hp, ?_⟩
    rw [hN vs ((dvs_len dv).trans (hlen ds _ h))]
    refine ⟨⟨M0, G, H, [], []⟩, G, ent ds n, rep_ent sg dv, g.mono ?_ ?_ ?_ ?_ (hF ds _ h)⟩
    · intro ρ' q σ' G' H' r' _
      exact q .non G' H' r'.gr .non
    · intro d ρ' q v σ' G' H' r' _ d'
      exact q v G' H' r'.gr d'
    · intro _ z
      exact z.elim
    · intro _ z
      exact z.elim
end Fw
namespace Fw
open PySem PySem.Spec PyProof.Rows L2 Fr
section
variable {X : Cx} {L : Ly} {B : Bs} {G H : Hp} {σ : L2.St} {ρ : En} {st : Stmt} {e : Expr}
/-! # what is walked over -/
def Wk (L : Ly) (J : It) (G : Hp) (ds : List Da) : Prop := ∀ G' H, Same G G' → Same G' H → ∀ i, i ≤ ds.length → (i = ds.length → J.stop i H) ∧
  (i < ds.length → J.go i H ∧ ∀ x H', J.yld i H x H' → ∃ G'' d, Grow M0 G' H G'' H' ∧ ds[i]? = some d ∧ Dv L G'' x d)
theorem wk_list {a : Addr} {xs : List V} {ds : List Da} (h : G a = some (.lst xs)) (ha : DvAll L G xs ds) : Wk L (Itl L.K a) G ds := fun G' H s s' i hi => by
  have q : SqL L.K H a xs := .inl (.inl (s' _ _ (s _ _ h)))
  rw [← dvs_len ha] at hi ⊢
  refine ⟨fun e => ⟨xs, q, by rw [e]; exact Nat.le_refl _⟩, fun hlt => ⟨⟨xs, xs[i], q, by simp [hlt]⟩, fun x H' y => ?_⟩⟩
  obtain ⟨e, y⟩ := y
  subst e
  obtain ⟨d, hd, dv⟩ := dvs_get ha (y xs q)
  exact ⟨G', d, Grow.refl s', hd, dv_same s dv⟩
theorem wk_tup {a : Addr} {xs : List V} {ds : List Da} (h : SqT L.K G a xs) (ha : DvAll L G xs ds) : Wk L (Itt L.K a) G ds := fun G' H s s' i hi => by
  have q := same_sqt s' (same_sqt s h)
  rw [← dvs_len ha] at hi ⊢
  refine ⟨fun e => ⟨xs, q, by rw [e]; exact Nat.le_refl _⟩, fun hlt => ⟨⟨xs, xs[i], q, by simp [hlt]⟩, fun x H' y => ?_⟩⟩
  obtain ⟨e, y⟩ := y
  subst e
  obtain ⟨d, hd, dv⟩ := dvs_get ha (y xs q)
  exact ⟨G', d, Grow.refl s', hd, dv_same s dv⟩
def rgD (lo : Int) (n : Nat) : List Da := (List.range n).map fun i => Da.int (lo + (i : Nat))
theorem wk_rng {lo : Int} {n : Nat} : Wk L (Itr lo n) G (rgD lo n) := fun G' H s s' i hi => by
  have hl : (rgD lo n).length = n := by simp [rgD]
  rw [hl] at hi ⊢
  refine ⟨fun e => Nat.le_of_eq e.symm, fun hlt => ⟨hlt, fun x H' y => ?_⟩⟩
  obtain ⟨e, y⟩ := y
  subst e y
  exact ⟨G', .int (lo + i), Grow.refl s', by simp [rgD, hlt], .int _⟩
def tWI (L : Ly) (g : Pl) : TI := fun σ H R => ∃ B G ρ, Rep L B G H σ ρ ∧ g.f ρ fun ds ρ' => ∀ J G' H', Rep L B G' H' σ ρ' → Same G G' → Wk L J G' ds → R J H'
theorem PI.imp {tg : Expr} {t t' : TI} (p : PI X tg e t) (h : ∀ σ H Q, t' σ H Q → t σ H Q) : PI X tg e t' := ⟨fun pins s σ H R I q => p.run pins s σ H R I (h _ _ _ q)⟩
def pIL (g : Px) : Pl := ⟨fun ρ k => g.f ρ fun d ρ1 => ∃ ds, d = .lst ds ∧ k ds ρ1, fun h => g.mono fun _ _ ⟨ds, e, q⟩ => ⟨ds, e, h _ _ q⟩⟩
def pIT (g : Px) : Pl := ⟨fun ρ k => g.f ρ fun d ρ1 => ∃ ds, d = .tup ds ∧ k ds ρ1, fun h => g.mono fun _ _ ⟨ds, e, q⟩ => ⟨ds, e, h _ _ q⟩⟩
theorem w_il {tg : Expr} {g : Px} (p : PI X tg e (iList L.K (tW L g))) : PI X tg e (tWI L (pIL g)) := PI.imp p fun σ H R ⟨B, G, ρ, r, h⟩ =>
  ⟨B, G, ρ, r, g.mono (fun d ρ1 ⟨ds, e, h1⟩ v G1 H1 r1 s1 d1 => by
    subst e
    cases d1 with
    | @lst a xs _ hs ha => exact ⟨a, rfl, ⟨xs, .inl (.inl (r1.gh _ _ hs))⟩, h1 _ G1 H1 r1 s1 (wk_list hs ha)⟩) h⟩
theorem w_it {tg : Expr} {g : Px} (p : PI X tg e (iTup L.K (tW L g))) : PI X tg e (tWI L (pIT g)) := PI.imp p fun σ H R ⟨B, G, ρ, r, h⟩ =>
  ⟨B, G, ρ, r, g.mono (fun d ρ1 ⟨ds, e, h1⟩ v G1 H1 r1 s1 d1 => by
    subst e
    cases d1 with
    | @tup a xs _ hs ha => exact ⟨a, rfl, ⟨xs, same_sqt r1.gh hs⟩, h1 _ G1 H1 r1 s1 (wk_tup hs ha)⟩) h⟩
def pR1 (g : Pl) : Pl := ⟨fun ρ k => g.f ρ fun ds ρ1 => ∃ j : Int, ds = [.int j] ∧ -(2 ^ 62) ≤ j ∧ j < 2 ^ 62 ∧ k (rgD 0 j.toNat) ρ1, fun h => g.mono fun _ _ ⟨j, a, b, c, q⟩ => ⟨j, a, b, c, h _ _ q⟩⟩
def pR2 (g : Pl) : Pl := ⟨fun ρ k => g.f ρ fun ds ρ1 => ∃ i j : Int, ds = [.int i, .int j] ∧ (-(2 ^ 62) ≤ i ∧ i < 2 ^ 62 ∧ -(2 ^ 62) ≤ j ∧ j < 2 ^ 62) ∧ k (rgD i (j - i).toNat) ρ1, fun h => g.mono fun _ _ ⟨i, j, a, b, q⟩ => ⟨i, j, a, b, h _ _ q⟩⟩
theorem dv_int {v : V} {i : Int} (h : Dv L G v (.int i)) : v = .int i := by cases h; rfl
theorem w_ir1 {tg : Expr} {g : Pl} (p : PI X tg e (iRng1 (tWA L g))) : PI X tg e (tWI L (pR1 g)) := PI.imp p fun σ H R ⟨B, G, ρ, r, h⟩ =>
  ⟨B, G, ρ, r, g.mono (fun ds ρ1 ⟨j, e, a, b, h1⟩ vs G1 H1 r1 s1 d1 => by
    subst e
    cases d1 with
    | cons d t =>
      cases t
      rw [dv_int d]
      exact ⟨j, rfl, a, b, h1 _ G1 H1 r1 s1 wk_rng⟩) h⟩
theorem w_ir2 {tg : Expr} {g : Pl} (p : PI X tg e (iRng2 (tWA L g))) : PI X tg e (tWI L (pR2 g)) := PI.imp p fun σ H R ⟨B, G, ρ, r, h⟩ =>
  ⟨B, G, ρ, r, g.mono (fun ds ρ1 ⟨i, j, e, a, h1⟩ vs G1 H1 r1 s1 d1 => by
    subst e
    cases d1 with
    | cons d t =>
      cases t with
      | cons d' t =>
        cases t
        rw [dv_int d, dv_int d']
        exact ⟨i, j, rfl, a, h1 _ G1 H1 r1 s1 wk_rng⟩) h⟩
/-! # for over any of them -/
def sForI (src : Pl) (t : Tg) (g : Ps) : Ps := ⟨fun ρ nx rt _ _ => src.f ρ fun ds ρ1 => loopF t g nx rt ds ρ1, fun a b _ _ => src.mono fun _ _ q => loopF_mono a b q⟩
theorem Rep.go {G' H' : Hp} (r : Rep L B G H σ ρ) (g : Grow M0 G H G' H') : Rep L B G' H' σ ρ := r.step (g.weak fun _ z => z.elim) (fun _ _ _ h => draw_same (draw_mem r h).1 g.same) (r.tb.go g.gg g.same)
theorem w_forI {src : Pl} {gt : TG} {t : Tg} {g : Ps} (hg : SndG L gt t) (p : PS X st (tFor (tWI L src) gt (tWS L g))) : PS X st (tWS L (sForI src t g)) := PS.imp p fun D σ H ⟨B, G, ρ, r, k⟩ =>
  ⟨B, G, ρ, r, src.mono (fun ds ρ1 h1 J G1 H1 r1 s1 wk => by
    obtain ⟨Inv, hInv⟩ : ∃ Inv : Nat → L2.St → Hp → Prop, ∀ i σ' H', Inv i σ' H' ↔ ∃ G' ρ', Rep L B G' H' σ' ρ' ∧ Same G1 G' ∧ loopF t g
      (fun ρ' => ∀ σ' G' H', Rep L B G' H' σ' ρ' → Same G G' → D.nx σ' H')
      (fun d ρ' => ∀ v σ' G' H', Rep L B G' H' σ' ρ' → Same G G' → Dv L G' v d → D.rt v H') (ds.drop i) ρ' := ⟨_, fun _ _ _ => Iff.rfl⟩
    refine ⟨fun i m σ' H' => m = ds.length - i ∧ i ≤ ds.length ∧ Inv i σ' H', ⟨ds.length, by simp, Nat.zero_le _, (hInv _ _ _).mpr ⟨G1, ρ1, r1, Same.refl _, by simpa using h1⟩⟩, ?_⟩
    rintro i m σ' H' ⟨rfl, hi, q⟩
    obtain ⟨G', ρ', r', s', hl⟩ := (hInv _ _ _).mp q
    have hw := wk G' H' s' r'.gh i hi
    by_cases hlt : i < ds.length
    · refine .inr ⟨(hw.2 hlt).1, Inv (i + 1), fun σ2 H2 q2 => ⟨ds.length - (i + 1), by omega, rfl, hlt, q2⟩, fun x H2 y => ?_⟩
      obtain ⟨G2, d, gr, hd, dv⟩ := (hw.2 hlt).2 x H2 y
      rw [drop_at hd] at hl
      refine hg (r'.go gr) dv (t.mono (fun ρ2 h2 σ2 r2 => ⟨B, G2, ρ2, r2, g.mono ?_ ?_ ?_ ?_ h2⟩) hl)
      · intro ρ3 h3 σ3 G3 H3 r3 s3
        exact (hInv _ _ _).mpr ⟨G3, ρ3, r3, s'.trans (gr.gg.trans s3), h3⟩
      · intro d3 ρ3 h3 v σ3 G3 H3 r3 s3
        exact h3 v σ3 G3 H3 r3 (s1.trans (s'.trans (gr.gg.trans s3)))
      · intro ρ3 h3 σ3 G3 H3 r3 s3
        exact h3 σ3 G3 H3 r3 (s1.trans (s'.trans (gr.gg.trans s3)))
      · intro ρ3 h3 σ3 G3 H3 r3 s3
        exact (hInv _ _ _).mpr ⟨G3, ρ3, r3, s'.trans (gr.gg.trans s3), h3⟩
    · have e : i = ds.length := by omega
      subst e
      rw [List.drop_length] at hl
      exact .inl ⟨hw.1 rfl, hl σ' G' H' r' (s1.trans s')⟩) k⟩
/-- zip of two lists -/
def zipD (as bs : List Da) : List Da := List.zipWith (fun a b => Da.tup [a, b]) as bs
def pZip (g : Pl) : Pl := ⟨fun ρ k => g.f ρ fun ds ρ1 => ∃ as bs, ds = [.lst as, .lst bs] ∧ k (zipD as bs) ρ1, fun h => g.mono fun _ _ ⟨as, bs, e, q⟩ => ⟨as, bs, e, h _ _ q⟩⟩
theorem zip_at {as bs : List Da} {i : Nat} {a b : Da} (ha : as[i]? = some a) (hb : bs[i]? = some b) : (zipD as bs)[i]? = some (.tup [a, b]) := by
  unfold zipD
  rw [List.getElem?_zipWith, ha, hb]
theorem wk_zip {a b : Addr} {xs ys : List V} {as bs : List Da} (hx : G a = some (.lst xs)) (hy : G b = some (.lst ys)) (ha : DvAll L G xs as) (hb : DvAll L G ys bs) : Wk L (Itz L.K a b) G (zipD as bs) := fun G' H s s' i hi => by
  have q1 : SqL L.K H a xs := .inl (.inl (s' _ _ (s _ _ hx)))
  have q2 : SqL L.K H b ys := .inl (.inl (s' _ _ (s _ _ hy)))
  have hl : (zipD as bs).length = min xs.length ys.length := by
    unfold zipD
    rw [List.length_zipWith, dvs_len ha, dvs_len hb]
  rw [hl] at hi ⊢
  refine ⟨fun e => ⟨xs, ys, q1, q2, by omega⟩, fun hlt => ?_⟩
  have l1 : i < xs.length := by omega
  have l2 : i < ys.length := by omega
  refine ⟨⟨xs, ys, xs[i], ys[i], q1, q2, by simp [l1], by simp [l2]⟩, fun v H' y => ?_⟩
  obtain ⟨T, x, z, rfl, hT, rfl, y1, y2⟩ := y
  obtain ⟨d1, e1, v1⟩ := dvs_get ha (y1 xs q1)
  obtain ⟨d2, e2, v2⟩ := dvs_get hb (y2 ys q2)
  have nT : G' T = none := s'.free hT
  have st := same_upd nT (o := .tup [x, z])
  exact ⟨upd G' T (.tup [x, z]), .tup [d1, d2], Grow.lay s' hT, zip_at e1 e2, .tup (.inl (.inl upd_same)) (.cons (dv_same (s.trans st) v1) (.cons (dv_same (s.trans st) v2) .nil))⟩
theorem w_iz {tg : Expr} {g : Pl} (p : PI X tg e (iZip L.K (tWA L g))) : PI X tg e (tWI L (pZip g)) := PI.imp p fun σ H R ⟨B, G, ρ, r, h⟩ =>
  ⟨B, G, ρ, r, g.mono (fun ds ρ1 ⟨as, bs, e, h1⟩ vs G1 H1 r1 s1 d1 => by
    subst e
    cases d1 with
    | cons d t =>
      cases t with
      | cons d' t =>
        cases t
        cases d with
        | @lst a xs _ hs ha =>
          cases d' with
          | @lst b ys _ hs' ha' => exact ⟨a, b, xs, ys, rfl, .inl (.inl (r1.gh _ _ hs)), .inl (.inl (r1.gh _ _ hs')), h1 _ G1 H1 r1 s1 (wk_zip hs hs' ha ha')⟩) h⟩
/-- enumerate of a list -/
def enumD (as : List Da) : List Da := (List.range as.length).map fun i => Da.tup [.int (i : Nat), as.getD i .non]
def pEnum (g : Pl) : Pl := ⟨fun ρ k => g.f ρ fun ds ρ1 => ∃ as, ds = [.lst as] ∧ k (enumD as) ρ1, fun h => g.mono fun _ _ ⟨as, e, q⟩ => ⟨as, e, h _ _ q⟩⟩
theorem wk_enum {a : Addr} {xs : List V} {as : List Da} (hx : G a = some (.lst xs)) (ha : DvAll L G xs as) : Wk L (Ite L.K a) G (enumD as) := fun G' H s s' i hi => by
  have q1 : SqL L.K H a xs := .inl (.inl (s' _ _ (s _ _ hx)))
  have hl : (enumD as).length = xs.length := by
    unfold enumD
    rw [List.length_map, List.length_range, dvs_len ha]
  rw [hl] at hi ⊢
  refine ⟨fun e => ⟨xs, q1, by omega⟩, fun hlt => ⟨⟨xs, xs[i], q1, by simp [hlt]⟩, fun v H' y => ?_⟩⟩
  obtain ⟨T, x, rfl, hT, rfl, y1⟩ := y
  obtain ⟨d1, e1, v1⟩ := dvs_get ha (y1 xs q1)
  have nT : G' T = none := s'.free hT
  have st := same_upd nT (o := .tup [.int (i : Nat), x])
  refine ⟨upd G' T (.tup [.int (i : Nat), x]), .tup [.int (i : Nat), d1], Grow.lay s' hT, ?_, .tup (.inl (.inl upd_same)) (.cons (.int _) (.cons (dv_same (s.trans st) v1) .nil))⟩
  have hi2 : i < as.length := by rw [← dvs_len ha]; exact hlt
  unfold enumD
  rw [List.getElem?_map, List.getElem?_range hi2, Option.map_some, List.getD_eq_getElem?_getD, e1]
  rfl
theorem w_ie {tg : Expr} {g : Pl} (p : PI X tg e (iEnum L.K (tWA L g))) : PI X tg e (tWI L (pEnum g)) := PI.imp p fun σ H R ⟨B, G, ρ, r, h⟩ =>
  ⟨B, G, ρ, r, g.mono (fun ds ρ1 ⟨as, e, h1⟩ vs G1 H1 r1 s1 d1 => by
    subst e
    cases d1 with
    | cons d t =>
      cases t
      cases d with
      | @lst a xs _ hs ha => exact ⟨a, xs, rfl, .inl (.inl (r1.gh _ _ hs)), h1 _ G1 H1 r1 s1 (wk_enum hs ha)⟩) h⟩
end
end Fw
namespace Fw
open PySem PySem.Spec PyProof.Rows L2 Fr
/-! # [e for x in xs if t] without a heap -/
def wipeR (ρ : En) : List Nat → En
  | [] => ρ
  | v :: vs => (wipeR ρ vs).set v none
section
variable {X : Cx} {L : Ly} {B : Bs} {G H : Hp} {σ σ' : L2.St} {ρ : En} {st : Stmt} {e : Expr} {vs : List Nat}
theorem Rep.env' (r : Rep L B G H σ ρ) (h : Paired (RepS L G H) σ' ρ) : Rep L B G H σ' ρ := { r with env := h }
theorem reps_no {v : Option V} : RepS L G H v none := by cases v <;> trivial
theorem Rep.setN (r : Rep L B G H σ ρ) (i : Nat) (v : Option V) : Rep L B G H (σ.set i v) (ρ.set i none) where
  gr := r.gr
  mh := r.mh
  env := paired_set reps_no i r.env
  nd := r.nd.sublist (own_set rfl)
  fm := fun p ds hm => (mem_set hm).elim (r.fm p ds) fun z => by cases z
  fd := fun d' l c hm => (mem_set hm).elim (r.fd d' l c) fun z => by cases z
  ks := fun q hq => by
    obtain ⟨h1, h2, h3, h4⟩ := r.ks q hq
    exact ⟨h1, h2, h3, fun z => h4 ((own_set rfl).subset z)⟩
  tb := r.tb
  tg := fun p hp => ⟨(r.tg p hp).1, fun z => (r.tg p hp).2.1 ((own_set rfl).subset z), (r.tg p hp).2.2⟩
  mt := r.mt
  ft := fun T hm => (mem_set hm).elim (r.ft T) fun z => by cases z
theorem Rep.wipe (r : Rep L B G H σ ρ) : ∀ vs : List Nat, Rep L B G H (L2.wipe σ vs) (wipeR ρ vs)
  | [] => r
  | v :: vs => (r.wipe vs).setN v none
theorem paired_unset {F : Option V → Option Sl → Prop} (hF : ∀ a, F a none) : ∀ {σ : L2.St} {μ : En} {v : Nat}, Paired F (σ.set v none) μ → (∀ t, μ[v]? = some t → t = none) → Paired F σ μ
  | [], _, _, h, _ => by simpa using h
  | s :: r, _, 0, .cons a t, hn => by
    have e := hn _ rfl
    subst e
    exact .cons (hF s) t
  | s :: r, _, v + 1, .cons a t, hn => .cons a (paired_unset hF t fun t ht => hn t (by simpa using ht))
def WpR (vs : List Nat) (ρ : En) : Prop := ∀ i ∈ vs, ∀ t, ρ[i]? = some t → t = none
theorem paired_unwipe {F : Option V → Option Sl → Prop} (hF : ∀ a, F a none) {μ : En} : ∀ {vs : List Nat}, Paired F (L2.wipe σ vs) μ → WpR vs μ → Paired F σ μ
  | [], h, _ => h
  | v :: vs, h, hn => paired_unwipe (vs := vs) hF (paired_unset hF h (hn v List.mem_cons_self)) fun i hi => hn i (List.mem_cons_of_mem _ hi)
theorem Rep.unwipe (r : Rep L B G H (L2.wipe σ vs) ρ) (h : WpR vs ρ) : Rep L B G H σ ρ := r.env' (paired_unwipe (fun _ => reps_no) r.env h)
theorem wpR_wipe (ρ : En) : ∀ vs : List Nat, WpR vs (wipeR ρ vs)
  | [], i, hi, _, _ => by cases hi
  | v :: vs, i, hi, t, ht => by
    have ht' : ((wipeR ρ vs).set v none)[i]? = some t := ht
    by_cases hv : v = i
    · subst hv
      rw [List.getElem?_set] at ht'
      simp at ht'
      exact ht'.2.symm
    · rw [List.getElem?_set_ne hv] at ht'
      rcases List.mem_cons.mp hi with e | hi
      · exact absurd e.symm hv
      · exact wpR_wipe ρ vs i hi t ht'
theorem wipe_set {i : Nat} {x : Option V} : ∀ {vs : List Nat}, i ∈ vs → L2.wipe (σ.set i x) vs = L2.wipe σ vs
  | v :: vs, hi => by
    show (L2.wipe (σ.set i x) vs).set v none = (L2.wipe σ vs).set v none
    by_cases h : i ∈ vs
    · rw [wipe_set h]
    · have e : i = v := by
        rcases List.mem_cons.mp hi with e | z
        · exact e
        · exact absurd z h
      subst e
      have : ∀ ws : List Nat, i ∉ ws → L2.wipe (σ.set i x) ws = (L2.wipe σ ws).set i x := by
        intro ws
        induction ws with
        | nil => intro _; rfl
        | cons w ws ih =>
          intro hw
          simp only [List.mem_cons, not_or] at hw
          show (L2.wipe (σ.set i x) ws).set w none = ((L2.wipe σ ws).set w none).set i x
          rw [ih hw.2, List.set_comm _ _ hw.1]
      rw [this vs h, List.set_set]
theorem wipe_wipe : ∀ vs : List Nat, L2.wipe (L2.wipe σ vs) vs = L2.wipe σ vs
  | [] => rfl
  | v :: vs => by
    show L2.wipe ((L2.wipe σ vs).set v none) (v :: vs) = _
    rw [wipe_set List.mem_cons_self]
    show (L2.wipe (L2.wipe σ vs) vs).set v none = _
    rw [wipe_wipe vs]
    rfl
/-! ## targets of a block -/
def SndV (L : Ly) (g : TG) (t : Tg) (vs : List Nat) : Prop := ∀ {B : Bs} {G H : Hp} {σ : L2.St} {ρ : En} {v : V} {d : Da} {k : L2.St → Hp → Prop}, Rep L B G H σ ρ → Dv L G v d → t.f d ρ (fun ρ' => ∀ σ', Rep L B G H σ' ρ' → L2.wipe σ' vs = L2.wipe σ vs → k σ' H) → g v σ H k
def SndVs (L : Ly) (g : TGs) (t : Tgs) (vs : List Nat) : Prop := ∀ {B : Bs} {G H : Hp} {σ : L2.St} {ρ : En} {ws : List V} {ds : List Da} {k : L2.St → Hp → Prop}, Rep L B G H σ ρ → DvAll L G ws ds → t.f ds ρ (fun ρ' => ∀ σ', Rep L B G H σ' ρ' → L2.wipe σ' vs = L2.wipe σ vs → k σ' H) → g ws σ H k
theorem sndv_N {i : Nat} (hi : i ∈ vs) : SndV L (gName i) (tgN i) vs := fun r d1 h => h _ (r.setD d1) (wipe_set hi)
theorem sndv_nil : SndVs L gNil tgNil vs := by
  rintro B G H σ ρ ws ds k r d ⟨rfl, h⟩
  cases d
  exact ⟨rfl, h σ r rfl⟩
theorem sndv_cons {g : TG} {gs : TGs} {t : Tg} {u : Tgs} (h1 : SndV L g t vs) (h2 : SndVs L gs u vs) : SndVs L (gCons g gs) (tgCons t u) vs := by
  rintro B G H σ ρ ws ds k r d ⟨x, xs, rfl, h⟩
  cases d with
  | cons d1 d2 => exact ⟨_, _, rfl, h1 r d1 (t.mono (fun ρ1 z σ' r' e => h2 r' d2 (u.mono (fun _ y σ2 r2 e2 => y σ2 r2 (e2.trans e)) z)) h)⟩
theorem sndv_tup {n : Nat} {gs : TGs} {u : Tgs} (h2 : SndVs L gs u vs) : SndV L (gTup L.K n gs) (tgTup n u) vs := by
  rintro B G H σ ρ v d k r dv ⟨ds, rfl, hl, h⟩
  cases dv with
  | @tup a xs _ hs ha => exact ⟨a, xs, rfl, same_sqt r.gh hs, (dvs_len ha).trans hl, h2 r ha h⟩
/-! ## what is kept besides -/
def Bs.kp (B : Bs) (D : Addr) (o : HO) : Bs := { B with ks := (D, o) :: B.ks }
variable {D : Addr} {o o' : HO}
theorem Rep.kp (r : Rep L B G H σ ρ) (n : H D = none) : Rep L (B.kp D o) G (upd H D o) σ ρ := by
  have q := r.step (Grow.new (o := o) r.gh n) (fun d l c h => draw_same (draw_mem r h).1 (same_upd n)) (r.tb.go (Same.refl _) (same_upd n))
  refine { q with ks := fun x hx => ?_, tg := fun t ht => ⟨(r.tg t ht).1, (r.tg t ht).2.1, fun x hx => ?_⟩ }
  rotate_left
  · rcases List.mem_cons.mp hx with e | hx
    · subst e
      exact fun z => (r.tb t ht).tk (by rw [← z]; exact n)
    · exact (r.tg t ht).2.2 x hx
  rcases List.mem_cons.mp hx with e | hx
  · subst e
    exact ⟨upd_same, r.gh.free n, fun z => r.mH z n, fun z => r.own _ z n⟩
  · exact q.ks x hx
theorem Rep.kpAt (r : Rep L (B.kp D o) G H σ ρ) : H D = some o ∧ G D = none ∧ ¬ B.M D ∧ D ∉ Fw.own ρ := r.ks (D, o) List.mem_cons_self
theorem Rep.kpChg (r : Rep L (B.kp D o) G H σ ρ) (h0 : B.H0 D = none) (ne : ∀ q ∈ B.ks, q.1 ≠ D) : Rep L (B.kp D o') G (upd H D o') σ ρ := by
  obtain ⟨hx, hG, hM, ho⟩ := r.kpAt
  refine ⟨⟨r.gr.gg, fun b o e => ?_, fun b o n e => ?_, fun b e => trk_upd b (r.gr.tr b e), r.gr.nw⟩, r.mh, ?_, r.nd, r.fm, r.fd, ?_, fun t ht => (r.tb t ht).go (Same.refl _) fun u hu => ?_, fun t ht => ⟨(r.tg t ht).1, (r.tg t ht).2.1, fun q hq => ?_⟩, r.mt, r.ft⟩
  · rw [upd_ne (ne_of_none e hG)]
    exact r.gh _ _ e
  · rw [upd_ne (ne_of_none e h0)]
    exact r.gr.hh b o n e
  · refine paired_imp r.env fun a b hb hh => hh.grow (Same.refl _) (fun q fs e => ?_) fun d l c e => ?_
    · subst e
      refine ⟨upd_ne (fun z => ho (by rw [← z]; exact own_mem hb (by simp [slA]))), ?_⟩
      cases a with
      | none => exact (reps_none hh).elim
      | some v => exact hh.2.1
    · subst e
      cases a with
      | none => exact (reps_none hh).elim
      | some v =>
        obtain ⟨_, n1, n2, q1, q2, q3, q4, T⟩ := hh
        have off : ∀ b, b ∈ slA (some (Sl.drw d l c)) → b ≠ D := fun b hb' z => ho (by rw [← z]; exact own_mem hb hb')
        exact ⟨n1, n2, q1, q2, q3, q4, by rw [upd_ne (off d (by simp [slA]))]; exact T.hd, by rw [upd_ne (off l (by simp [slA]))]; exact T.hl, by rw [upd_ne (off c (by simp [slA]))]; exact T.hc, T.ne⟩
  · intro q hq
    rcases List.mem_cons.mp hq with e | hq
    · subst e
      exact ⟨upd_same, hG, hM, ho⟩
    · obtain ⟨h1, h2, h3, h4⟩ := r.ks q (List.mem_cons_of_mem _ hq)
      exact ⟨by rw [upd_ne (ne q hq)]; exact h1, h2, h3, h4⟩
  · rw [upd_ne (fun z => (r.tg t ht).2.2 (D, o) List.mem_cons_self z.symm)]
    exact hu
  · rcases List.mem_cons.mp hq with e | hq
    · subst e
      exact (r.tg t ht).2.2 (D, o) List.mem_cons_self
    · exact (r.tg t ht).2.2 q (List.mem_cons_of_mem _ hq)
theorem Rep.kpDone (r : Rep L (B.kp D o) G H σ ρ) (h0 : B.H0 D = none) (ne : ∀ q ∈ B.ks, q.1 ≠ D) : Rep L B (upd G D o) H σ ρ := by
  obtain ⟨hx, hG, hM, ho⟩ := r.kpAt
  have sg : Same G (upd G D o) := same_upd hG
  refine ⟨r.gr.done h0 hx, r.mh, ?_, r.nd, r.fm, r.fd, ?_, r.tb.go sg (Same.refl _), fun t ht => ⟨?_, (r.tg t ht).2.1, fun q hq => (r.tg t ht).2.2 q (List.mem_cons_of_mem _ hq)⟩, r.mt, r.ft⟩
  · refine paired_imp r.env fun a b hb hh => hh.grow sg (fun q fs e => ?_) fun d l c e => ?_
    · subst e
      refine ⟨rfl, ?_⟩
      rw [upd_ne (fun z => ho (by rw [← z]; exact own_mem hb (by simp [slA])))]
      cases a with
      | none => exact (reps_none hh).elim
      | some v => exact hh.2.1
    · subst e
      cases a with
      | none => exact (reps_none hh).elim
      | some v =>
        obtain ⟨_, n1, n2, T⟩ := hh
        have off : ∀ b, b ∈ slA (some (Sl.drw d l c)) → b ≠ D := fun b hb' z => ho (by rw [← z]; exact own_mem hb hb')
        exact ⟨by rw [upd_ne (off d (by simp [slA]))]; exact n1, by rw [upd_ne (off l (by simp [slA]))]; exact n2, T⟩
  · intro q hq
    obtain ⟨h1, h2, h3, h4⟩ := r.ks q (List.mem_cons_of_mem _ hq)
    exact ⟨h1, by rw [upd_ne (ne q hq)]; exact h2, h3, h4⟩
  · rw [upd_ne (fun z => (r.tg t ht).2.2 (D, o) List.mem_cons_self z.symm)]
    exact (r.tg t ht).1
/-! ## the comprehension -/
def lcP (t : Tg) (c : Pt) (el : Px) (vs : List Nat) (k : List Da → En → Prop) : List Da → List Da → En → Prop
  | [], acc, ρ => k acc ρ
  | x :: r, acc, ρ => t.f x ρ fun ρ2 => c.f ρ2 fun b ρ3 => if b = true then el.f ρ3 fun y ρ4 => acc.length < sizeLine ∧ lcP t c el vs k r (acc ++ [y]) (wipeR ρ4 vs) else lcP t c el vs k r acc (wipeR ρ3 vs)
theorem lcP_mono {t : Tg} {c : Pt} {el : Px} {k k' : List Da → En → Prop} (h : ∀ d r, k d r → k' d r) : ∀ {ds acc : List Da} {ρ : En}, lcP t c el vs k ds acc ρ → lcP t c el vs k' ds acc ρ
  | [], _, _, q => h _ _ q
  | _ :: r, _, _, q => t.mono (fun _ => c.mono fun b _ z => by
    by_cases hb : b = true
    · rw [if_pos hb] at z ⊢
      exact el.mono (fun _ _ y => ⟨y.1, lcP_mono h (ds := r) y.2⟩) z
    · rw [if_neg hb] at z ⊢
      exact lcP_mono h (ds := r) z) q
def pYes : Pt := ⟨fun ρ k => k true ρ, fun h => h _ _⟩
theorem PTs.imp {es : List Expr} {t t' : TT} (p : PTs X es t) (h : ∀ σ H Q, t' σ H Q → t σ H Q) : PTs X es t' := ⟨fun pins s σ H Q I q => p.run pins s σ H Q I (h _ _ _ q)⟩
theorem w_tnil : PTs X [] (tWT L pYes) := PTs.imp pts_nil fun σ H Q ⟨B, G, ρ, r, h⟩ => h G H r (Same.refl _)
theorem w_tone {g : Pt} (h : PT X e (tWT L g)) : PTs X [e] (tWT L g) := pts_one h
/-- a new list, not yet given away -/
def tWN (L : Ly) (g : Pl) : TE := fun σ H Q => ∃ B G ρ, Rep L B G H σ ρ ∧ g.f ρ fun ds ρ' => ∀ p us G' H', Rep L (B.kp p (.lst us)) G' H' σ ρ' → B.H0 p = none → (∀ q ∈ B.ks, q.1 ≠ p) → Same G G' → DvAll L G' us ds → Q (.ref p) H'
def pNL (g : Pl) : Px := ⟨fun ρ k => g.f ρ fun ds ρ1 => k (.lst ds) ρ1, fun h => g.mono fun _ _ => h _ _⟩
theorem imp_NL {g : Pl} : ∀ σ H Q, tW L (pNL g) σ H Q → tWN L g σ H Q := fun σ H Q ⟨B, G, ρ, r, h⟩ =>
  ⟨B, G, ρ, r, g.mono (fun ds ρ1 h1 p us G1 H1 r1 h0 ne s1 d1 => by
    obtain ⟨_, hG, _, _⟩ := r1.kpAt
    exact h1 _ _ _ (r1.kpDone h0 ne) (s1.trans (same_upd hG)) (.lst upd_same (dvs_same (same_upd hG) d1))) h⟩
theorem w_NL {g : Pl} (p : PE X e (tWN L g)) : PE X e (tW L (pNL g)) := PE.imp p imp_NL
def pLcN (src : Pl) (t : Tg) (c : Pt) (el : Px) (vs : List Nat) : Pl := ⟨fun ρ k => src.f ρ fun ds ρ1 => lcP t c el vs k ds [] (wipeR ρ1 vs), fun h => src.mono fun _ _ => lcP_mono fun _ _ => h _ _⟩
theorem imp_lcN {src : Pl} {g : TG} {t : Tg} {c : Pt} {el : Px} (hg : SndV L g t vs) : ∀ σ H Q, tWN L (pLcN src t c el vs) σ H Q → tLc (tWI L src) g (tWT L c) (tW L el) vs σ H Q := by
  rintro σ H Q ⟨B, G, ρ, r, h⟩
  refine ⟨B, G, ρ, r, src.mono (fun ds ρ1 h1 J G1 H1 r1 s1 wk D nD => ?_) h⟩
  have h0 : B.H0 D = none := r1.h0 nD
  have ne : ∀ q ∈ B.ks, q.1 ≠ D := fun q hq e => by
    have := (r1.ks q hq).1
    rw [e, nD] at this
    cases this
  obtain ⟨Inv, hInv⟩ : ∃ Inv : Nat → Hp → Prop, ∀ i H', Inv i H' ↔ ∃ G' ρ' acc es, Rep L (B.kp D (.lst acc)) G' H' (L2.wipe σ vs) ρ' ∧ WpR vs ρ' ∧ Same G1 G' ∧ DvAll L G' acc es ∧
      lcP t c el vs (fun out ρ' => ∀ p us G' H', Rep L (B.kp p (.lst us)) G' H' σ ρ' → B.H0 p = none → (∀ q ∈ B.ks, q.1 ≠ p) → Same G G' → DvAll L G' us out → Q (.ref p) H') (ds.drop i) es ρ' := ⟨_, fun _ _ => Iff.rfl⟩
  refine ⟨fun i m H' => m = ds.length - i ∧ i ≤ ds.length ∧ Inv i H', ⟨ds.length, by simp, Nat.zero_le _, (hInv _ _).mpr ⟨G1, _, [], [], (r1.wipe vs).kp nD, wpR_wipe _ _, Same.refl _, .nil, by simpa using h1⟩⟩, ?_⟩
  rintro i m H' ⟨rfl, hi, q⟩
  obtain ⟨G', ρ', acc, es, r', w', s', d', hl⟩ := (hInv _ _).mp q
  have hw := wk G' H' s' r'.gh i hi
  by_cases hlt : i < ds.length
  · refine .inr ⟨(hw.2 hlt).1, Inv (i + 1), fun H2 q2 => ⟨ds.length - (i + 1), by omega, rfl, hlt, q2⟩, fun x H2 y => ?_⟩
    obtain ⟨G2, z, gr, hz, dz⟩ := (hw.2 hlt).2 x H2 y
    rw [drop_at hz] at hl
    refine hg (r'.go gr) dz (t.mono (fun ρ2 h2 σ2 r2 e => ⟨e.trans (wipe_wipe vs), _, G2, ρ2, r2, c.mono (fun b ρ3 h3 G3 H3 r3 s3 => ?_) h2⟩) hl)
    have s2 : Same G' G3 := gr.gg.trans s3
    have ew : L2.wipe σ2 vs = L2.wipe σ vs := e.trans (wipe_wipe vs)
    show if b = true then _ else _
    by_cases hb : b = true
    · rw [if_pos hb] at h3 ⊢
      refine ⟨_, G3, ρ3, r3, el.mono (fun y ρ4 ⟨hlen, h4⟩ v G4 H4 r4 s4 d4 => ?_) h3⟩
      have da : DvAll L G4 acc es := dvs_same (s2.trans s4) d'
      refine ⟨acc, r4.kpAt.1, by rw [dvs_len da]; exact hlen, (hInv _ _).mpr ⟨G4, wipeR ρ4 vs, acc ++ [v], es ++ [y], ?_, wpR_wipe _ _, s'.trans (s2.trans s4), dvs_app da (.cons d4 .nil), h4⟩⟩
      rw [← ew]
      exact (r4.wipe vs).kpChg h0 ne
    · rw [if_neg hb] at h3 ⊢
      refine (hInv _ _).mpr ⟨G3, wipeR ρ3 vs, acc, es, ?_, wpR_wipe _ _, s'.trans s2, dvs_same s2 d', h3⟩
      rw [← ew]
      exact r3.wipe vs
  · have e : i = ds.length := by omega
    subst e
    rw [List.drop_length] at hl
    exact .inl ⟨hw.1 rfl, hl _ _ _ _ (r'.unwipe w') h0 ne (s1.trans s') d'⟩
theorem imp_lc {src : Pl} {g : TG} {t : Tg} {c : Pt} {el : Px} (hg : SndV L g t vs) : ∀ σ H Q, tW L (pNL (pLcN src t c el vs)) σ H Q → tLc (tWI L src) g (tWT L c) (tW L el) vs σ H Q := fun σ H Q h => imp_lcN hg σ H Q (imp_NL σ H Q h)
abbrev pLc (src : Pl) (t : Tg) (c : Pt) (el : Px) (vs : List Nat) : Px := pNL (pLcN src t c el vs)
theorem w_lcN {src : Pl} {g : TG} {t : Tg} {c : Pt} {el : Px} (hg : SndV L g t vs) (p : PE X e (tLc (tWI L src) g (tWT L c) (tW L el) vs)) : PE X e (tWN L (pLcN src t c el vs)) := PE.imp p (imp_lcN hg)
theorem w_lc {src : Pl} {g : TG} {t : Tg} {c : Pt} {el : Px} (hg : SndV L g t vs) (p : PE X e (tLc (tWI L src) g (tWT L c) (tW L el) vs)) : PE X e (tW L (pLc src t c el vs)) := PE.imp p (imp_lc hg)
/-- name = [..] on one line -/
theorem w_setLc {i : Nat} {src : Pl} {g : TG} {t : Tg} {c : Pt} {el : Px} (hg : SndV L g t vs) (p : PS X st (tAsg (tLc (tWI L src) g (tWT L c) (tW L el) vs) (gName i))) : PS X st (tWS L (sSet i (pLc src t c el vs))) :=
  w_set (PS.imp p fun D σ H q => imp_lc hg _ _ _ q)
/-- a turn that leaves the frame: the elements -/
theorem lcP_pure {t : Tg} {c : Pt} {el : Px} {k : List Da → En → Prop} {ρ : En} (f : Da → Option Da) : ∀ {ds acc : List Da}, (∀ x ∈ ds, t.f x ρ fun ρ2 => c.f ρ2 fun b ρ3 => if b = true then el.f ρ3 fun y ρ4 => f x = some y ∧ wipeR ρ4 vs = ρ else f x = none ∧ wipeR ρ3 vs = ρ) →
    acc.length + ds.length ≤ sizeLine → k (acc ++ ds.filterMap f) ρ → lcP t c el vs k ds acc ρ
  | [], acc, _, _, h => by
    show k acc ρ
    simpa using h
  | x :: r, acc, hx, hl, h => t.mono (fun ρ2 h2 => c.mono (fun b ρ3 z => by
      have hl' : acc.length + (r.length + 1) ≤ sizeLine := hl
      by_cases hb : b = true
      · rw [if_pos hb] at z ⊢
        refine el.mono (fun y ρ4 ⟨e1, e2⟩ => ⟨by omega, ?_⟩) z
        rw [e2]
        refine lcP_pure f (fun u hu => hx u (List.mem_cons_of_mem _ hu)) (by rw [List.length_append]; simp only [List.length_singleton]; omega) ?_
        rw [List.filterMap_cons_some e1] at h
        rw [List.append_assoc]
        exact h
      · rw [if_neg hb] at z ⊢
        obtain ⟨e1, e2⟩ := z
        rw [e2]
        refine lcP_pure f (fun u hu => hx u (List.mem_cons_of_mem _ hu)) (by omega) ?_
        rw [List.filterMap_cons_none e1] at h
        exact h) h2) (hx x List.mem_cons_self)
end
end Fw
namespace Fw
open PySem PySem.Spec PyProof.Rows L2 Fr
section
variable {X : Cx} {L : Ly} {B : Bs} {G H : Hp} {σ σ' : L2.St} {ρ : En} {st : Stmt} {e : Expr}
/-! # + of lists, of tuples -/
def rCatP : R2p := ⟨fun x y k => ∃ as bs, x = .lst as ∧ y = .lst bs ∧ as.length + bs.length ≤ sizeLine ∧ k (.lst (as ++ bs)), fun h ⟨as, bs, a, b, c, q⟩ => ⟨as, bs, a, b, c, h _ q⟩⟩
theorem snd_cat : Snd2 L rCat rCatP := by
  rintro B G H σ ρ v u x y Q r d1 d2 ⟨as, bs, rfl, rfl, hl, k⟩
  cases d1 with
  | @lst a xs _ hs ha =>
    cases d2 with
    | @lst b ys _ ht hb =>
      refine ⟨a, b, xs, ys, rfl, rfl, r.gh _ _ hs, r.gh _ _ ht, by rw [dvs_len ha, dvs_len hb]; exact hl, fun p hp => ?_⟩
      have s := same_upd (r.gh.free hp) (o := .lst (xs ++ ys))
      exact k _ _ _ (r.lay hp) s (.lst upd_same (dvs_same s (dvs_app ha hb)))
def rCatTP : R2p := ⟨fun x y k => ∃ as bs, x = .tup as ∧ y = .tup bs ∧ as.length + bs.length ≤ sizeLine ∧ k (.tup (as ++ bs)), fun h ⟨as, bs, a, b, c, q⟩ => ⟨as, bs, a, b, c, h _ q⟩⟩
theorem dvs_nil {ds : List Da} (h : DvAll L G [] ds) : ds = [] := by cases h; rfl
theorem snd_catA : Snd2 L (rCatA L.K) rCatTP := by
  rintro B G H σ ρ v u x y Q r d1 d2 ⟨as, bs, rfl, rfl, hl, k⟩
  cases d1 with
  | @tup a xs _ hs ha =>
    cases d2 with
    | @tup b ys _ ht hb =>
      refine ⟨a, b, xs, ys, rfl, rfl, same_sqt r.gh hs, same_sqt r.gh ht, by rw [dvs_len ha, dvs_len hb]; exact hl, fun e => ?_, fun _ e => ?_, fun _ _ p hp => ?_⟩
      · subst e
        rw [dvs_nil ha] at k
        exact k _ G H r (Same.refl _) (.tup ht hb)
      · subst e
        rw [dvs_nil hb, List.append_nil] at k
        exact k _ G H r (Same.refl _) (.tup hs ha)
      · have s := same_upd (r.gh.free hp) (o := .tup (xs ++ ys))
        exact k _ _ _ (r.lay hp) s (.tup (.inl (.inl upd_same)) (dvs_same s (dvs_app ha hb)))
/-! # slices -/
structure R3p where
  f : Da → Option Int → Option Int → (Da → Prop) → Prop
  mono : ∀ {x : Da} {l u : Option Int} {k k' : Da → Prop}, (∀ d, k d → k' d) → f x l u k → f x l u k'
def Snd3 (L : Ly) (R : V → Option Int → Option Int → Hp → VK → Prop) (r : R3p) : Prop := ∀ {B : Bs} {G H : Hp} {σ : L2.St} {ρ : En} {v : V} {x : Da} {l u : Option Int} {Q : VK}, Rep L B G H σ ρ → Dv L G v x →
  r.f x l u (fun z => ∀ w G' H', Rep L B G' H' σ ρ → Same G G' → Dv L G' w z → Q w H') → R v l u H Q
structure Po where
  f : En → (Option Int → En → Prop) → Prop
  mono : ∀ {ρ : En} {k k' : Option Int → En → Prop}, (∀ d ρ', k d ρ' → k' d ρ') → f ρ k → f ρ k'
def tWO (L : Ly) (g : Po) : TO := fun σ H Q => ∃ B G ρ, Rep L B G H σ ρ ∧ g.f ρ fun b ρ' => ∀ G' H', Rep L B G' H' σ ρ' → Same G G' → Q b H'
theorem PO.imp {e : Option Expr} {t t' : TO} (p : PO X e t) (h : ∀ σ H Q, t' σ H Q → t σ H Q) : PO X e t' := ⟨fun pins s σ H Q I q => p.run pins s σ H Q I (h _ _ _ q)⟩
def poN : Po := ⟨fun ρ k => k none ρ, fun h => h _ _⟩
def poS (g : Px) : Po := ⟨fun ρ k => g.f ρ fun d ρ1 => ∃ i, d = .int i ∧ k (some i) ρ1, fun h => g.mono fun _ _ ⟨i, e, q⟩ => ⟨i, e, h _ _ q⟩⟩
theorem w_poN : PO X none (tWO L poN) := PO.imp po_none fun σ H Q ⟨B, G, ρ, r, h⟩ => h G H r (Same.refl _)
theorem w_poS {g : Px} (p : PE X e (tW L g)) : PO X (some e) (tWO L (poS g)) := PO.imp (po_some p) fun σ H Q ⟨B, G, ρ, r, h⟩ =>
  ⟨B, G, ρ, r, g.mono (fun d ρ1 ⟨i, e, h1⟩ v G1 H1 r1 s1 d1 => by subst e; cases d1; exact ⟨i, rfl, h1 G1 H1 r1 s1⟩) h⟩
def pSl (g : Px) (l u : Po) (r : R3p) : Px := ⟨fun ρ k => g.f ρ fun x ρ1 => l.f ρ1 fun a ρ2 => u.f ρ2 fun b ρ3 => r.f x a b fun z => k z ρ3, fun h => g.mono fun _ _ => l.mono fun _ _ => u.mono fun _ _ => r.mono fun _ => h _ _⟩
theorem w_slice {R : V → Option Int → Option Int → Hp → VK → Prop} {r : R3p} {g : Px} {l u : Po} {lo hi : Option Expr} {p2 pos : Pos} (hr : SlR X R) (hs : Snd3 L R r) (he : PE X e (tW L g)) (hl : PO X lo (tWO L l)) (hu : PO X hi (tWO L u)) :
    PE X (.Subscript e (.Slice lo hi none p2) pos) (tW L (pSl g l u r)) := PE.imp (pe_slice hr he hl hu) fun σ H Q ⟨B, G, ρ, r0, h⟩ =>
  ⟨B, G, ρ, r0, g.mono (fun x ρ1 h1 v G1 H1 r1 s1 d1 => ⟨B, G1, ρ1, r1, l.mono (fun a ρ2 h2 G2 H2 r2 s2 => ⟨B, G2, ρ2, r2, u.mono (fun b ρ3 h3 G3 H3 r3 s3 =>
    hs r3 (dv_same (s2.trans s3) d1) (r.mono (fun z h4 w G4 H4 r4 s4 d4 => h4 w G4 H4 r4 (s1.trans (s2.trans (s3.trans s4))) d4) h3)) h2⟩) h1⟩) h⟩
def cutD (xs : List Da) (lo hi : Option Int) : List Da := (xs.drop (HT.sIx xs.length 0 lo)).take (HT.sIx xs.length xs.length hi - HT.sIx xs.length 0 lo)
theorem dvs_cut {xs : List V} {ds : List Da} (h : DvAll L G xs ds) (lo hi : Option Int) : DvAll L G (cutV xs lo hi) (cutD ds lo hi) := by
  unfold cutV cutD
  rw [dvs_len h]
  exact dvs_take _ (dvs_drop _ h)
def rSlP : R3p := ⟨fun x l u k => ∃ ds, x = .lst ds ∧ k (.lst (cutD ds l u)), fun h ⟨ds, e, q⟩ => ⟨ds, e, h _ q⟩⟩
theorem snd_sl : Snd3 L (rSlL L.K) rSlP := by
  rintro B G H σ ρ v x l u Q r d1 ⟨ds, rfl, k⟩
  cases d1 with
  | @lst a xs _ hs ha =>
    refine ⟨a, xs, rfl, .inl (.inl (r.gh _ _ hs)), fun p hp => ?_⟩
    have s := same_upd (r.gh.free hp) (o := .lst (cutV xs l u))
    exact k _ _ _ (r.lay hp) s (.lst upd_same (dvs_same s (dvs_cut ha l u)))
/-! # list(..), tuple(..) -/
def rSeqP (c : List Da → Da) : R1p := ⟨fun xs k => ∃ ds, (xs = [.lst ds] ∨ xs = [.tup ds]) ∧ k (c ds), fun h ⟨ds, e, q⟩ => ⟨ds, e, h _ q⟩⟩
theorem dv1 {vs : List V} {d : Da} (h : DvAll L G vs [d]) : ∃ v, vs = [v] ∧ Dv L G v d := by
  cases h with
  | cons h t =>
    cases t
    exact ⟨_, rfl, h⟩
theorem dv_lst {v : V} {ds : List Da} (h : Dv L G v (.lst ds)) : ∃ a xs, v = .ref a ∧ G a = some (.lst xs) ∧ DvAll L G xs ds := by
  cases h with
  | lst hs ha => exact ⟨_, _, rfl, hs, ha⟩
theorem dv_tup {v : V} {ds : List Da} (h : Dv L G v (.tup ds)) : ∃ a xs, v = .ref a ∧ SqT L.K G a xs ∧ DvAll L G xs ds := by
  cases h with
  | tup hs ha => exact ⟨_, _, rfl, hs, ha⟩
theorem snd_listOf : Snd1 L (fun xs H Q => ∃ p ys, xs = [.ref p] ∧ (SqL L.K H p ys ∨ SqT L.K H p ys) ∧ ∀ l, H l = none → Q (.ref l) (upd H l (.lst ys))) (rSeqP .lst) := by
  rintro B G H σ ρ vs xs Q r dv ⟨ds, e, k⟩
  have fin : ∀ ys, DvAll L G ys ds → ∀ l, H l = none → Q (.ref l) (upd H l (.lst ys)) := fun ys ha l hl => by
    have s := same_upd (r.gh.free hl) (o := .lst ys)
    exact k _ _ _ (r.lay hl) s (.lst upd_same (dvs_same s ha))
  rcases e with rfl | rfl
  · obtain ⟨v, rfl, d⟩ := dv1 dv
    obtain ⟨a, ys, rfl, hs, ha⟩ := dv_lst d
    exact ⟨a, ys, rfl, .inl (.inl (.inl (r.gh _ _ hs))), fin ys ha⟩
  · obtain ⟨v, rfl, d⟩ := dv1 dv
    obtain ⟨a, ys, rfl, hs, ha⟩ := dv_tup d
    exact ⟨a, ys, rfl, .inr (same_sqt r.gh hs), fin ys ha⟩
theorem snd_tupOf : Snd1 L (fun xs H Q => ∃ p ys, xs = [.ref p] ∧ ((SqL L.K H p ys ∧ ∀ l, H l = none → Q (.ref l) (upd H l (.tup ys))) ∨ (SqT L.K H p ys ∧ Q (.ref p) H))) (rSeqP .tup) := by
  rintro B G H σ ρ vs xs Q r dv ⟨ds, e, k⟩
  rcases e with rfl | rfl
  · obtain ⟨v, rfl, d⟩ := dv1 dv
    obtain ⟨a, ys, rfl, hs, ha⟩ := dv_lst d
    refine ⟨a, ys, rfl, .inl ⟨.inl (.inl (r.gh _ _ hs)), fun l hl => ?_⟩⟩
    have s := same_upd (r.gh.free hl) (o := .tup ys)
    exact k _ _ _ (r.lay hl) s (.tup (.inl (.inl upd_same)) (dvs_same s ha))
  · obtain ⟨v, rfl, d⟩ := dv1 dv
    obtain ⟨a, ys, rfl, hs, ha⟩ := dv_tup d
    exact ⟨a, ys, rfl, .inr ⟨same_sqt r.gh hs, k _ G H r (Same.refl _) (.tup hs ha)⟩⟩
/-! # in, not in: numbers in a list or tuple of numbers; data in a list -/
def rInI (neg : Bool) : R2p := ⟨fun x y k => ∃ (i : Int) (ns : List Int), x = .int i ∧ (y = .lst (ns.map Da.int) ∨ y = .tup (ns.map Da.int)) ∧ k (.bl (if neg then !decide (i ∈ ns) else decide (i ∈ ns))), fun h ⟨i, ns, a, b, q⟩ => ⟨i, ns, a, b, h _ q⟩⟩
theorem dvs_intsV : ∀ {xs : List V} {ns : List Int}, DvAll L G xs (ns.map Da.int) → xs = ns.map V.int
  | [], [], _ => rfl
  | x :: xs, n :: ns, .cons h t => by
    rw [dv_int h, dvs_intsV t]
    rfl
theorem inV_ints (i : Int) : ∀ ns : List Int, inV (.int i) (ns.map V.int) = decide (i ∈ ns)
  | [] => by simp [inV]
  | n :: ns => by
    have h := inV_ints i ns
    unfold inV at h ⊢
    rw [List.map_cons, List.any_cons, h]
    have : eqV (.int n) (.int i) = decide (i = n) := by
      show (n == i) = _
      by_cases e : n = i
      · subst e; simp
      · have e' : ¬ i = n := fun z => e z.symm
        simp [e, e']
    rw [this]
    simp [List.mem_cons, Bool.decide_or]
theorem all_flat_ints : ∀ ns : List Int, (ns.map V.int).all flatV = true
  | [] => rfl
  | _ :: ns => by
    rw [List.map_cons, List.all_cons, all_flat_ints ns]
    rfl
theorem snd_inI {neg : Bool} : Snd2 L (rIn L.K neg) (rInI neg) := by
  rintro B G H σ ρ v u x y Q r d1 d2 ⟨i, ns, rfl, e, k⟩
  rw [dv_int d1]
  have fin := k (.bl (if neg then !decide (i ∈ ns) else decide (i ∈ ns))) G H r (Same.refl _) (.bl _)
  rcases e with rfl | rfl
  · obtain ⟨a, xs, rfl, hs, ha⟩ := dv_lst d2
    refine ⟨a, xs, rfl, .inl (.inl (.inl (r.gh _ _ hs))), rfl, ?_, ?_⟩
    · rw [dvs_intsV ha]; exact all_flat_ints ns
    · rw [dvs_intsV ha, inV_ints]; exact fin
  · obtain ⟨a, xs, rfl, hs, ha⟩ := dv_tup d2
    refine ⟨a, xs, rfl, .inr (same_sqt r.gh hs), rfl, ?_, ?_⟩
    · rw [dvs_intsV ha]; exact all_flat_ints ns
    · rw [dvs_intsV ha, inV_ints]; exact fin
def rInP (neg : Bool) : R2p := ⟨fun x y k => ∃ d ds, py x = some d ∧ py y = some (.list ds) ∧ SeqAt.shaped d = true ∧ SeqAt.shaped (.list ds) = true ∧ k (.bl (if neg then !ds.any fun z => PyData.eqv z d else ds.any fun z => PyData.eqv z d)), fun h ⟨d, ds, a, b, c, f, q⟩ => ⟨d, ds, a, b, c, f, h _ q⟩⟩
theorem snd_inD : Snd2 L (rInD L.K) (rInP false) := by
  rintro B G H σ ρ v u x y Q r d1 d2 ⟨d, ds, h1, h2, s1, s2, k⟩
  exact ⟨d, ds, dp_same r.gh (py_dp d1 h1), dp_same r.gh (py_dp d2 h2), s1, s2, k _ G H r (Same.refl _) (.bl _)⟩
/-! # max of a list of numbers -/
def rMaxP : R1p := ⟨fun xs k => ∃ ns : List Int, xs = [.lst (ns.map Da.int)] ∧ 0 < ns.length ∧ ∀ m, m ∈ ns → (∀ y, y ∈ ns → y ≤ m) → k (.int m), fun h ⟨ns, e, l, q⟩ => ⟨ns, e, l, fun m a b => h _ (q m a b)⟩⟩
theorem snd_max : Snd1 L (L2.rMax L.K) rMaxP := by
  rintro B G H σ ρ vs xs Q r dv ⟨ns, rfl, hl, k⟩
  obtain ⟨v, rfl, d⟩ := dv1 dv
  obtain ⟨a, ys, rfl, hs, ha⟩ := dv_lst d
  refine ⟨a, ns, rfl, ?_, hl, fun m a b => k m a b _ G H r (Same.refl _) (.int _)⟩
  rw [← dvs_intsV ha]
  exact .inl (.inl (r.gh _ _ hs))
end
end Fw
namespace Fw
open PySem PySem.Spec PyProof.Rows L2 Fr
section
variable {L : Ly} {B : Bs} {G H : Hp} {σ σ' : L2.St} {ρ : En}
/-! # defs whose first argument is the state of the draws -/
def entD (d l c : Addr) (ds : List Da) (n : Nat) : En := some (.drw d l c) :: ent ds n
theorem draw_nd {d l c : Addr} (D : Draw d l c H) : [d, l, c].Nodup := by
  obtain ⟨q1, q2, q3, q4, D⟩ := D
  have h1 : d ≠ l := fun e => by
    have := D.hd
    rw [e, D.hl] at this
    cases this
  have h2 : d ≠ c := fun e => by
    have := D.hd
    rw [e, D.hc] at this
    cases this
  simp only [List.nodup_cons, List.mem_cons, List.not_mem_nil, or_false, not_or, not_false_eq_true, List.nodup_nil, and_true]
  exact ⟨⟨h1, h2⟩, fun e => D.ne e.symm⟩
theorem own_ent (ds : List Da) (n : Nat) : own (ent ds n) = [] := by
  unfold ent own
  rw [List.flatMap_append]
  have h1 := own_dat ds
  have h2 := own_none n
  unfold own at h1 h2
  rw [h1, h2]
  rfl
theorem rep_entD {d l c : Addr} {us : List V} {ds : List Da} {n : Nat} (s : Same G H) (gd : G d = none) (gl : G l = none) (D : Draw d l c H) (h : DvAll L G us ds) : Rep L ⟨Mdl d l, G, H, [], []⟩ G H (some (.ref d) :: (us.map some ++ List.replicate n none)) (entD d l c ds n) where
  gr := Grow.refl s
  mh := fun b hb => by
    obtain ⟨t1, t2, _⟩ := draw_trk D
    rcases hb with e | e
    · rw [e]; exact ⟨t1, gd⟩
    · rw [e]; exact ⟨t2, gl⟩
  env := .cons ⟨rfl, gd, gl, D⟩ (paired_append (env_dat h) (env_none n))
  nd := by
    show ([d, l, c] ++ own (ent ds n)).Nodup
    rw [own_ent, List.append_nil]
    exact draw_nd D
  fm := fun p es hm => by
    rcases List.mem_cons.mp hm with hm | hm
    · cases hm
    · exact (rep_ent (n := n) s h).fm p es hm
  fd := fun d' l' c' hm => by
    rcases List.mem_cons.mp hm with hm | hm
    · cases hm
      exact ⟨.inl rfl, .inr rfl⟩
    · exact ((rep_ent (n := n) s h).fd d' l' c' hm).1.elim
  ks := fun q hq => by cases hq
  tb := fun p hp => by cases hp
  tg := fun p hp => by cases hp
  mt := fun p hp => by cases hp
  ft := fun T hm => by
    rcases List.mem_cons.mp hm with hm | hm
    · cases hm
    · exact (rep_ent (n := n) s h).ft T hm
theorem calD {P : Program} {w : World} {mg : Str → Option Value} {base : Heap} {x p0 : Str} {st : Stmt} {f : Addr} {fd : FuncData} {N ps : List Str} {k n : Nat} {F : Pf} (Fd : C8.Def L.K mg x st f fd) (b : Binds L.K fd (p0 :: ps) []) (S : FnScope N (p0 :: ps) (C8.fnScope st))
    (hlen : ∀ ds k, F.f ds k → ds.length = ps.length) (hN : ∀ (v : V) (vs : List V), vs.length = ps.length → start N (v :: vs) = some v :: (vs.map some ++ List.replicate n none))
    (hbody : ∀ (cdv : Value) (A : Around) (outer : List Env) (s : Shared) (H : Hp) (E : XK), Room k (A.deeper (envOfC x (C8.fnScope st) s.heap.objs.size f cdv)) → A.guards = some [] →
      ∃ g : Ps, PSs (cxOf C8.CX0 P w L.K mg base N x (C8.fnScope st) f cdv A outer s H E).nox (C8.fnBody st) (tWS L g) ∧
        ∀ d l c ds kk, F.f ds kk → g.f (entD d l c ds n) (fun ρ => some (.drw d l c) ∈ ρ ∧ kk .non) (fun z ρ => some (.drw d l c) ∈ ρ ∧ kk z) (fun _ => False) (fun _ => False)) : CalG P w L.K mg base C8.CX0 (k + 1) x (spD L F) := by
  refine calG0 Fd b S ?_ ?_
  · rintro vs H Q E ⟨G, d, l, c, us, ds, rfl, s, _, _, _, dv, h⟩
    show us.length + 1 = ps.length + 1
    rw [dvs_len dv, hlen ds _ h]
  · rintro cdv A outer s H vs Q E hr hgu ⟨G, d, l, c, us, ds, rfl, sg, gd, gl, D, dv, h⟩
    obtain ⟨g, hp, hF⟩ := hbody cdv A outer s H E hr hgu
    refine ⟨_, hp, ?_⟩
    rw [hN (.ref d) us ((dvs_len dv).trans (hlen ds _ h))]
    refine ⟨⟨Mdl d l, G, H, [], []⟩, G, entD d l c ds n, rep_entD sg gd gl D dv, g.mono ?_ ?_ ?_ ?_ (hF d l c ds _ h)⟩
    · rintro ρ' ⟨hm, q⟩ σ' G' H' r' _
      exact q .non G' H' r'.gr (draw_mem r' hm).1 .non
    · rintro x' ρ' ⟨hm, q⟩ v σ' G' H' r' _ d'
      exact q v G' H' r'.gr (draw_mem r' hm).1 d'
    · intro _ z
      exact z.elim
    · intro _ z
      exact z.elim
/-! # the draws' own defs, so said -/
def fTake : Pf := ⟨fun xs k => ∃ n : Int, xs = [.int n] ∧ 0 < n ∧ n.natAbs.log2 < 9000 ∧ ∀ r : Int, 0 ≤ r → r < n → k (.int r), fun h ⟨n, a, b, c, q⟩ => ⟨n, a, b, c, fun r x y => h _ (q r x y)⟩⟩
theorem take_D {vs : List V} {Q : VK} {E : XK} (h : spD L fTake vs H Q E) : spTake vs H Q E := by
  obtain ⟨G, d, l, c, us, ds, rfl, s, gd, gl, D, dv, n, rfl, h0, hl, k⟩ := h
  obtain ⟨v, rfl, dn⟩ := dv1 dv
  rw [dv_int dn]
  refine ⟨d, l, c, n, rfl, h0, hl, D, fun r H' r0 r1 kp tr D' => ?_⟩
  have g : Grow (Mdl d l) G H G H' := ⟨Same.refl _, fun b o e => kp b o (fun z => by
    rcases z with z | z
    · rw [z, gd] at e; cases e
    · rw [z, gl] at e; cases e) (s _ _ e), kp, tr, fun _ _ z => z⟩
  exact k r r0 r1 _ G H' g D' (.int r)
def fPick : Pf := ⟨fun xs k => ∃ ds : List Da, xs = [.lst ds] ∧ ds ≠ [] ∧ ds.length ≤ 1000000 ∧ ∀ d ∈ ds, k d, fun h ⟨ds, a, b, c, q⟩ => ⟨ds, a, b, c, fun d m => h _ (q d m)⟩⟩
theorem pick_D {vs : List V} {Q : VK} {E : XK} (h : spD L fPick vs H Q E) : spPick L.K vs H Q E := by
  obtain ⟨G, d, l, c, us, ds, rfl, s, gd, gl, D, dv, es, rfl, h0, hl, k⟩ := h
  obtain ⟨v, rfl, dn⟩ := dv1 dv
  obtain ⟨a, xs, rfl, hs, ha⟩ := dv_lst dn
  refine ⟨d, l, c, a, xs, G, rfl, .inl (.inl hs), fun e => h0 ?_, by rw [dvs_len ha]; exact hl, s, gd, gl, D, fun i v H' hi g D' => ?_⟩
  · subst e
    exact dvs_nil ha
  · obtain ⟨z, hz, dz⟩ := dvs_get ha hi
    exact k z (List.mem_of_getElem? hz) v G H' g D' dz
end
end Fw
namespace Fw
open PySem PySem.Spec PyProof.Rows L2 Fr
section
variable {X : Cx} {L : Ly} {B B1 B2 : Bs} {G H : Hp} {σ σ' : L2.St} {ρ : En} {st : Stmt} {e : Expr} {es : List Expr}
/-! # new lists, and what is stored -/
theorem w_nlst {g : Pl} {pos : Pos} (h : PA X es (tWA L g)) : PE X (.List es pos) (tWN L ⟨fun ρ k => g.f ρ fun ds ρ1 => ds.length ≤ sizeLine ∧ k ds ρ1, fun h => g.mono fun _ _ z => ⟨z.1, h _ _ z.2⟩⟩) := PE.imp (pe_lst h) fun σ H Q ⟨B, G, ρ, r, q⟩ =>
  ⟨B, G, ρ, r, g.mono (fun ds ρ1 h1 vs G1 H1 r1 s1 d1 => ⟨by rw [dvs_len d1]; exact h1.1, fun p hp => h1.2 p vs G1 _ (r1.kp hp) (r1.h0 hp) (fun q hq e => by
    have := (r1.ks q hq).1
    rw [e, hp] at this
    cases this) s1 d1⟩) q⟩
def pSq (g : Px) : Pl := ⟨fun ρ k => g.f ρ fun d ρ1 => ∃ ds, (d = .lst ds ∨ d = .tup ds) ∧ k ds ρ1, fun h => g.mono fun _ _ ⟨ds, e, q⟩ => ⟨ds, e, h _ _ q⟩⟩
theorem w_nlistOf {g : Px} (p : PE X e (tCB (fun xs H Q => ∃ p ys, xs = [.ref p] ∧ (SqL L.K H p ys ∨ SqT L.K H p ys) ∧ ∀ l, H l = none → Q (.ref l) (upd H l (.lst ys))) (tCons (tW L g) tNil))) : PE X e (tWN L (pSq g)) := PE.imp p fun σ H Q ⟨B, G, ρ, r, q⟩ =>
  ⟨B, G, ρ, r, g.mono (fun d ρ1 ⟨ds, e, h1⟩ v G1 H1 r1 s1 d1 => by
    have fin : ∀ ys, DvAll L G1 ys ds → ∀ l, H1 l = none → Q (.ref l) (upd H1 l (.lst ys)) := fun ys ha l hl => h1 l ys G1 _ (r1.kp hl) (r1.h0 hl) (fun q hq e => by
      have := (r1.ks q hq).1
      rw [e, hl] at this
      cases this) s1 ha
    rcases e with rfl | rfl
    · obtain ⟨a, ys, rfl, hs, ha⟩ := dv_lst d1
      exact ⟨a, ys, rfl, .inl (.inl (.inl (r1.gh _ _ hs))), fin ys ha⟩
    · obtain ⟨a, ys, rfl, hs, ha⟩ := dv_tup d1
      exact ⟨a, ys, rfl, .inr (same_sqt r1.gh hs), fin ys ha⟩) q⟩
/-- a value to be stored: data, or a new list -/
inductive Nv where
  | dat (d : Da)
  | new (ds : List Da)
structure Pz where
  f : En → (Nv → En → Prop) → Prop
  mono : ∀ {ρ : En} {k k' : Nv → En → Prop}, (∀ d ρ', k d ρ' → k' d ρ') → f ρ k → f ρ k'
def Hold (L : Ly) (B B' : Bs) (G : Hp) (v : V) : Nv → Prop
  | .dat d => B' = B ∧ Dv L G v d
  | .new ds => ∃ p us, v = .ref p ∧ B' = B.kp p (.lst us) ∧ B.H0 p = none ∧ (∀ q ∈ B.ks, q.1 ≠ p) ∧ DvAll L G us ds
theorem Hold.same {G' : Hp} {v : V} {z : Nv} (s : Same G G') (h : Hold L B B1 G v z) : Hold L B B1 G' v z := by
  cases z with
  | dat d => exact ⟨h.1, dv_same s h.2⟩
  | new ds =>
    obtain ⟨p, us, a, b, c, n, d⟩ := h
    exact ⟨p, us, a, b, c, n, dvs_same s d⟩
def tWZ (L : Ly) (g : Pz) : TE := fun σ H Q => ∃ B G ρ, Rep L B G H σ ρ ∧ g.f ρ fun z ρ' => ∀ v B' G' H', Rep L B' G' H' σ ρ' → Same G G' → Hold L B B' G' v z → Q v H'
def zD (g : Px) : Pz := ⟨fun ρ k => g.f ρ fun d ρ1 => k (.dat d) ρ1, fun h => g.mono fun _ _ => h _ _⟩
def zN (g : Pl) : Pz := ⟨fun ρ k => g.f ρ fun d ρ1 => k (.new d) ρ1, fun h => g.mono fun _ _ => h _ _⟩
theorem w_zD {g : Px} (p : PE X e (tW L g)) : PE X e (tWZ L (zD g)) := PE.imp p fun σ H Q ⟨B, G, ρ, r, h⟩ =>
  ⟨B, G, ρ, r, g.mono (fun d ρ1 h1 v G1 H1 r1 s1 d1 => h1 v B G1 H1 r1 s1 ⟨rfl, d1⟩) h⟩
theorem w_zN {g : Pl} (p : PE X e (tWN L g)) : PE X e (tWZ L (zN g)) := PE.imp p fun σ H Q ⟨B, G, ρ, r, h⟩ =>
  ⟨B, G, ρ, r, g.mono (fun ds ρ1 h1 p us G1 H1 r1 h0 ne s1 d1 => h1 (.ref p) _ G1 H1 r1 s1 ⟨p, us, rfl, rfl, h0, ne, d1⟩) h⟩
/-- what is kept besides goes into a slot -/
theorem Rep.kpG {p : Addr} {us : List V} {ds : List Da} (r : Rep L (B.kp p (.lst us)) G H σ ρ) (h0 : B.H0 p = none) (d : DvAll L G us ds) (i : Nat) (ne : ∀ q ∈ B.ks, q.1 ≠ p) : Rep L B G H (σ.set i (some (.ref p))) (ρ.set i (some (.gro p ds))) := by
  obtain ⟨hx, hG, hM, ho⟩ := r.kpAt
  refine ⟨r.gr, r.mh, paired_set (a := some (V.ref p)) (b := some (.gro p ds)) ⟨rfl, hG, us, hx, d⟩ i r.env, nd_set r.nd ho, ?_, ?_, ?_, r.tb, fun t ht => ⟨(r.tg t ht).1, fun z => ?_, fun q hq => (r.tg t ht).2.2 q (List.mem_cons_of_mem _ hq)⟩, r.mt, fun T hm => (mem_set hm).elim (r.ft T) fun z => by cases z⟩
  · intro q es hm
    rcases mem_set hm with hm | hm
    · exact r.fm q es hm
    · cases hm
      exact h0
  · intro d l c hm
    rcases mem_set hm with hm | hm
    · exact r.fd d l c hm
    · cases hm
  · intro q hq
    obtain ⟨h1, h2, h3, h4⟩ := r.ks q (List.mem_cons_of_mem _ hq)
    refine ⟨h1, h2, h3, fun z => ?_⟩
    rcases own_in z with z | z
    · exact h4 z
    · have e : q.1 = p := by simpa [slA] using z
      exact ne q hq e
  · rcases own_in z with z | z
    · exact (r.tg t ht).2.1 z
    · have e : t.1 = p := by simpa [slA] using z
      exact (r.tg t ht).2.2 (p, .lst us) List.mem_cons_self e.symm
def sto (i : Nat) : Nv → En → (En → Prop) → Prop
  | .dat d, ρ, k => k (ρ.set i (some (.dat d)))
  | .new ds, ρ, k => ∀ p, p ∉ own ρ → k (ρ.set i (some (.gro p ds)))
theorem sto_mono {i : Nat} {z : Nv} {k k' : En → Prop} (h : ∀ r, k r → k' r) (q : sto i z ρ k) : sto i z ρ k' := by
  cases z with
  | dat d => exact h _ q
  | new ds => exact fun p hp => h _ (q p hp)
theorem Rep.sto {v : V} {z : Nv} {i : Nat} {k : En → Prop} (r : Rep L B1 G H σ ρ) (h : Hold L B B1 G v z) (q : Fw.sto i z ρ k) : ∃ ρ', Rep L B G H (σ.set i (some v)) ρ' ∧ k ρ' := by
  cases z with
  | dat d =>
    obtain ⟨rfl, hd⟩ := h
    exact ⟨_, r.setD hd, q⟩
  | new ds =>
    obtain ⟨p, us, rfl, rfl, h0, ne, d⟩ := h
    exact ⟨_, r.kpG h0 d i ne, q p r.kpAt.2.2.2⟩
def sSetZ (i : Nat) (g : Pz) : Ps := ⟨fun ρ nx _ _ _ => g.f ρ fun z ρ1 => Fw.sto i z ρ1 nx, fun h _ _ _ => g.mono fun _ _ => sto_mono h⟩
theorem w_setZ {i : Nat} {g : Pz} (p : PS X st (tAsg (tWZ L g) (gName i))) : PS X st (tWS L (sSetZ i g)) := PS.imp p fun D σ H ⟨B, G, ρ, r, h⟩ =>
  ⟨B, G, ρ, r, g.mono (fun z ρ1 h1 v B1 G1 H1 r1 s1 d1 => by
    obtain ⟨ρ2, r2, k⟩ := r1.sto d1 h1
    exact k _ G1 H1 r2 s1) h⟩
def sPar (i j : Nat) (ga gb : Pz) : Ps := ⟨fun ρ nx _ _ _ => ga.f ρ fun z1 ρ1 => gb.f ρ1 fun z2 ρ2 => Fw.sto j z2 ρ2 fun ρ3 => Fw.sto i z1 ρ3 nx, fun h _ _ _ => ga.mono fun _ _ => gb.mono fun _ _ => sto_mono fun _ => sto_mono h⟩
theorem w_par {i j : Nat} {ga gb : Pz} (hij : i ≠ j) (p : PS X st (tPar i j (tCons (tWZ L ga) (tCons (tWZ L gb) tNil)))) : PS X st (tWS L (sPar i j ga gb)) := PS.imp p fun D σ H ⟨B, G, ρ, r, h⟩ =>
  ⟨B, G, ρ, r, ga.mono (fun z1 ρ1 h1 v B1 G1 H1 r1 s1 d1 => ⟨B1, G1, ρ1, r1, gb.mono (fun z2 ρ2 h2 u B2 G2 H2 r2 s2 d2 => by
    refine ⟨v, u, rfl, ?_⟩
    obtain ⟨ρ3, r3, h3⟩ := r2.sto d2 h2
    obtain ⟨ρ4, r4, h4⟩ := r3.sto (d1.same s2) h3
    rw [List.set_comm _ _ hij]
    exact h4 _ G2 H2 r4 (s1.trans s2)) h1⟩) h⟩
def sPar3 (i j l : Nat) (ga gb gc : Pz) : Ps := ⟨fun ρ nx _ _ _ => ga.f ρ fun z1 ρ1 => gb.f ρ1 fun z2 ρ2 => gc.f ρ2 fun z3 ρ3 => Fw.sto l z3 ρ3 fun ρ4 => Fw.sto j z2 ρ4 fun ρ5 => Fw.sto i z1 ρ5 nx,
  fun h _ _ _ => ga.mono fun _ _ => gb.mono fun _ _ => gc.mono fun _ _ => sto_mono fun _ => sto_mono fun _ => sto_mono h⟩
theorem w_par3 {i j l : Nat} {ga gb gc : Pz} (hij : i ≠ j) (hil : i ≠ l) (hjl : j ≠ l) (p : PS X st (tPar3 i j l (tCons (tWZ L ga) (tCons (tWZ L gb) (tCons (tWZ L gc) tNil))))) : PS X st (tWS L (sPar3 i j l ga gb gc)) := PS.imp p fun D σ H ⟨B, G, ρ, r, h⟩ =>
  ⟨B, G, ρ, r, ga.mono (fun z1 ρ1 h1 v B1 G1 H1 r1 s1 d1 => ⟨B1, G1, ρ1, r1, gb.mono (fun z2 ρ2 h2 u B2 G2 H2 r2 s2 d2 => ⟨B2, G2, ρ2, r2, gc.mono (fun z3 ρ3 h3 w B3 G3 H3 r3 s3 d3 => by
    refine ⟨v, u, w, rfl, ?_⟩
    obtain ⟨ρ4, r4, h4⟩ := r3.sto d3 h3
    obtain ⟨ρ5, r5, h5⟩ := r4.sto (d2.same s3) h4
    obtain ⟨ρ6, r6, h6⟩ := r5.sto (d1.same (s2.trans s3)) h5
    have e : ((σ.set i (some v)).set j (some u)).set l (some w) = ((σ.set l (some w)).set j (some u)).set i (some v) := by
      rw [List.set_comm _ _ hij, List.set_comm _ _ hil, List.set_comm (i := j) (j := l) _ _ hjl]
    rw [e]
    exact h6 _ G3 H3 r6 (s1.trans (s2.trans s3))) h2⟩) h1⟩) h⟩
/-! # tests joined -/
theorem w_pt {g : Pt} (p : PW X e (tWT L g)) : PT X e (tWT L g) := p.pt
theorem w_and {g g' : Pt} (p : PW X e (tAnd (tWT L g) (tWT L g'))) : PW X e (tWT L (pAnd g g')) := PW.imp p tWT_and
theorem w_or {g g' : Pt} (p : PW X e (tOr (tWT L g) (tWT L g'))) : PW X e (tWT L (pOr g g')) := PW.imp p tWT_or
theorem w_notT {g : Pt} (p : PT X e (tNot (tWT L g))) : PT X e (tWT L (pNot g)) := PT.imp p fun σ H Q ⟨B, G, ρ, r, q⟩ =>
  ⟨B, G, ρ, r, g.mono (fun b ρ1 h1 G1 H1 r1 s1 => h1 G1 H1 r1 s1) q⟩
theorem calG_imp {P : Program} {w : World} {K : Frag} {mg : Str → Option Value} {base : Heap} {CX : CXT} {k : Nat} {x : Str} {sp sp' : Sp} (c : CalG P w K mg base CX k x sp) (h : ∀ vs H Q E, sp' vs H Q E → sp vs H Q E) : CalG P w K mg base CX k x sp' := by
  obtain ⟨f, fd, ps, F, hm, kp, b⟩ := c.ex
  exact ⟨f, fd, ps, ⟨fun vs H Q E q => F.len vs H Q E (h vs H Q E q), fun A outer s H args us vs Q E a1 a2 a3 a4 a5 q => F.run A outer s H args us vs Q E a1 a2 a3 a4 a5 (h _ _ _ _ q)⟩, hm, kp, b⟩
end
end Fw
namespace Fw
open PySem PySem.Spec PyProof.Rows L2 Fr
section
variable {X : Cx} {L : Ly} {B B1 B2 : Bs} {G H : Hp} {σ σ' : L2.St} {ρ : En} {st : Stmt} {e : Expr} {es : List Expr} {vs : List Nat}
theorem snd_add : Snd2 L (rI0 fun i j => .int (i + j)) rAdd := snd_I0 fun _ _ _ => .int _
theorem snd_sub : Snd2 L (rI0 fun i j => .int (i - j)) rSub := snd_I0 fun _ _ _ => .int _
theorem snd_mulW : Snd2 L (rI CMulW fun i j => .int (i * j)) rMulW := snd_I (fun _ _ h => h) fun _ _ _ => .int _
def rMul := r2I CMul fun i j => .int (i * j)
theorem snd_mul : Snd2 L (rI CMul fun i j => .int (i * j)) rMul := snd_I (fun _ _ h => h) fun _ _ _ => .int _
theorem snd_modN : Snd2 L (rI (fun _ j => j ≠ 0) fun i j => .int (i.fmod j)) rModN := snd_I (fun _ _ h => h) fun _ _ _ => .int _
def rFdivN := r2I CDivN fun i j => .int (i.fdiv j)
theorem snd_fdivN : Snd2 L (rI CDivN fun i j => .int (i.fdiv j)) rFdivN := snd_I (fun _ _ h => h) fun _ _ _ => .int _
theorem snd_lt : Snd2 L (rI0 fun i j => .bl (decide (i < j))) rLt := snd_I0 fun _ _ _ => .bl _
theorem snd_le : Snd2 L (rI0 fun i j => .bl (decide (i ≤ j))) rLe := snd_I0 fun _ _ _ => .bl _
theorem snd_gt : Snd2 L (rI0 fun i j => .bl (decide (j < i))) rGt := snd_I0 fun _ _ _ => .bl _
theorem snd_ge : Snd2 L (rI0 fun i j => .bl (decide (j ≤ i))) rGe := snd_I0 fun _ _ _ => .bl _
def rShl := r2I CPow fun i j => .int (i * 2 ^ j.toNat)
theorem snd_shl : Snd2 L (rI CPow fun i j => .int (i * 2 ^ j.toNat)) rShl := snd_I (fun _ _ h => h) fun _ _ _ => .int _
def rShr := r2I (fun _ j => 0 ≤ j) fun i j => .int (i / 2 ^ j.toNat)
theorem snd_shr : Snd2 L (rI (fun _ j => 0 ≤ j) fun i j => .int (i / 2 ^ j.toNat)) rShr := snd_I (fun _ _ h => h) fun _ _ _ => .int _
def rAndI := r2I (fun _ _ => True) fun i j => .int (Builtin.bitAnd i j)
theorem snd_andI : Snd2 L (rI0 fun i j => .int (Builtin.bitAnd i j)) rAndI := snd_I0 fun _ _ _ => .int _
def rOrI := r2I (fun _ _ => True) fun i j => .int (Builtin.bitOr i j)
theorem snd_orI : Snd2 L (rI0 fun i j => .int (Builtin.bitOr i j)) rOrI := snd_I0 fun _ _ _ => .int _
def rXorI := r2I (fun _ _ => True) fun i j => .int (Builtin.bitXor i j)
theorem snd_xorI : Snd2 L (rI0 fun i j => .int (Builtin.bitXor i j)) rXorI := snd_I0 fun _ _ _ => .int _
/-- -e -/
def pNeg (g : Px) : Px := ⟨fun ρ k => g.f ρ fun d ρ1 => ∃ i, d = .int i ∧ k (.int (-i)) ρ1, fun h => g.mono fun _ _ ⟨i, e, q⟩ => ⟨i, e, h _ _ q⟩⟩
theorem w_neg {g : Px} (p : PE X e (tUn (rU fun i => .int (-i)) (tW L g))) : PE X e (tW L (pNeg g)) := PE.imp p fun σ H Q ⟨B, G, ρ, r, h⟩ =>
  ⟨B, G, ρ, r, g.mono (fun d ρ1 ⟨i, e, h1⟩ v G1 H1 r1 s1 d1 => by
    subst e
    rw [dv_int d1]
    exact ⟨i, rfl, h1 _ G1 H1 r1 s1 (.int _)⟩) h⟩
/-- x is None, x is not None -/
theorem dv_non_iff {v : V} {d : Da} (h : Dv L G v d) (hd : ∀ n xs, d ≠ .obj n xs) : decide (v = V.non) = (match d with | .non => true | _ => false) := by
  cases h with
  | non => rfl
  | bl b => simp
  | int i => simp
  | str x => simp
  | lst _ _ => simp
  | tup _ _ => simp
  | obj _ _ => exact absurd rfl (hd _ _)
/-- found != [], a list that may still change -/
def pNeG (i : Nat) : Pt := ⟨fun ρ k => ∃ p ds, ρ[i]? = some (some (.gro p ds)) ∧ (∃ es, pys ds = some es ∧ SeqAt.shaped (.list es) = true) ∧ k (!ds.isEmpty) ρ, fun h ⟨p, ds, e, a, q⟩ => ⟨p, ds, e, a, h _ _ q⟩⟩
theorem pys_len : ∀ {ds : List Da} {es : List PyData}, pys ds = some es → es.isEmpty = ds.isEmpty
  | [], _, h => by
    cases h
    rfl
  | x :: r, es, h => by
    have h' : ((py x).bind fun d => (pys r).map fun ds => d :: ds) = some es := by simpa only [pys] using h
    obtain ⟨d, h1, e2⟩ := Option.bind_eq_some_iff.mp h'
    obtain ⟨fs, h2, rfl⟩ := Option.map_eq_some_iff.mp e2
    rfl
theorem eqv_listN (es : List PyData) : PyData.eqv (.list es) (.list []) = es.isEmpty := by
  cases es with
  | nil => rfl
  | cons a r => rfl
theorem w_neG {i : Nat} (p : PT X e (tTest (tOp (rNeD L.K) (tVar i) (tLst tNil)))) : PT X e (tWT L (pNeG i)) := PT.imp p fun σ H Q ⟨B, G, ρ, r, a, ds, hi, ⟨es, he, hs⟩, h⟩ => by
  obtain ⟨hv, hG, _, _, us, hu, dv⟩ := gro_at r hi
  refine ⟨_, hv, Nat.zero_le _, fun p hp => ?_⟩
  have s : Same H (upd H p (.lst [])) := same_upd hp
  refine ⟨.list es, .list [], .lst (.inl (.inl (s _ _ hu))) ?_, .lst (.inl (.inl upd_same)) .nil, hs, rfl, ?_⟩
  · exact pys_dp (dvs_same (r.gh.trans s) dv) he
  · rw [eqv_listN, pys_len he]
    exact ⟨_, rfl, h _ _ (r.lay hp) (same_upd (r.gh.free hp))⟩
/-- xs[k] = v -/
def sPut (i : Nat) (gv gi : Px) : Ps := ⟨fun ρ nx _ _ _ => gv.f ρ fun d ρ1 => ∃ p ds, ρ1[i]? = some (some (.gro p ds)) ∧ gi.f ρ1 fun y ρ2 => ∃ ds1 n j, ρ2[i]? = some (some (.gro p ds1)) ∧ y = .int n ∧ ixN ds1.length n = some j ∧ nx (ρ2.set i (some (.gro p (ds1.set j d)))),
  fun h _ _ _ => gv.mono fun _ _ ⟨p, ds, e, q⟩ => ⟨p, ds, e, gi.mono (fun _ _ ⟨a, b, c, d1, d2, d3, d4⟩ => ⟨a, b, c, d1, d2, d3, h _ d4⟩) q⟩⟩
theorem w_put {i : Nat} {gv gi : Px} (p : PS X st (tAsg (tW L gv) (gSub (tVar i) (tW L gi) rSetL))) : PS X st (tWS L (sPut i gv gi)) := PS.imp p fun D σ H ⟨B, G, ρ, r, h⟩ =>
  ⟨B, G, ρ, r, gv.mono (fun d ρ1 ⟨p, ds, hi, h1⟩ v G1 H1 r1 s1 d1 => by
    obtain ⟨hv, _⟩ := gro_at r1 hi
    refine ⟨_, hv, B, G1, ρ1, r1, gi.mono (fun y ρ2 ⟨ds1, n, j, hi2, e, hj, h2⟩ u G2 H2 r2 s2 d2 => ?_) h1⟩
    subst e
    rw [dv_int d2]
    obtain ⟨_, _, _, _, us, hu, du⟩ := gro_at r2 hi2
    refine ⟨p, us, n, j, rfl, rfl, hu, by rw [dvs_len du]; exact hj, ?_⟩
    exact h2 _ G2 _ (r2.chgG hi2 (dvs_set j du (dv_same s2 d1))) (s1.trans s2)) h⟩
/-- name = [..] on one line, the list may grow -/
theorem w_setLcN {i : Nat} {src : Pl} {g : TG} {t : Tg} {c : Pt} {el : Px} (hg : SndV L g t vs) (p : PS X st (tAsg (tLc (tWI L src) g (tWT L c) (tW L el) vs) (gName i))) : PS X st (tWS L (sSetZ i (zN (pLcN src t c el vs)))) := by
  refine w_setZ (PS.imp p fun D σ H q => imp_lcN hg _ _ _ ?_)
  obtain ⟨B, G, ρ, r, h⟩ := q
  exact ⟨B, G, ρ, r, (pLcN src t c el vs).mono (fun ds ρ1 h1 p us G1 H1 r1 h0 ne s1 d1 => h1 (.ref p) _ G1 H1 r1 s1 ⟨p, us, rfl, rfl, h0, ne, d1⟩) h⟩
end
end Fw
namespace Fw
open PySem PySem.Spec PyProof.Rows L2 Fr
/-! # loops by an invariant -/
theorem loopF_from {t : Tg} {g : Ps} {nx : En → Prop} {rt : Da → En → Prop} {ds : List Da} (I : Nat → En → Prop)
    (hs : ∀ j x ρ', ds[j]? = some x → I j ρ' → t.f x ρ' fun ρ1 => g.f ρ1 (I (j + 1)) rt nx (I (j + 1))) (hd : ∀ ρ', I ds.length ρ' → nx ρ') :
    ∀ (m j : Nat) (ρ : En), j + m = ds.length → I j ρ → loopF t g nx rt (ds.drop j) ρ
  | 0, j, ρ, e, h => by
    have e : j = ds.length := by omega
    subst e
    rw [List.drop_length]
    exact hd ρ h
  | m + 1, j, ρ, e, h => by
    have hj : j < ds.length := by omega
    rw [List.drop_eq_getElem_cons hj]
    have ih := fun ρ' h' => loopF_from (t := t) (g := g) (rt := rt) I hs hd m (j + 1) ρ' (by omega) h'
    exact t.mono (fun ρ1 z => g.mono ih (fun _ _ z => z) (fun _ z => z) ih z) (hs j _ ρ (List.getElem?_eq_getElem hj) h)
theorem loopF_inv {t : Tg} {g : Ps} {nx : En → Prop} {rt : Da → En → Prop} {ds : List Da} {ρ : En} (I : Nat → En → Prop) (h0 : I 0 ρ)
    (hs : ∀ j x ρ', ds[j]? = some x → I j ρ' → t.f x ρ' fun ρ1 => g.f ρ1 (I (j + 1)) rt nx (I (j + 1))) (hd : ∀ ρ', I ds.length ρ' → nx ρ') : loopF t g nx rt ds ρ := by
  have := loopF_from I hs hd ds.length 0 ρ (by omega) h0
  simpa using this
theorem bite {b : Bool} {A C : Prop} (h1 : b = true → A) (h2 : b = false → C) : if b = true then A else C := by
  cases b with
  | true => exact h1 rfl
  | false => exact h2 rfl
/-! # comprehensions over told things -/
theorem lcP_src {α : Type} {t : Tg} {c : Pt} {el : Px} {vs : List Nat} {k : List Da → En → Prop} {ρ : En} (emb : α → Da) (p : α → Bool) (out : α → Da) : ∀ {src : List α} {acc : List Da},
    (∀ a ∈ src, t.f (emb a) ρ fun ρ2 => c.f ρ2 fun b ρ3 => b = p a ∧ (p a = true → el.f ρ3 fun y ρ4 => y = out a ∧ wipeR ρ4 vs = ρ) ∧ (p a = false → wipeR ρ3 vs = ρ)) →
    acc.length + src.length ≤ sizeLine → k (acc ++ (src.filter p).map out) ρ → lcP t c el vs k (src.map emb) acc ρ
  | [], acc, _, _, h => by
    show k acc ρ
    simpa using h
  | x :: r, acc, hx, hl, h => t.mono (fun ρ2 h2 => c.mono (fun b ρ3 z => by
      have hl' : acc.length + (r.length + 1) ≤ sizeLine := hl
      obtain ⟨e, z1, z2⟩ := z
      subst e
      by_cases hb : p x = true
      · rw [if_pos hb]
        refine el.mono (fun y ρ4 ⟨e1, e2⟩ => ⟨by omega, ?_⟩) (z1 hb)
        show lcP t c el vs k (r.map emb) _ _
        rw [e2, e1]
        refine lcP_src emb p out (fun u hu => hx u (List.mem_cons_of_mem _ hu)) (by rw [List.length_append]; simp only [List.length_singleton]; omega) ?_
        rw [List.filter_cons_of_pos hb, List.map_cons] at h
        rw [List.append_assoc]
        exact h
      · rw [if_neg hb]
        show lcP t c el vs k (r.map emb) _ _
        rw [z2 (by simpa using hb)]
        refine lcP_src emb p out (fun u hu => hx u (List.mem_cons_of_mem _ hu)) (by omega) ?_
        rw [List.filter_cons_of_neg hb] at h
        exact h) h2) (hx x List.mem_cons_self)
theorem lcP_all {α : Type} {t : Tg} {el : Px} {vs : List Nat} {k : List Da → En → Prop} {ρ : En} (emb : α → Da) (out : α → Da) {src : List α}
    (hx : ∀ a ∈ src, t.f (emb a) ρ fun ρ2 => el.f ρ2 fun y ρ4 => y = out a ∧ wipeR ρ4 vs = ρ) (hl : src.length ≤ sizeLine) (h : k (src.map out) ρ) : lcP t pYes el vs k (src.map emb) [] ρ := by
  refine lcP_src emb (fun _ => true) out (fun a ha => ?_) (by simpa using hl) ?_
  · exact t.mono (fun ρ2 h2 => ⟨rfl, fun _ => h2, fun e => by cases e⟩) (hx a ha)
  · have e : src.filter (fun _ => true) = src := List.filter_eq_self.mpr fun _ _ => rfl
    rw [e]
    exact h
/-! # numbers, tuples of numbers, lists of such -/
abbrev ti (ns : List Int) : Da := .tup (ns.map Da.int)
abbrev li (ns : List Int) : Da := .lst (ns.map Da.int)
abbrev lti (ts : List (List Int)) : Da := .lst (ts.map ti)
abbrev pti (ns : List Int) : PyData := .tuple (ns.map PyData.int)
theorem pys_ints : ∀ ns : List Int, pys (ns.map Da.int) = some (ns.map PyData.int)
  | [] => rfl
  | n :: ns => by
    simp only [List.map_cons, pys, py, pys_ints ns, Option.bind_some, Option.map_some]
theorem py_ti (ns : List Int) : py (ti ns) = some (pti ns) := by
  simp only [ti, py, pys_ints, Option.map_some]
theorem py_li (ns : List Int) : py (li ns) = some (.list (ns.map PyData.int)) := by
  simp only [li, py, pys_ints, Option.map_some]
theorem pys_tis : ∀ ts : List (List Int), pys (ts.map ti) = some (ts.map pti)
  | [] => rfl
  | n :: ns => by
    simp only [List.map_cons, pys, py_ti, pys_tis ns, Option.bind_some, Option.map_some]
theorem py_lti (ts : List (List Int)) : py (lti ts) = some (.list (ts.map pti)) := by
  simp only [lti, py, pys_tis, Option.map_some]
theorem depth_ints (ns : List Int) : PyData.depthAll (ns.map PyData.int) ≤ 1 := by
  induction ns with
  | nil => simp [PyData.depthAll]
  | cons n r ih => simp only [List.map, PyData.depthAll, PyData.depth]; omega
theorem lay_ints (ns : List Int) : PyData.canLayAll0 (ns.map PyData.int) = true := by
  induction ns with
  | nil => simp [PyData.canLayAll0]
  | cons n r ih => simp only [List.map, PyData.canLayAll0, PyData.canLay0, ih, Bool.and_self]
theorem depth_tis (ts : List (List Int)) : PyData.depthAll (ts.map pti) ≤ 2 := by
  induction ts with
  | nil => simp [PyData.depthAll]
  | cons n r ih =>
    have := depth_ints n
    simp only [List.map, PyData.depthAll, PyData.depth]
    omega
theorem lay_tis (ts : List (List Int)) : PyData.canLayAll0 (ts.map pti) = true := by
  induction ts with
  | nil => simp [PyData.canLayAll0]
  | cons n r ih => simp only [List.map, PyData.canLayAll0, PyData.canLay0, ih, lay_ints, Bool.and_self]
theorem shaped_ti (ns : List Int) : SeqAt.shaped (pti ns) = true := by
  unfold SeqAt.shaped
  rw [Bool.and_eq_true]
  refine ⟨by simp only [pti, PyData.canLay0, lay_ints], decide_eq_true ?_⟩
  have := depth_ints ns
  simp only [pti, PyData.depth]
  omega
theorem shaped_lti (ts : List (List Int)) : SeqAt.shaped (.list (ts.map pti)) = true := by
  unfold SeqAt.shaped
  rw [Bool.and_eq_true]
  refine ⟨by simp only [PyData.canLay0, lay_tis], decide_eq_true ?_⟩
  have := depth_tis ts
  simp only [PyData.depth]
  omega
theorem eqvAll_ints : ∀ a b : List Int, PyData.eqvAll (a.map PyData.int) (b.map PyData.int) = decide (a = b)
  | [], [] => by simp [PyData.eqvAll]
  | [], _ :: _ => by simp [PyData.eqvAll]
  | _ :: _, [] => by simp [PyData.eqvAll]
  | x :: a, y :: b => by
    have h : PyData.eqvAll (a.map PyData.int) (b.map PyData.int) = decide (a = b) := eqvAll_ints a b
    simp only [List.map_cons, PyData.eqvAll, PyData.eqv, h]
    by_cases h1 : x = y <;> by_cases h2 : a = b <;> simp [h1, h2]
theorem eqv_ti (a b : List Int) : PyData.eqv (pti a) (pti b) = decide (a = b) := by
  simp only [pti, PyData.eqv, eqvAll_ints]
theorem eqvAll_tis : ∀ a b : List (List Int), PyData.eqvAll (a.map pti) (b.map pti) = decide (a = b)
  | [], [] => by simp [PyData.eqvAll]
  | [], _ :: _ => by simp [PyData.eqvAll]
  | _ :: _, [] => by simp [PyData.eqvAll]
  | x :: a, y :: b => by
    have h := eqvAll_tis a b
    simp only [List.map_cons, PyData.eqvAll, eqv_ti, h]
    by_cases h1 : x = y <;> by_cases h2 : a = b <;> simp [h1, h2]
theorem eqv_lti (a b : List (List Int)) : PyData.eqv (.list (a.map pti)) (.list (b.map pti)) = decide (a = b) := by
  simp only [PyData.eqv, eqvAll_tis]
theorem any_ti (a : List Int) : ∀ ts : List (List Int), ((ts.map pti).any fun z => PyData.eqv z (pti a)) = decide (a ∈ ts)
  | [] => by simp
  | t :: ts => by
    rw [List.map_cons, List.any_cons, any_ti a ts, eqv_ti]
    by_cases h : t = a
    · subst h; simp
    · have h' : ¬ a = t := fun e => h e.symm
      simp [h, h']
theorem atI_map {α β : Type} (f : α → β) (xs : List α) (i : Int) : atI (xs.map f) i = (atI xs i).map f := by
  unfold atI
  rw [List.length_map]
  cases ixN xs.length i with
  | none => rfl
  | some j => simp
theorem atI_nat {α : Type} {xs : List α} {j : Nat} {x : α} (h : xs[j]? = some x) : atI xs (j : Int) = some x := by
  have hj : j < xs.length := (List.getElem?_eq_some_iff.mp h).1
  unfold atI ixN
  rw [if_pos (by omega), if_pos (by omega)]
  exact h
theorem atI_last {α : Type} {xs : List α} {x : α} (h : xs.getLast? = some x) : atI xs (-1) = some x := by
  have h0 : xs ≠ [] := by
    intro e
    subst e
    cases h
  have hl : 0 < xs.length := List.length_pos_iff.mpr h0
  unfold atI ixN
  rw [if_neg (by omega), if_pos (by omega)]
  have e : (-1 + (xs.length : Int)).toNat = xs.length - 1 := by omega
  show xs[(-1 + (xs.length : Int)).toNat]? = _
  rw [e, ← List.getLast?_eq_getElem?]
  exact h
end Fw
namespace Fw
open PySem PySem.Spec PyProof.Rows L2 Fr
/-! # set of a tuple of numbers, sorted again -/
def rSetTI (K : Frag) (w : World) : List V → Hp → VK → Prop := fun xs H Q => ∃ (p : Addr) (ns : List Int), xs = [V.ref p] ∧ SqT K H p (ns.map V.int) ∧ ns.length ≤ 1000 ∧
  ∀ a n, H a = none → n ≤ ns.length → Q (.ref a) (upd H a (SetO w a (fun j => decide (j ∈ ns)) n))
section
variable {X : Cx} {L : Ly} {e : Expr}
theorem dvs_of_ints {G : Hp} : ∀ ms : List Int, DvAll L G (ms.map V.int) (ms.map Da.int)
  | [] => .nil
  | m :: r => .cons (.int m) (dvs_of_ints r)
theorem cr_setTI (hc : X.calm = true) : CallR X (.type "set") (rSetTI X.K X.w) := by
  intro pins s σ H xs us Q I r h
  obtain ⟨p, ns, rfl, hq, hl, q⟩ := h
  rw [Vals.ref1 r]
  obtain ⟨its, rv, pt, hz⟩ := I.tuple hq
  have hi : IntsAre its.toArray.toList ns := by
    have := rv.ints
    simpa using this
  refine call_set_tupI ns (I.ok.hd hc) (show s.heap.IsTuple p its.toArray from pt) hi (by unfold scanBound; omega) fun h' tk c R hcn k => ?_
  exact ⟨.ref _, upd H s.heap.objs.size (SetO X.w s.heap.objs.size (fun j => decide (j ∈ ns)) c), I.laid (t' := tk) k (Nat.le_refl _) (setO_new R), rfl, q _ c (I.hok.fresh (Nat.le_refl _)) hcn⟩
def pSortSet (g : Px) : Px := ⟨fun ρ k => g.f ρ fun d ρ1 => ∃ ns, d = ti ns ∧ ns.length < 64 ∧ ∀ ms : List Int, ms.Pairwise (· < ·) → (∀ j, j ∈ ms ↔ j ∈ ns) → k (li ms) ρ1, fun h => g.mono fun _ _ ⟨ns, e, l, q⟩ => ⟨ns, e, l, fun ms a b => h _ _ (q ms a b)⟩⟩
theorem w_sortSet {w : World} {g : Px} (p : PE X e (tCB (rSortedSet w) (tCons (tCB (rSetTI L.K w) (tCons (tW L g) tNil)) tNil))) : PE X e (tW L (pSortSet g)) := PE.imp p fun σ H Q ⟨B, G, ρ, r, q⟩ =>
  ⟨B, G, ρ, r, g.mono (fun d ρ1 ⟨ns, e, hl, k⟩ v G1 H1 r1 s1 d1 => by
    subst e
    obtain ⟨a, xs, rfl, hs, ha⟩ := dv_tup d1
    rw [dvs_intsV ha] at hs
    refine ⟨a, ns, rfl, same_sqt r1.gh hs, by omega, fun b n hb hn => ⟨b, _, n, rfl, upd_same, by omega, fun ms c m1 m2 m3 hc => ?_⟩⟩
    have r2 := r1.lay (o := SetO w b (fun j => decide (j ∈ ns)) n) hb
    have s2 := same_upd (r1.gh.free hb) (o := SetO w b (fun j => decide (j ∈ ns)) n)
    have r3 := r2.lay (o := .lst (ms.map V.int)) hc
    have s3 := same_upd (r2.gh.free hc) (o := .lst (ms.map V.int))
    refine k ms m1 (fun j => by rw [m2 j, decide_eq_true_eq]) _ _ _ r3 (s1.trans (s2.trans s3)) (.lst upd_same (dvs_of_ints ms))) q⟩
/-- a, b = e -/
def sAsg (t : Tg) (g : Px) : Ps := ⟨fun ρ nx _ _ _ => g.f ρ fun d ρ1 => t.f d ρ1 nx, fun h _ _ _ => g.mono fun _ _ => t.mono h⟩
theorem w_asg {st : Stmt} {gt : TG} {t : Tg} {g : Px} (hg : SndG L gt t) (p : PS X st (tAsg (tW L g) gt)) : PS X st (tWS L (sAsg t g)) := PS.imp p fun D σ H ⟨B, G, ρ, r, h⟩ =>
  ⟨B, G, ρ, r, g.mono (fun d ρ1 h1 v G1 H1 r1 s1 d1 => hg r1 d1 (t.mono (fun ρ2 h2 σ2 r2 => h2 σ2 G1 H1 r2 s1) h1)) h⟩
end
end Fw
namespace Fw
open PySem PySem.Spec PyProof.Rows L2 Fr
section
variable {X : Cx} {L : Ly} {B : Bs} {G H : Hp} {σ : L2.St} {ρ : En} {e : Expr}
/-! # list(range(n)) -/
theorem dvs_rgV (n : Int) : DvAll L G (L2.rgV 0 n) (rgD 0 n.toNat) := by
  unfold L2.rgV rgD
  rw [Int.sub_zero]
  have : ∀ is : List Nat, DvAll L G (is.map fun i : Nat => V.int (0 + (i : Nat))) (is.map fun i : Nat => Da.int (0 + (i : Nat))) := by
    intro is
    induction is with
    | nil => exact .nil
    | cons i r ih => exact .cons (.int _) ih
  exact this _
def pLRg (g : Px) : Pl := ⟨fun ρ k => g.f ρ fun d ρ1 => ∃ n : Int, d = .int n ∧ 0 ≤ n ∧ n ≤ 16777216 ∧ k (rgD 0 n.toNat) ρ1, fun h => g.mono fun _ _ ⟨n, e, a, b, q⟩ => ⟨n, e, a, b, h _ _ q⟩⟩
theorem w_nlistRg {g : Px} (p : PE X e (tLstRg (tRg1 (tW L g)))) : PE X e (tWN L (pLRg g)) := PE.imp p fun σ H Q ⟨B, G, ρ, r, h⟩ =>
  ⟨B, G, ρ, r, g.mono (fun d ρ1 ⟨n, e, h0, h2, h1⟩ v G1 H1 r1 s1 d1 => by
    subst e
    rw [dv_int d1]
    refine ⟨n, rfl, RgOk.of_le (by omega) h2 (by omega) h0, fun q hq => ?_⟩
    exact h1 q _ G1 _ (r1.kp hq) (r1.h0 hq) (fun z hz e => by
      have := (r1.ks z hz).1
      rw [e, hq] at this
      cases this) s1 (dvs_rgV n)) h⟩
theorem w_listRg {g : Px} (p : PE X e (tLstRg (tRg1 (tW L g)))) : PE X e (tW L (pNL (pLRg g))) := w_NL (w_nlistRg p)
/-- x not in xs, data -/
theorem snd_notInD : Snd2 L (rNotInD L.K) (rInP true) := by
  rintro B G H σ ρ v u x y Q r d1 d2 ⟨d, ds, h1, h2, s1, s2, k⟩
  exact ⟨d, ds, dp_same r.gh (py_dp d1 h1), dp_same r.gh (py_dp d2 h2), s1, s2, k _ G H r (Same.refl _) (.bl _)⟩
end
end Fw
namespace Fv
open PySem PySem.Spec PyProof.Rows L2 Fr Fw
def topS (i : Nat) : Stmt := PySem.Challenge.pw_flatrooms_k02_ranks_and_closures.main.body.getD i (.Pass ⟨0, 0, 0, 0⟩)
structure Bw (mg : Str → Option Value) : Prop where
  abs : mg "abs" = none
  int : mg "int" = none
  len : mg "len" = none
  list : mg "list" = none
  tuple : mg "tuple" = none
  max : mg "max" = none
  range : mg "range" = none
  sorted : mg "sorted" = none
  set : mg "set" = none
  zip : mg "zip" = none
  enumerate : mg "enumerate" = none
theorem start_eq {N : List Str} {vs : List V} {n : Nat} (h : N.length = vs.length + n) : L2.start N vs = vs.map some ++ List.replicate n none := by
  unfold L2.start
  rw [h, Nat.add_sub_cancel_left]
section
variable {P : Program} {w : World} {L : Ly} {mg : Str → Option Value} {base : Heap} {f : Addr} {fd : FuncData}
/-! ### _law_less, _law_shared -/
abbrev s_law_less : Stmt := topS 43
theorem sc_law_less : FnScope ["lot", "other", "item"] ["lot", "other"] (C8.fnScope s_law_less) := C8.fnScope_by (by decide +kernel)
abbrev s_law_shared : Stmt := topS 44
theorem sc_law_shared : FnScope ["lot", "other", "item"] ["lot", "other"] (C8.fnScope s_law_shared) := C8.fnScope_by (by decide +kernel)
def lessL (a b : List Int) : List Int := a.filter fun i => decide (i ∉ b)
def sharedL (a b : List Int) : List Int := a.filter fun i => decide (i ∈ b)
def f2T (g : List Int → List Int → Da) : Pf := ⟨fun xs k => ∃ a b, xs = [ti a, ti b] ∧ a.length ≤ 64 ∧ k (g a b), fun h ⟨a, b, e, l, q⟩ => ⟨a, b, e, l, h _ q⟩⟩
theorem ok_law_shared (Fd : C8.Def L.K mg "_law_shared" s_law_shared f fd) (b : Binds L.K fd ["lot", "other"] []) (B : Bw mg) : CalG P w L.K mg base C8.CX0 1 "_law_shared" (spF L (f2T fun a b => ti (sharedL a b))) := by
  have sc := sc_law_shared
  refine calF (n := 1) Fd b sc ?_ (fun vs h => start_eq (by rw [h]; rfl)) fun cdv A outer s H E hr hgu => ?_
  · rintro ds k ⟨a, b, rfl, _⟩
    rfl
  refine ⟨_, w_one (w_ret (ps_ret (w_tCB snd_tupOf (pe_callTy call_tuple_of (by rfl) B.tuple (by decide +kernel) (w_cons (w_lc (sndv_N (by decide)) (pe_lc (own := [("item", 2)]) (by rfl) sc.nd (w_it (pi_tup (w_v (pv 0)))) (blkOk_by (by kernel_rfl)) (fun _ _ _ _ _ => (pg_name (i := 2) sc.nd rfl (by first | exact Or.inl rfl | exact Or.inr rfl))) (fun _ _ _ _ _ => w_tone (w_cmpT op_in_seq snd_inI (w_v (pv 2)) (w_v (pv 1)) (by rfl))) (fun _ _ _ _ _ => (w_v (pv 2))))) w_nil))))), ?_⟩
  rintro ds kk ⟨a, c, rfl, hl, k⟩
  refine ⟨_, rfl, _, rfl, lcP_src Da.int (fun i => decide (i ∈ c)) Da.int (fun i _ => ?_) (by simp only [List.length_nil, Nat.zero_add]; exact Nat.le_trans hl (by decide)) ?_⟩
  · refine ⟨_, rfl, _, rfl, i, c, rfl, .inr rfl, _, rfl, ?_, fun _ => ⟨_, rfl, rfl, rfl⟩, fun _ => rfl⟩
    by_cases hc : i ∈ c <;> simp [hc]
  · exact ⟨_, .inl rfl, k⟩
theorem ok_law_less (Fd : C8.Def L.K mg "_law_less" s_law_less f fd) (b : Binds L.K fd ["lot", "other"] []) (B : Bw mg) : CalG P w L.K mg base C8.CX0 1 "_law_less" (spF L (f2T fun a b => ti (lessL a b))) := by
  have sc := sc_law_less
  refine calF (n := 1) Fd b sc ?_ (fun vs h => start_eq (by rw [h]; rfl)) fun cdv A outer s H E hr hgu => ?_
  · rintro ds k ⟨a, b, rfl, _⟩
    rfl
  refine ⟨_, w_one (w_ret (ps_ret (w_tCB snd_tupOf (pe_callTy call_tuple_of (by rfl) B.tuple (by decide +kernel) (w_cons (w_lc (sndv_N (by decide)) (pe_lc (own := [("item", 2)]) (by rfl) sc.nd (w_it (pi_tup (w_v (pv 0)))) (blkOk_by (by kernel_rfl)) (fun _ _ _ _ _ => (pg_name (i := 2) sc.nd rfl (by first | exact Or.inl rfl | exact Or.inr rfl))) (fun _ _ _ _ _ => w_tone (w_cmpT op_notIn_seq snd_inI (w_v (pv 2)) (w_v (pv 1)) (by rfl))) (fun _ _ _ _ _ => (w_v (pv 2))))) w_nil))))), ?_⟩
  rintro ds kk ⟨a, c, rfl, hl, k⟩
  refine ⟨_, rfl, _, rfl, lcP_src Da.int (fun i => decide (i ∉ c)) Da.int (fun i _ => ?_) (by simp only [List.length_nil, Nat.zero_add]; exact Nat.le_trans hl (by decide)) ?_⟩
  · refine ⟨_, rfl, _, rfl, i, c, rfl, .inr rfl, _, rfl, ?_, fun _ => ⟨_, rfl, rfl, rfl⟩, fun _ => rfl⟩
    by_cases hc : i ∈ c <;> simp [hc]
  · exact ⟨_, .inl rfl, k⟩
/-! ### _law_rank_in -/
abbrev s_law_rank_in : Stmt := topS 45
theorem sc_law_rank_in : FnScope ["bases_here", "lot", "base_here"] ["bases_here", "lot"] (C8.fnScope s_law_rank_in) := C8.fnScope_by (by decide +kernel)
def maxN : List Nat → Nat
  | [] => 0
  | n :: r => Nat.max n (maxN r)
def rankL (bs : List (List Int)) (a : List Int) : Nat := maxN (bs.map fun b => (sharedL a b).length)
theorem maxN_le {n : Nat} : ∀ {l : List Nat}, n ∈ l → n ≤ maxN l
  | m :: r, h => by
    rcases List.mem_cons.mp h with e | h
    · subst e
      exact Nat.le_max_left _ _
    · exact Nat.le_trans (maxN_le h) (Nat.le_max_right _ _)
theorem maxN_mem : ∀ {l : List Nat}, l ≠ [] → maxN l ∈ l
  | [n], _ => by simp [maxN]
  | n :: m :: r, _ => by
    have ih := maxN_mem (l := m :: r) (by simp)
    by_cases h : n ≤ maxN (m :: r)
    · have e : maxN (n :: m :: r) = maxN (m :: r) := Nat.max_eq_right h
      rw [e]
      exact List.mem_cons_of_mem _ ih
    · have e : maxN (n :: m :: r) = n := Nat.max_eq_left (by omega)
      rw [e]
      exact List.mem_cons_self
def fRank : Pf := ⟨fun xs k => ∃ bs a, xs = [lti bs, ti a] ∧ bs ≠ [] ∧ bs.length ≤ 1000 ∧ a.length ≤ 64 ∧ k (.int (rankL bs a)), fun h ⟨bs, a, e, n, l, m, q⟩ => ⟨bs, a, e, n, l, m, h _ q⟩⟩
theorem ok_law_rank_in (Fd : C8.Def L.K mg "_law_rank_in" s_law_rank_in f fd) (b : Binds L.K fd ["bases_here", "lot"] []) (B : Bw mg) (c_law_shared : CalG P w L.K mg base C8.CX0 1 "_law_shared" (spF L (f2T fun a b => ti (sharedL a b)))) :
    CalG P w L.K mg base C8.CX0 2 "_law_rank_in" (spF L fRank) := by
  have sc := sc_law_rank_in
  refine calF (n := 1) Fd b sc ?_ (fun vs h => start_eq (by rw [h]; rfl)) fun cdv A outer s H E hr hgu => ?_
  · rintro ds k ⟨a, b, rfl, _⟩
    rfl
  refine ⟨_, w_one (w_ret (ps_ret (w_tCB snd_max (pe_callB (cr_max rfl) (by rfl) B.max (by decide +kernel) (w_cons (w_lc (sndv_N (by decide)) (pe_lc (own := [("base_here", 2)]) (by rfl) sc.nd (w_il (pi_list (w_v (pv 0)))) (blkOk_by (by kernel_rfl)) (fun _ _ _ _ _ => (pg_name (i := 2) sc.nd rfl (by first | exact Or.inl rfl | exact Or.inr rfl))) (fun _ _ _ _ _ => w_tnil) (fun _ _ _ _ _ => (w_tCB snd_len (pe_callB call_len_seq (by rfl) B.len (by decide +kernel) (w_cons (w_call c_law_shared hr (by decide) hgu rfl (w_cons (w_v (pv 1)) (w_cons (w_v (pv 2)) w_nil))) w_nil)))))) w_nil))))), ?_⟩
  rintro ds kk ⟨bs, a, rfl, hne, hl, hm, k⟩
  refine ⟨_, rfl, _, rfl, lcP_all ti (fun c => .int (sharedL a c).length) (fun c _ => ?_) (Nat.le_trans hl (by decide)) ?_⟩
  · refine ⟨_, rfl, _, rfl, a, c, rfl, hm, _, .inr rfl, ?_, rfl⟩
    rw [List.length_map]
  · refine ⟨bs.map fun c => ((sharedL a c).length : Int), ?_, ?_, fun m h1 h2 => ?_⟩
    · rw [List.map_map]
      rfl
    · rw [List.length_map]
      exact List.length_pos_iff.mpr hne
    · have e : m = (rankL bs a : Int) := by
        have hn : (bs.map fun b => (sharedL a b).length) ≠ [] := by simpa using hne
        have h3 := maxN_mem hn
        obtain ⟨c, hc, e3⟩ := List.mem_map.mp h3
        have h4 := h2 ((sharedL a c).length : Int) (List.mem_map.mpr ⟨c, hc, rfl⟩)
        obtain ⟨c', hc', e4⟩ := List.mem_map.mp h1
        have h5 : (sharedL a c').length ≤ rankL bs a := maxN_le (List.mem_map.mpr ⟨c', hc', rfl⟩)
        have h6 : rankL bs a = (sharedL a c).length := e3.symm
        omega
      rw [e]
      exact k
end
end Fv
namespace Fv
open PySem PySem.Spec PyProof.Rows L2 Fr Fw
section
variable {P : Program} {w : World} {L : Ly} {mg : Str → Option Value} {base : Heap} {f : Addr} {fd : FuncData}
/-! ### _law_lots -/
abbrev s_law_lots : Stmt := topS 40
theorem sc_law_lots : FnScope ["things_here", "length", "found", "lap", "more", "lot", "item"] ["things_here", "length"] (C8.fnScope s_law_lots) := C8.fnScope_by (by decide +kernel)
/-- may the thing stand behind the lot -/
def okN (lot : List Int) (i : Int) : Bool := match lot.getLast? with
  | none => true
  | some j => decide (j < i)
def stepL (ns : List Int) (ts : List (List Int)) : List (List Int) := ts.flatMap fun t => (ns.filter (okN t)).map fun i => t ++ [i]
def lotsL (ns : List Int) : Nat → List (List Int)
  | 0 => [[]]
  | k + 1 => stepL ns (lotsL ns k)
theorem stepL_len (ns : List Int) (hn : ns.length ≤ 8) : ∀ ts : List (List Int), (stepL ns ts).length ≤ 8 * ts.length
  | [] => by simp [stepL]
  | t :: r => by
    have ih := stepL_len ns hn r
    have h1 : (ns.filter (okN t)).length ≤ ns.length := List.length_filter_le _ _
    unfold stepL at ih ⊢
    rw [List.flatMap_cons, List.length_append, List.length_map, List.length_cons]
    omega
theorem lotsL_len (ns : List Int) (hn : ns.length ≤ 8) : ∀ k, (lotsL ns k).length ≤ 8 ^ k
  | 0 => by simp [lotsL]
  | k + 1 => by
    have h := stepL_len ns hn (lotsL ns k)
    have ih := lotsL_len ns hn k
    show (stepL ns (lotsL ns k)).length ≤ 8 ^ (k + 1)
    rw [Nat.pow_succ]
    omega
theorem lotsL_each (ns : List Int) : ∀ (k : Nat) (t : List Int), t ∈ lotsL ns k → t.length = k
  | 0, t, h => by
    have e : t = [] := by simpa [lotsL] using h
    rw [e]
    rfl
  | k + 1, t, h => by
    obtain ⟨u, hu, h⟩ := List.mem_flatMap.mp (show t ∈ (lotsL ns k).flatMap _ from h)
    obtain ⟨i, _, rfl⟩ := List.mem_map.mp h
    rw [List.length_append, lotsL_each ns k u hu]
    rfl
theorem stepL_app (ns : List Int) (a b : List (List Int)) : stepL ns (a ++ b) = stepL ns a ++ stepL ns b := by
  unfold stepL
  rw [List.flatMap_append]
theorem pow8 {k : Nat} (h : k ≤ 8) : 8 ^ k ≤ sizeLine := by
  have : 8 ^ k ≤ 8 ^ 8 := Nat.pow_le_pow_right (by decide) h
  exact Nat.le_trans this (by decide)
def fLots : Pf := ⟨fun xs k => ∃ (ns : List Int) (n : Nat), xs = [li ns, .int n] ∧ ns.length ≤ 8 ∧ n ≤ 8 ∧ k (lti (lotsL ns n)), fun h ⟨ns, n, e, a, b, q⟩ => ⟨ns, n, e, a, b, h _ q⟩⟩
theorem ok_law_lots (Fd : C8.Def L.K mg "_law_lots" s_law_lots f fd) (b : Binds L.K fd ["things_here", "length"] []) (B : Bw mg) : CalG P w L.K mg base C8.CX0 1 "_law_lots" (spF L fLots) := by
  have sc := sc_law_lots
  refine calF (n := 5) Fd b sc ?_ (fun vs h => start_eq (by rw [h]; rfl)) fun cdv A outer s H E hr hgu => ?_
  · rintro ds k ⟨a, b, rfl, _⟩
    rfl
  refine ⟨_, w_seq (w_set (ps_set (i := 2) sc.nd rfl (by first | exact Or.inl rfl | exact Or.inr rfl) (w_lst (w_cons (w_tup w_nil) w_nil))))
  (w_seq (w_forI snd_tgN (ps_for PassesOwn.never rfl (w_ir1 (pi_range1 rfl B.range (w_cons (w_v (pv 1)) w_nil))) (pg_name (i := 3) sc.nd rfl (by first | exact Or.inl rfl | exact Or.inr rfl))
   (w_seq (w_set (ps_set (i := 4) sc.nd rfl (by first | exact Or.inl rfl | exact Or.inr rfl) (w_lst w_nil)))
    (w_seq (w_forI snd_tgN (ps_for PassesOwn.never rfl (w_il (pi_list (w_v (pv 2)))) (pg_name (i := 5) sc.nd rfl (by first | exact Or.inl rfl | exact Or.inr rfl))
     (w_one (w_set (ps_set (i := 4) sc.nd rfl (by first | exact Or.inl rfl | exact Or.inr rfl) (w_op op_cat snd_cat (w_v (pv 4)) (w_lc (sndv_N (by decide)) (pe_lc (own := [("item", 6)]) (by rfl) sc.nd (w_il (pi_list (w_v (pv 0)))) (blkOk_by (by kernel_rfl)) (fun _ _ _ _ _ => (pg_name (i := 6) sc.nd rfl (by first | exact Or.inl rfl | exact Or.inr rfl))) (fun _ _ _ _ _ => w_tone (w_pt (w_or (pw_or (w_cmpT (op_eqD hr.units) snd_eq (w_v (pv 5)) (w_tup w_nil) (nomark _)) (pw_or1 (w_cmpT op_gt snd_gt (w_v (pv 6)) (w_ix ix_tup snd_ixT (w_v (pv 5)) (w_neg (pe_un un_neg (w_int (kd := 0) pe_int))) (fun _ _ => rfl)) (nomark _))))))) (fun _ _ _ _ _ => (w_op op_catA snd_catA (w_v (pv 5)) (w_tup (w_cons (w_v (pv 6)) w_nil))))))))))))
    (w_one (w_set (ps_set (i := 2) sc.nd rfl (by first | exact Or.inl rfl | exact Or.inr rfl) (w_v (pv 4)))))))))
  (w_one (w_ret (ps_ret (w_v (pv 2)))))), ?_⟩
  rintro ds kk ⟨ns, n, rfl, hn, hk, k⟩
  refine ⟨by decide, by decide, _, rfl, (n : Int), rfl, by omega, by omega, ?_⟩
  refine loopF_inv (fun j ρ => ∃ a b c, ρ = [some (.dat (li ns)), some (.dat (.int n)), some (.dat (lti (lotsL ns j))), a, b, c, none]) ⟨none, none, none, rfl⟩ ?_ ?_
  · rintro j x ρ hj ⟨a, b, c, rfl⟩
    refine ⟨by decide, _, rfl, _, rfl, ?_⟩
    have hjn : j < n := by
      have := (List.getElem?_eq_some_iff.mp hj).1
      simpa [rgD] using this
    have hlen : (stepL ns (lotsL ns j)).length ≤ sizeLine := Nat.le_trans (lotsL_len ns hn (j + 1)) (pow8 (by omega))
    refine loopF_inv (fun i ρ => ∃ x c, ρ = [some (.dat (li ns)), some (.dat (.int n)), some (.dat (lti (lotsL ns j))), x, some (.dat (lti (stepL ns ((lotsL ns j).take i)))), c, none]) ⟨_, _, rfl⟩ ?_ ?_
    · rintro i y ρ hi ⟨x', c', rfl⟩
      obtain ⟨lot, hlot, rfl⟩ : ∃ lot, (lotsL ns j)[i]? = some lot ∧ ti lot = y := by
        rw [List.getElem?_map] at hi
        exact Option.map_eq_some_iff.mp hi
      have estep : stepL ns ((lotsL ns j).take (i + 1)) = stepL ns ((lotsL ns j).take i) ++ (ns.filter (okN lot)).map fun z => lot ++ [z] := by
        rw [take_more hlot, stepL_app]
        simp [stepL]
      have hsub : (stepL ns ((lotsL ns j).take (i + 1))).length ≤ sizeLine := by
        refine Nat.le_trans ?_ hlen
        have e : stepL ns (lotsL ns j) = stepL ns ((lotsL ns j).take (i + 1)) ++ stepL ns ((lotsL ns j).drop (i + 1)) := by
          rw [← stepL_app, List.take_append_drop]
        rw [e, List.length_append]
        omega
      have hlot8 : lot.length ≤ 8 := by
        rw [lotsL_each ns j lot (List.mem_of_getElem? hlot)]
        omega
      refine ⟨_, rfl, _, rfl, _, rfl, lcP_src Da.int (okN lot) (fun z => ti (lot ++ [z])) (fun z _ => ?_) (by simp only [List.length_nil, Nat.zero_add]; exact Nat.le_trans hn (by decide)) ?_⟩
      · refine ⟨_, rfl, by decide, pti lot, pti [], py_ti _, rfl, shaped_ti _, shaped_ti [], _, rfl, ?_⟩
        have key : (okN lot z = true → (p2 (pV 5) (pTup (pK (pV 6) pN)) rCatTP).f [some (.dat (li ns)), some (.dat (.int n)), some (.dat (lti (lotsL ns j))), x', some (.dat (lti (stepL ns ((lotsL ns j).take i)))), some (.dat (ti lot)), some (.dat (.int z))]
            fun y ρ4 => y = ti (lot ++ [z]) ∧ wipeR ρ4 [6] = [some (.dat (li ns)), some (.dat (.int n)), some (.dat (lti (lotsL ns j))), x', some (.dat (lti (stepL ns ((lotsL ns j).take i)))), some (.dat (ti lot)), none]) := fun _ => by
          refine ⟨_, rfl, _, rfl, (by decide : 1 ≤ sizeLine), _, _, rfl, rfl, ?_, ?_, rfl⟩
          · rw [List.length_map]
            exact Nat.le_trans (Nat.add_le_add_right hlot8 1) (by decide)
          · simp [ti]
        rw [eqv_ti]
        refine bite (fun hl => ?_) fun hl => ?_
        · have hl : lot = [] := of_decide_eq_true hl
          have ho : okN lot z = true := by
            subst hl
            rfl
          exact ⟨ho.symm, key, fun e => by rw [ho] at e; cases e⟩
        · have hl : ¬ lot = [] := of_decide_eq_false hl
          obtain ⟨q, hq⟩ : ∃ q, lot.getLast? = some q := by
            cases h : lot.getLast? with
            | none => exact absurd (List.getLast?_eq_none_iff.mp h) hl
            | some q => exact ⟨q, rfl⟩
          have ho : okN lot z = decide (q < z) := by
            unfold okN
            rw [hq]
          refine ⟨_, rfl, _, rfl, 1, rfl, _, _, Da.int q, rfl, rfl, ?_, z, q, rfl, rfl, trivial, _, rfl, ho.symm, key, fun _ => rfl⟩
          rw [atI_map, atI_last hq]
          rfl
      · refine ⟨_, _, rfl, rfl, ?_, ?_⟩
        · rw [List.length_map, List.nil_append, List.length_map]
          rw [estep, List.length_append, List.length_map] at hsub
          exact hsub
        · have e : Da.lst ((stepL ns ((lotsL ns j).take i)).map ti ++ ([] ++ (ns.filter (okN lot)).map fun z => ti (lot ++ [z]))) = lti (stepL ns ((lotsL ns j).take (i + 1))) := by
            rw [estep, lti, List.map_append, List.map_map, List.nil_append]
            rfl
          rw [e]
          exact ⟨_, _, rfl⟩
    · rintro ρ ⟨x', c', rfl⟩
      rw [List.length_map, List.take_length]
      exact ⟨_, rfl, _, _, _, rfl⟩
  · rintro ρ ⟨a, b, c, rfl⟩
    refine ⟨_, rfl, ?_⟩
    have e : (rgD 0 (n : Int).toNat).length = n := by simp [rgD]
    rw [e]
    exact k
end
end Fv
namespace Fv
open PySem PySem.Spec PyProof.Rows L2 Fr Fw
section
variable {P : Program} {w : World} {L : Ly} {mg : Str → Option Value} {base : Heap} {f : Addr} {fd : FuncData}
/-! ### _law_shuffled -/
abbrev s_law_shuffled : Stmt := topS 37
theorem sc_law_shuffled : FnScope ["draw", "some", "left", "found"] ["draw", "some"] (C8.fnScope s_law_shuffled) := C8.fnScope_by (by decide +kernel)
/-- any list of some of these can be compared -/
def Shp (ds : List Da) : Prop := ∀ es : List Da, (∀ e ∈ es, e ∈ ds) → ∃ fs, pys es = some fs ∧ SeqAt.shaped (.list fs) = true
theorem shp_lti (ts : List (List Int)) : Shp (ts.map ti) := by
  intro es h
  obtain ⟨us, e⟩ : ∃ us : List (List Int), es = us.map ti := by
    induction es with
    | nil => exact ⟨[], rfl⟩
    | cons x r ih =>
      obtain ⟨us, e⟩ := ih fun y hy => h y (List.mem_cons_of_mem _ hy)
      obtain ⟨u, _, e1⟩ := List.mem_map.mp (h x List.mem_cons_self)
      exact ⟨u :: us, by rw [List.map_cons, e1, ← e]⟩
  subst e
  exact ⟨_, pys_tis us, shaped_lti us⟩
def fShuf : Pf := ⟨fun xs k => ∃ ds, xs = [.lst ds] ∧ ds.length ≤ 1000000 ∧ Shp ds ∧ ∀ es, es.Perm ds → k (.lst es), fun h ⟨ds, e, l, s, q⟩ => ⟨ds, e, l, s, fun es p => h _ (q es p)⟩⟩
theorem perm_erase {α : Type} : ∀ {l : List α} {j : Nat} {x : α}, l[j]? = some x → (x :: l.eraseIdx j).Perm l
  | [], _, _, h => by simp at h
  | a :: r, 0, x, h => by
    simp at h
    subst h
    exact List.Perm.refl _
  | a :: r, j + 1, x, h => by
    have ih := perm_erase (l := r) (j := j) (x := x) (by simpa using h)
    exact (List.Perm.swap a x _).trans (ih.cons a)
theorem ok_law_shuffled (Fd : C8.Def L.K mg "_law_shuffled" s_law_shuffled f fd) (b : Binds L.K fd ["draw", "some"] []) (B : Bw mg) (c_law_take : CalG P w L.K mg base C8.CX0 2 "_law_take" (spD L fTake)) :
    CalG P w L.K mg base C8.CX0 3 "_law_shuffled" (spD L fShuf) := by
  have sc := sc_law_shuffled
  refine calD (n := 2) Fd b sc ?_ (fun v vs h => ?_) fun cdv A outer s H E hr hgu => ?_
  · rintro ds k ⟨a, rfl, _⟩
    rfl
  · rw [start_eq (n := 2) (by show 4 = (vs.length + 1) + 2; rw [h]; rfl)]
    rfl
  refine ⟨_, w_seq (w_par (by decide) (ps_par (i := 2) (j := 3) (by rfl) sc.nd rfl rfl (by decide) rfl rfl (pa_cons (w_zN (w_nlistOf (pe_callTy call_list_of (by rfl) B.list (by decide +kernel) (pa_cons (w_v (pv 1)) pa_nil)))) (pa_cons (w_zN (w_nlst w_nil)) pa_nil)) (by rfl)))
  (w_seq (w_while (ps_while PassesOwn.never (w_neG (pt_cmpR (op_neD hr.units) (pv 2) (pe_lst pa_nil) (nomark _)))
   (w_one (w_app (ps_expr (pe_bm PySem.F.plainAttrs_list PySem.F.slot_list_append PySem.F.type_list_append mt_append (pv 3) (pa_cons (w_popG (pe_bm PySem.F.plainAttrs_list PySem.F.slot_list_pop PySem.F.type_list_pop mt_popAt (pv 2) (pa_cons (w_callD c_law_take hr (by decide) hgu rfl (pv 0) (w_cons (w_lenG (pe_callB call_len_seq (by rfl) B.len (by decide +kernel) (pa_cons (pv 2) pa_nil))) w_nil)) pa_nil))) pa_nil)))))))
  (w_one (w_ret (ps_ret (w_frz (pv 3)))))), ?_⟩
  rintro d l c ds kk ⟨xs, rfl, hl, hs, k⟩
  refine ⟨_, rfl, xs, .inl rfl, by decide, fun p hp q hq => ?_⟩
  refine ⟨fun m ρ => ∃ left found, m = left.length ∧ ρ = [some (.drw d l c), some (.dat (.lst xs)), some (.gro q left), some (.gro p found)] ∧ (found ++ left).Perm xs, ⟨_, xs, [], rfl, rfl, List.Perm.refl _⟩, ?_⟩
  rintro m ρ ⟨left, found, rfl, rfl, hp⟩
  have hlen : found.length + left.length = xs.length := by
    rw [← hp.length_eq, List.length_append]
  refine ⟨q, left, rfl, hs left fun e he => hp.mem_iff.mp (List.mem_append.mpr (.inr he)), bite (fun hb => ?_) fun hb => ?_⟩
  · have hne : left ≠ [] := by
      intro e
      subst e
      cases hb
    have h0 : 0 < left.length := List.length_pos_iff.mpr hne
    refine ⟨p, found, rfl, q, left, rfl, d, l, c, rfl, q, left, rfl, List.mem_cons_self, _, rfl, by omega, ?_, fun r r0 r1 => ?_⟩
    · have h2 : ((left.length : Int)).natAbs = left.length := rfl
      rw [h2]
      exact log2_small (by omega) h0
    · have hr : r.toNat < left.length := by omega
      refine ⟨left, r, r.toNat, left[r.toNat], rfl, rfl, by omega, by omega, ?_, List.getElem?_eq_getElem hr, found, rfl, ?_, _, ?_, _, _, rfl, rfl, ?_⟩
      · unfold seqIndex?
        have e1 : ¬ r < 0 := by omega
        simp only [if_neg e1]
        rw [if_pos (by simp; omega)]
      · exact Nat.lt_of_le_of_lt (by omega : found.length ≤ 1000000) (by decide)
      · rw [List.length_eraseIdx_of_lt hr]
        omega
      · rw [List.append_assoc]
        exact (List.Perm.append_left found (perm_erase (List.getElem?_eq_getElem hr))).trans hp
  · have e : left = [] := by
      cases left with
      | nil => rfl
      | cons a r => cases hb
    subst e
    rw [List.append_nil] at hp
    exact ⟨p, found, rfl, List.mem_cons_self, k found hp⟩
end
end Fv
namespace Fv
open PySem PySem.Spec PyProof.Rows L2 Fr Fw
section
variable {P : Program} {w : World} {L : Ly} {mg : Str → Option Value} {base : Heap} {f : Addr} {fd : FuncData}
/-! ### _law_with -/
abbrev s_law_with : Stmt := topS 42
theorem sc_law_with : FnScope ["lot", "other"] ["lot", "other"] (C8.fnScope s_law_with) := C8.fnScope_by (by decide +kernel)
def ins (i : Int) : List Int → List Int
  | [] => [i]
  | j :: r => if i < j then i :: j :: r else if i = j then j :: r else j :: ins i r
/-- the ascending list of all of these, each once -/
def asc : List Int → List Int
  | [] => []
  | i :: r => ins i (asc r)
theorem mem_ins {i k : Int} : ∀ {l : List Int}, k ∈ ins i l ↔ k = i ∨ k ∈ l
  | [] => by simp [ins]
  | j :: r => by
    have ih := mem_ins (i := i) (k := k) (l := r)
    unfold ins
    split
    · simp
    · split
      · rename_i h
        subst h
        simp
      · rw [List.mem_cons, ih, List.mem_cons]
        constructor
        · rintro (h | h | h)
          · exact .inr (.inl h)
          · exact .inl h
          · exact .inr (.inr h)
        · rintro (h | h | h)
          · exact .inr (.inl h)
          · exact .inl h
          · exact .inr (.inr h)
theorem mem_asc {k : Int} : ∀ {l : List Int}, k ∈ asc l ↔ k ∈ l
  | [] => by simp [asc]
  | i :: r => by
    show k ∈ ins i (asc r) ↔ _
    rw [mem_ins, mem_asc, List.mem_cons]
theorem pw_ins {i : Int} : ∀ {l : List Int}, l.Pairwise (· < ·) → (ins i l).Pairwise (· < ·)
  | [], _ => by simp [ins]
  | j :: r, h => by
    obtain ⟨h1, h2⟩ := List.pairwise_cons.mp h
    unfold ins
    split
    · rename_i hlt
      refine List.pairwise_cons.mpr ⟨fun k hk => ?_, h⟩
      rcases List.mem_cons.mp hk with e | hk
      · omega
      · have := h1 k hk
        omega
    · split
      · exact h
      · rename_i h3 h4
        refine List.pairwise_cons.mpr ⟨fun k hk => ?_, pw_ins h2⟩
        rcases mem_ins.mp hk with e | hk
        · omega
        · exact h1 k hk
theorem pw_asc : ∀ l : List Int, (asc l).Pairwise (· < ·)
  | [] => List.Pairwise.nil
  | i :: r => pw_ins (pw_asc r)
/-- ascending lists with the same members are the same -/
theorem pw_ext : ∀ {a b : List Int}, a.Pairwise (· < ·) → b.Pairwise (· < ·) → (∀ k, k ∈ a ↔ k ∈ b) → a = b
  | [], [], _, _, _ => rfl
  | [], y :: b, _, _, h => absurd ((h y).mpr List.mem_cons_self) (by simp)
  | x :: a, [], _, _, h => absurd ((h x).mp List.mem_cons_self) (by simp)
  | x :: a, y :: b, ha, hb, h => by
    obtain ⟨a1, a2⟩ := List.pairwise_cons.mp ha
    obtain ⟨b1, b2⟩ := List.pairwise_cons.mp hb
    have hxy : x = y := by
      rcases List.mem_cons.mp ((h x).mp List.mem_cons_self) with e | e
      · exact e
      · rcases List.mem_cons.mp ((h y).mpr List.mem_cons_self) with e' | e'
        · exact e'.symm
        · have := b1 x e
          have := a1 y e'
          omega
    subst hxy
    rw [pw_ext a2 b2 fun k => ?_]
    constructor
    · intro hk
      rcases List.mem_cons.mp ((h k).mp (List.mem_cons_of_mem _ hk)) with e | e
      · have := a1 k hk
        omega
      · exact e
    · intro hk
      rcases List.mem_cons.mp ((h k).mpr (List.mem_cons_of_mem _ hk)) with e | e
      · have := b1 k hk
        omega
      · exact e
def withL (a b : List Int) : List Int := asc (a ++ b)
def fWith : Pf := ⟨fun xs k => ∃ a b, xs = [ti a, ti b] ∧ a.length + b.length < 64 ∧ k (ti (withL a b)), fun h ⟨a, b, e, l, q⟩ => ⟨a, b, e, l, h _ q⟩⟩
theorem ok_law_with (Fd : C8.Def L.K mg "_law_with" s_law_with f fd) (b : Binds L.K fd ["lot", "other"] []) (B : Bw mg) : CalG P w L.K mg base C8.CX0 1 "_law_with" (spF L fWith) := by
  have sc := sc_law_with
  refine calF (n := 0) Fd b sc ?_ (fun vs h => start_eq (by rw [h]; rfl)) fun cdv A outer s H E hr hgu => ?_
  · rintro ds k ⟨a, b, rfl, _⟩
    rfl
  refine ⟨_, w_one (w_ret (ps_ret (w_tCB snd_tupOf (pe_callTy call_tuple_of (by rfl) B.tuple (by decide +kernel) (w_cons (w_sortSet (pe_callB (cr_sortedSet rfl) (by rfl) B.sorted (by decide +kernel) (pa_cons (pe_callTy (cr_setTI rfl) (by rfl) B.set (by decide +kernel) (pa_cons (w_op op_catA snd_catA (w_v (pv 0)) (w_v (pv 1))) pa_nil)) pa_nil))) w_nil))))), ?_⟩
  rintro ds kk ⟨a, c, rfl, hl, k⟩
  refine ⟨_, rfl, _, rfl, _, _, rfl, rfl, ?_, a ++ c, ?_, ?_, fun ms m1 m2 => ⟨_, .inl rfl, ?_⟩⟩
  · rw [List.length_map, List.length_map]
    exact Nat.le_of_lt (Nat.lt_trans hl (by decide))
  · rw [ti, List.map_append]
  · rw [List.length_append]
    exact hl
  · have e : ms = withL a c := pw_ext m1 (pw_asc _) fun j => by rw [m2 j, withL, mem_asc]
    rw [e]
    exact k
end
end Fv
namespace Fv
open PySem PySem.Spec PyProof.Rows L2 Fr Fw
section
variable {P : Program} {w : World} {L : Ly} {mg : Str → Option Value} {base : Heap} {f : Addr} {fd : FuncData}
/-! ### _law_closure_in -/
abbrev s_law_closure_in : Stmt := topS 46
theorem sc_law_closure_in : FnScope ["sketch", "lot", "size", "bases_here", "due", "item"] ["sketch", "lot"] (C8.fnScope s_law_closure_in) := C8.fnScope_by (by decide +kernel)
theorem len_ins (i : Int) : ∀ l : List Int, (ins i l).length ≤ l.length + 1
  | [] => by simp [ins]
  | j :: r => by
    have ih := len_ins i r
    unfold ins
    split
    · simp
    · split
      · simp
      · simp only [List.length_cons]
        omega
theorem len_asc : ∀ l : List Int, (asc l).length ≤ l.length
  | [] => by simp [asc]
  | i :: r => by
    have h1 := len_ins i (asc r)
    have h2 := len_asc r
    show (ins i (asc r)).length ≤ r.length + 1
    omega
theorem len_with (a b : List Int) : (withL a b).length ≤ a.length + b.length := by
  have := len_asc (a ++ b)
  rw [List.length_append] at this
  exact this
theorem rgD0 (n : Nat) : rgD 0 n = (List.range n).map fun i : Nat => Da.int (i : Int) := by
  unfold rgD
  exact List.map_congr_left fun i _ => by rw [Int.zero_add]
def closL (n : Nat) (bs : List (List Int)) (a : List Int) : List Int := ((List.range n).filter fun i : Nat => decide (rankL bs (withL a [(i : Int)]) = rankL bs a)).map fun i : Nat => (i : Int)
abbrev skD (n : Nat) (bs : List (List Int)) : Da := .tup [.int n, lti bs]
def fClos : Pf := ⟨fun xs k => ∃ (n : Nat) (bs : List (List Int)) (a : List Int), xs = [skD n bs, ti a] ∧ n ≤ 8 ∧ bs ≠ [] ∧ bs.length ≤ 1000 ∧ a.length < 63 ∧ k (ti (closL n bs a)), fun h ⟨n, bs, a, e, l1, l2, l3, l4, q⟩ => ⟨n, bs, a, e, l1, l2, l3, l4, h _ q⟩⟩
theorem ok_law_closure_in (Fd : C8.Def L.K mg "_law_closure_in" s_law_closure_in f fd) (b : Binds L.K fd ["sketch", "lot"] []) (B : Bw mg)
    (c_law_rank_in : CalG P w L.K mg base C8.CX0 2 "_law_rank_in" (spF L fRank)) (c_law_with : CalG P w L.K mg base C8.CX0 1 "_law_with" (spF L fWith)) :
    CalG P w L.K mg base C8.CX0 3 "_law_closure_in" (spF L fClos) := by
  have sc := sc_law_closure_in
  refine calF (n := 4) Fd b sc ?_ (fun vs h => start_eq (by rw [h]; rfl)) fun cdv A outer s H E hr hgu => ?_
  · rintro ds k ⟨n, a, b, rfl, _⟩
    rfl
  refine ⟨_, w_seq (w_asg (snd_tgTup (snd_tgCons snd_tgN (snd_tgCons snd_tgN snd_tgNil))) (ps_asg (w_v (pv 0)) (pg_tup (by rfl) (pgs_cons (pg_name (i := 2) sc.nd rfl (by first | exact Or.inl rfl | exact Or.inr rfl)) (pgs_cons (pg_name (i := 3) sc.nd rfl (by first | exact Or.inl rfl | exact Or.inr rfl)) pgs_nil)))))
  (w_seq (w_set (ps_set (i := 4) sc.nd rfl (by first | exact Or.inl rfl | exact Or.inr rfl) (w_call c_law_rank_in hr (by decide) hgu rfl (w_cons (w_v (pv 3)) (w_cons (w_v (pv 1)) w_nil)))))
  (w_one (w_ret (ps_ret (w_tCB snd_tupOf (pe_callTy call_tuple_of (by rfl) B.tuple (by decide +kernel) (w_cons (w_lc (sndv_N (by decide)) (pe_lc (own := [("item", 5)]) (by rfl) sc.nd (w_ir1 (pi_range1 rfl B.range (w_cons (w_v (pv 2)) w_nil))) (blkOk_by (by kernel_rfl)) (fun _ _ _ _ _ => (pg_name (i := 5) sc.nd rfl (by first | exact Or.inl rfl | exact Or.inr rfl))) (fun _ _ _ _ _ => w_tone (w_cmpT (op_eqD hr.units) snd_eq (w_call c_law_rank_in hr (by decide) hgu rfl (w_cons (w_v (pv 3)) (w_cons (w_call c_law_with hr (by decide) hgu rfl (w_cons (w_v (pv 1)) (w_cons (w_tup (w_cons (w_v (pv 5)) w_nil)) w_nil))) w_nil))) (w_v (pv 4)) (nomark _))) (fun _ _ _ _ _ => (w_v (pv 5))))) w_nil))))))), ?_⟩
  rintro ds kk ⟨n, bs, a, rfl, hn, hb, hl, ha, k⟩
  refine ⟨_, rfl, _, rfl, rfl, _, _, rfl, _, _, rfl, rfl, ?_⟩
  refine ⟨_, rfl, _, rfl, bs, a, rfl, hb, hl, by omega, ?_⟩
  refine ⟨_, rfl, (n : Int), rfl, by omega, by omega, ?_⟩
  rw [rgD0]
  refine lcP_src (fun i : Nat => Da.int (i : Int)) (fun i => decide (rankL bs (withL a [(i : Int)]) = rankL bs a)) (fun i => Da.int (i : Int)) (fun i _ => ?_) ?_ ?_
  · refine ⟨_, rfl, _, rfl, _, rfl, (by decide : 1 ≤ sizeLine), a, [(i : Int)], rfl, ?_, bs, _, rfl, hb, hl, ?_, _, rfl, _, _, rfl, rfl, rfl, rfl, _, rfl, ?_, fun _ => ⟨_, rfl, rfl, rfl⟩, fun _ => rfl⟩
    · simp only [List.length_singleton]
      omega
    · have := len_with a [(i : Int)]
      simp only [List.length_singleton] at this
      omega
    · show ((rankL bs (withL a [(i : Int)]) : Int) == (rankL bs a : Int)) = decide _
      by_cases h : rankL bs (withL a [(i : Int)]) = rankL bs a
      · simp [h]
      · have h' : ¬ ((rankL bs (withL a [(i : Int)]) : Int) = (rankL bs a : Int)) := by omega
        simp [h, h']
  · simp only [List.length_nil, Nat.zero_add, List.length_range]
    exact Nat.le_trans (by omega : (n : Int).toNat ≤ 8) (by decide)
  · have e : (n : Int).toNat = n := rfl
    rw [e, List.nil_append]
    refine ⟨_, .inl rfl, ?_⟩
    have e2 : (((List.range n).filter fun i : Nat => decide (rankL bs (withL a [(i : Int)]) = rankL bs a)).map fun i : Nat => Da.int (i : Int)) = (closL n bs a).map Da.int := by
      rw [closL, List.map_map]
      rfl
    rw [e2]
    exact k
end
end Fv
namespace Fv
open PySem PySem.Spec PyProof.Rows L2 Fr Fw
section
variable {P : Program} {w : World} {L : Ly} {mg : Str → Option Value} {base : Heap} {f : Addr} {fd : FuncData}
/-! ### _law_can_exchange -/
def exItem (bs : List (List Int)) (one other : List Int) (item : Int) : Prop := ∃ t ∈ lessL other one, withL (lessL one [item]) [t] ∈ bs
def exOther (bs : List (List Int)) (one other : List Int) : Prop := ∀ item ∈ lessL one other, exItem bs one other item
def exOne (bs : List (List Int)) (one : List Int) : Prop := ∀ other ∈ bs, exOther bs one other
def CanEx (bs : List (List Int)) : Prop := ∀ one ∈ bs, exOne bs one
def fCan : Pf := ⟨fun xs k => ∃ bs : List (List Int), xs = [lti bs] ∧ bs.length ≤ 1000 ∧ (∀ b ∈ bs, b.length ≤ 8) ∧ ∀ r, (r = true ↔ CanEx bs) → k (.bl r), fun h ⟨bs, e, l, s, q⟩ => ⟨bs, e, l, s, fun r p => h _ (q r p)⟩⟩
theorem units65 {k : Nat} {A : Around} (r : Room k A) : A.units + 65 < cLine := by
  have := r.un
  omega
theorem less_len (a b : List Int) : (lessL a b).length ≤ a.length := List.length_filter_le _ _
theorem take_all {α : Type} {P : α → Prop} {l : List α} {j : Nat} {x : α} (h : l[j]? = some x) (h1 : ∀ y ∈ l.take j, P y) (h2 : P x) : ∀ y ∈ l.take (j + 1), P y := by
  intro y hy
  rw [take_more h] at hy
  rcases List.mem_append.mp hy with hy | hy
  · exact h1 y hy
  · rw [List.mem_singleton.mp hy]
    exact h2
theorem map_get {α : Type} {emb : α → Da} {l : List α} {j : Nat} {x : Da} (h : (l.map emb)[j]? = some x) : ∃ a, l[j]? = some a ∧ emb a = x := by
  rw [List.getElem?_map] at h
  exact Option.map_eq_some_iff.mp h
end
end Fv
namespace Fw
open PySem PySem.Spec PyProof.Rows L2 Fr
theorem lcP_relA {α : Type} {t : Tg} {el : Px} {vs : List Nat} {k : List Da → En → Prop} {ρ : En} (emb : α → Da) (R : α → Da → Prop) : ∀ {src : List α} {acc : List Da},
    (∀ a ∈ src, t.f (emb a) ρ fun ρ2 => el.f ρ2 fun y ρ4 => R a y ∧ wipeR ρ4 vs = ρ) → acc.length + src.length ≤ sizeLine → (∀ out, Paired R src out → k (acc ++ out) ρ) → lcP t pYes el vs k (src.map emb) acc ρ
  | [], acc, _, _, h => by
    show k acc ρ
    have := h [] .nil
    rwa [List.append_nil] at this
  | x :: r, acc, hx, hl, h => t.mono (fun ρ2 h2 => by
      have hl' : acc.length + (r.length + 1) ≤ sizeLine := hl
      simp only [pYes, if_true]
      refine el.mono (fun y ρ4 ⟨e1, e2⟩ => ⟨by omega, ?_⟩) h2
      show lcP t pYes el vs k (r.map emb) _ _
      rw [e2]
      refine lcP_relA emb R (fun u hu => hx u (List.mem_cons_of_mem _ hu)) (by rw [List.length_append]; simp only [List.length_singleton]; omega) fun out ho => ?_
      rw [List.append_assoc]
      exact h (y :: out) (.cons e1 ho)) (hx x List.mem_cons_self)
theorem lcP_rel {α : Type} {t : Tg} {el : Px} {vs : List Nat} {k : List Da → En → Prop} {ρ : En} (emb : α → Da) (R : α → Da → Prop) {src : List α}
    (hx : ∀ a ∈ src, t.f (emb a) ρ fun ρ2 => el.f ρ2 fun y ρ4 => R a y ∧ wipeR ρ4 vs = ρ) (hl : src.length ≤ sizeLine) (h : ∀ out, Paired R src out → k out ρ) : lcP t pYes el vs k (src.map emb) [] ρ :=
  lcP_relA emb R hx (by simpa using hl) fun out ho => h out ho
theorem paired_len {α β : Type} {F : α → β → Prop} : ∀ {l : List α} {m : List β}, Paired F l m → l.length = m.length
  | _, _, .nil => rfl
  | _, _, .cons _ t => by rw [List.length_cons, List.length_cons, paired_len t]
/-- all of them are of a kind -/
theorem paired_kind {α β : Type} {emb : β → Da} {S : β → Prop} : ∀ {l : List α} {m : List Da}, Paired (fun _ y => ∃ b, y = emb b ∧ S b) l m → ∃ bs : List β, m = bs.map emb ∧ bs.length = l.length ∧ ∀ b ∈ bs, S b
  | _, _, .nil => ⟨[], rfl, rfl, fun _ h => by cases h⟩
  | _, _, .cons h t => by
    obtain ⟨b, rfl, hb⟩ := h
    obtain ⟨bs, rfl, hl, hs⟩ := paired_kind t
    refine ⟨b :: bs, rfl, by rw [List.length_cons, List.length_cons, hl], fun c hc => ?_⟩
    rcases List.mem_cons.mp hc with e | hc
    · rw [e]; exact hb
    · exact hs c hc
end Fw
namespace Fv
open PySem PySem.Spec PyProof.Rows L2 Fr Fw
section
variable {P : Program} {w : World} {L : Ly} {mg : Str → Option Value} {base : Heap} {f : Addr} {fd : FuncData}
/-! ### _law_ties -/
abbrev s_law_ties : Stmt := topS 53
theorem sc_law_ties : FnScope ["draw", "places_here", "many", "lap"] ["draw", "places_here", "many"] (C8.fnScope s_law_ties) := C8.fnScope_by (by decide +kernel)
abbrev tieD (p : Int × Int) : Da := ti [p.1, p.2]
def fTies : Pf := ⟨fun xs k => ∃ (p : Int) (n : Nat), xs = [.int p, .int n] ∧ 0 < p ∧ p ≤ 1000 ∧ n ≤ 8 ∧ ∀ ts : List (Int × Int), ts.length = n → (∀ t ∈ ts, 0 ≤ t.1 ∧ t.1 < p ∧ 0 ≤ t.2 ∧ t.2 < p) → k (.lst (ts.map tieD)),
  fun h ⟨p, n, e, a, b, c, q⟩ => ⟨p, n, e, a, b, c, fun ts x y => h _ (q ts x y)⟩⟩
theorem log2_1000 {p : Int} (h0 : 0 < p) (h : p ≤ 1000) : p.natAbs.log2 < 9000 := log2_small (by omega) (by omega)
theorem ok_law_ties (Fd : C8.Def L.K mg "_law_ties" s_law_ties f fd) (b : Binds L.K fd ["draw", "places_here", "many"] []) (B : Bw mg) (c_law_take : CalG P w L.K mg base C8.CX0 2 "_law_take" (spD L fTake)) :
    CalG P w L.K mg base C8.CX0 3 "_law_ties" (spD L fTies) := by
  have sc := sc_law_ties
  refine calD (n := 1) Fd b sc ?_ (fun v vs h => ?_) fun cdv A outer s H E hr hgu => ?_
  · rintro ds k ⟨p, n, rfl, _⟩
    rfl
  · rw [start_eq (n := 1) (by show 4 = (vs.length + 1) + 1; rw [h]; rfl)]
    rfl
  refine ⟨_, w_one (w_ret (ps_ret (w_lc (sndv_N (by decide)) (pe_lc (own := [("lap", 3)]) (by rfl) sc.nd (w_ir1 (pi_range1 rfl B.range (w_cons (w_v (pv 2)) w_nil))) (blkOk_by (by kernel_rfl)) (fun _ _ _ _ _ => (pg_name (i := 3) sc.nd rfl (by first | exact Or.inl rfl | exact Or.inr rfl))) (fun _ _ _ _ _ => w_tnil) (fun _ _ _ _ _ => (w_tup (w_cons (w_callD c_law_take hr (by decide) hgu rfl (pv 0) (w_cons (w_v (pv 1)) w_nil)) (w_cons (w_callD c_law_take hr (by decide) hgu rfl (pv 0) (w_cons (w_v (pv 1)) w_nil)) w_nil)))))))), ?_⟩
  rintro d l c ds kk ⟨p, n, rfl, h0, hp, hn, k⟩
  refine ⟨_, rfl, (n : Int), rfl, by omega, by omega, ?_⟩
  rw [rgD0]
  refine lcP_rel (fun i : Nat => Da.int (i : Int)) (fun _ y => ∃ t : Int × Int, y = tieD t ∧ (0 ≤ t.1 ∧ t.1 < p ∧ 0 ≤ t.2 ∧ t.2 < p)) (fun i _ => ?_) ?_ fun out ho => ?_
  · refine ⟨d, l, c, rfl, _, rfl, List.mem_cons_self, p, rfl, h0, log2_1000 h0 hp, fun r r0 r1 => ?_⟩
    refine ⟨d, l, c, rfl, _, rfl, List.mem_cons_self, p, rfl, h0, log2_1000 h0 hp, fun q q0 q1 => ?_⟩
    exact ⟨(by decide : 2 ≤ sizeLine), ⟨(r, q), rfl, r0, r1, q0, q1⟩, rfl⟩
  · rw [List.length_range]
    exact Nat.le_trans (by omega : (n : Int).toNat ≤ 8) (by decide)
  · obtain ⟨ts, rfl, hl, hs⟩ := paired_kind (emb := tieD) ho
    rw [List.length_range] at hl
    exact ⟨List.mem_cons_self, k ts hl hs⟩
end
end Fv
namespace Fv
open PySem PySem.Spec PyProof.Rows L2 Fr Fw
section
variable {P : Program} {w : World} {L : Ly} {mg : Str → Option Value} {base : Heap} {f : Addr} {fd : FuncData}
/-! ### _law_rows -/
abbrev s_law_rows : Stmt := topS 52
theorem sc_law_rows : FnScope ["draw", "field", "many", "width", "found", "lap", "row", "k"] ["draw", "field", "many", "width"] (C8.fnScope s_law_rows) := C8.fnScope_by (by decide +kernel)
/-- a row of so many numbers from 0 to field -/
def RowOk (field : Int) (width : Nat) (row : List Int) : Prop := row.length = width ∧ ∀ x ∈ row, 0 ≤ x ∧ x ≤ field
def fRows : Pf := ⟨fun xs k => ∃ (field : Int) (n width : Nat), xs = [.int field, .int n, .int width] ∧ 0 < field ∧ field ≤ 1000 ∧ n ≤ 8 ∧ width ≤ 8 ∧ ∀ rows : List (List Int), rows.length = n → (∀ r ∈ rows, RowOk field width r) → k (.lst (rows.map li)),
  fun h ⟨p, n, m, e, a, b, c, d, q⟩ => ⟨p, n, m, e, a, b, c, d, fun ts x y => h _ (q ts x y)⟩⟩
theorem ok_law_rows (Fd : C8.Def L.K mg "_law_rows" s_law_rows f fd) (b : Binds L.K fd ["draw", "field", "many", "width"] []) (B : Bw mg) (c_law_take : CalG P w L.K mg base C8.CX0 2 "_law_take" (spD L fTake)) :
    CalG P w L.K mg base C8.CX0 3 "_law_rows" (spD L fRows) := by
  have sc := sc_law_rows
  refine calD (n := 4) Fd b sc ?_ (fun v vs h => ?_) fun cdv A outer s H E hr hgu => ?_
  · rintro ds k ⟨p, n, m, rfl, _⟩
    rfl
  · rw [start_eq (n := 4) (by show 8 = (vs.length + 1) + 4; rw [h]; rfl)]
    rfl
  refine ⟨_, w_seq (w_setZ (ps_set (i := 4) sc.nd rfl (by first | exact Or.inl rfl | exact Or.inr rfl) (w_zN (w_nlst w_nil))))
  (w_seq (w_forI snd_tgN (ps_for PassesOwn.never rfl (w_ir1 (pi_range1 rfl B.range (w_cons (w_v (pv 2)) w_nil))) (pg_name (i := 5) sc.nd rfl (by first | exact Or.inl rfl | exact Or.inr rfl))
   (w_seq (w_setLcN (sndv_N (by decide)) (ps_setLc (i := 6) (own := [("k", 7)]) (by rfl) sc.nd rfl (by rfl) (sw_true rfl (by rfl) rfl (by decide +kernel)) (w_ir1 (pi_range1 rfl B.range (w_cons (w_v (pv 3)) w_nil))) (blkOk_by (by kernel_rfl)) (fun _ _ _ _ _ => (pg_name (i := 7) sc.nd rfl (by first | exact Or.inl rfl | exact Or.inr rfl))) (fun _ _ _ _ _ => w_tnil) (fun _ _ _ _ _ => (w_callD c_law_take hr (by decide) hgu rfl (pv 0) (w_cons (w_v (pv 1)) w_nil)))))
    (w_seq (w_if (ps_if (w_pt (w_and (pw_and (w_cmpT op_gt snd_gt (w_v (pv 3)) (w_int (kd := 0) pe_int) (nomark _)) (pw_and1 (w_cmpT op_gt snd_gt (w_callD c_law_take hr (by decide) hgu rfl (pv 0) (w_cons (w_int (kd := 0) pe_int) w_nil)) (w_int (kd := 0) pe_int) (nomark _))))))
     (w_one (w_put (ps_asg (w_int (kd := 0) pe_int) (pg_sub (pv 6) (w_callD c_law_take hr (by decide) hgu rfl (pv 0) (w_cons (w_v (pv 3)) w_nil)) set_list))))
     (w_snil pss_nil)))
    (w_one (w_app (ps_expr (pe_bm PySem.F.plainAttrs_list PySem.F.slot_list_append PySem.F.type_list_append mt_append (pv 4) (pa_cons (w_frz (pv 6)) pa_nil)))))))))
  (w_one (w_ret (ps_ret (w_frz (pv 4)))))), ?_⟩
  rintro d l c ds kk ⟨field, n, width, rfl, h0, hf, hn, hw, k⟩
  refine ⟨by decide, fun q hq => ⟨_, rfl, (n : Int), rfl, by omega, by omega, ?_⟩⟩
  refine loopF_inv (fun j ρ => ∃ (rows : List (List Int)) (a b : Option Sl), ρ = [some (.drw d l c), some (.dat (.int field)), some (.dat (.int n)), some (.dat (.int width)), some (.gro q (rows.map li)), a, b, none] ∧ rows.length = j ∧ ∀ r ∈ rows, RowOk field width r)
    ⟨[], none, none, rfl, rfl, fun _ h => by cases h⟩ ?_ ?_
  · rintro j x ρ hj ⟨rows, a, b, rfl, hl, hr1⟩
    have hjn : j < n := by
      have := (List.getElem?_eq_some_iff.mp hj).1
      simpa [rgD] using this
    have leaf : ∀ row, RowOk field width row → (rows ++ [row]).length = j + 1 ∧ ∀ r ∈ rows ++ [row], RowOk field width r := fun row h => by
      refine ⟨by rw [List.length_append, hl]; rfl, fun r hr2 => ?_⟩
      rcases List.mem_append.mp hr2 with z | z
      · exact hr1 r z
      · rw [List.mem_singleton.mp z]
        exact h
    have hsz : (rows.map li).length < sizeLine := by
      rw [List.length_map, hl]
      exact Nat.lt_of_lt_of_le (by omega : j < 8) (by decide)
    have emap : ∀ row : List Int, rows.map li ++ [Da.lst (row.map Da.int)] = (rows ++ [row]).map li := fun row => by rw [List.map_append]; rfl
    refine ⟨_, rfl, (width : Int), rfl, by omega, by omega, ?_⟩
    rw [rgD0]
    refine lcP_rel (fun i : Nat => Da.int (i : Int)) (fun _ y => ∃ t : Int, y = Da.int t ∧ (0 ≤ t ∧ t < field)) (fun i _ => ?_) ?_ fun out ho => ?_
    · exact ⟨d, l, c, rfl, _, rfl, List.mem_cons_self, field, rfl, h0, log2_1000 h0 hf, fun r r0 r1 => ⟨⟨r, rfl, r0, r1⟩, rfl⟩⟩
    · rw [List.length_range]
      exact Nat.le_trans (by omega : (width : Int).toNat ≤ 8) (by decide)
    · obtain ⟨row, rfl, hrl, hrs⟩ := paired_kind (emb := Da.int) ho
      rw [List.length_range] at hrl
      have hrow : RowOk field width row := ⟨hrl, fun x hx => ⟨(hrs x hx).1, Int.le_of_lt (hrs x hx).2⟩⟩
      refine fun p hp => ⟨_, rfl, _, _, rfl, rfl, trivial, _, rfl, bite (fun hw0 => ?_) fun hw0 => ?_⟩
      · refine ⟨d, l, c, rfl, List.mem_cons_self, 6, rfl, by decide, by decide +kernel, fun r r0 r1 => ⟨_, _, rfl, rfl, trivial, _, rfl, bite (fun hr0 => ?_) fun hr0 => ?_⟩⟩
        · have hw1 : 0 < (width : Int) := of_decide_eq_true hw0
          refine ⟨p, _, rfl, d, l, c, rfl, _, rfl, List.mem_cons_self, (width : Int), rfl, hw1, log2_1000 hw1 (by omega), fun i i0 i1 => ⟨_, i, i.toNat, rfl, rfl, ?_, ?_⟩⟩
          · rw [List.length_map, hrl]
            unfold ixN
            rw [if_pos i0, if_pos (by omega)]
          · refine ⟨q, _, rfl, p, _, rfl, _, rfl, hsz, rows ++ [row.set i.toNat 1], some (.dat x), some (.dat (li (row.set i.toNat 1))), ?_, leaf _ ⟨by rw [List.length_set]; exact hrow.1, fun x hx => ?_⟩⟩
            · rw [← emap, li, List.map_set]
              rfl
            · rcases List.mem_or_eq_of_mem_set hx with z | z
              · exact hrow.2 x z
              · rw [z]
                omega
        · refine ⟨q, _, rfl, p, _, rfl, _, rfl, hsz, rows ++ [row], some (.dat x), some (.dat (li row)), ?_, leaf _ hrow⟩
          rw [← emap]
          rfl
      · refine ⟨q, _, rfl, p, _, rfl, _, rfl, hsz, rows ++ [row], some (.dat x), some (.dat (li row)), ?_, leaf _ hrow⟩
        rw [← emap]
        rfl
  · rintro ρ ⟨rows, a, b, rfl, hl, hr1⟩
    have e : (rgD 0 (n : Int).toNat).length = n := by simp [rgD]
    rw [e] at hl
    exact ⟨q, _, rfl, List.mem_cons_self, k rows hl hr1⟩
end
end Fv
namespace Fv
open PySem PySem.Spec PyProof.Rows L2 Fr Fw
section
variable {P : Program} {w : World} {L : Ly} {mg : Str → Option Value} {base : Heap} {f : Addr} {fd : FuncData}
/-! ### _law_undone -/
abbrev s_law_undone : Stmt := topS 38
theorem sc_law_undone : FnScope ["field", "number", "found", "square", "left"] ["field", "number"] (C8.fnScope s_law_undone) := C8.fnScope_by (by decide +kernel)
theorem pow_mod (a n : Int) : ∀ k : Nat, ((a % n) ^ k) % n = (a ^ k) % n
  | 0 => by rw [Int.pow_zero, Int.pow_zero]
  | k + 1 => by
    rw [Int.pow_succ, Int.pow_succ, Int.mul_emod, pow_mod a n k, Int.emod_emod, ← Int.mul_emod]
theorem mul_mod_l (a b n : Int) : (a % n * b) % n = (a * b) % n := by
  rw [Int.mul_emod, Int.emod_emod, ← Int.mul_emod]
theorem mul_mod_r (a b n : Int) : (a * (b % n)) % n = (a * b) % n := by
  rw [Int.mul_emod, Int.emod_emod, ← Int.mul_emod]
def fUnd : Pf := ⟨fun xs k => ∃ field number : Int, xs = [.int field, .int number] ∧ 2 ≤ field ∧ field ≤ 1000 ∧ ∀ r : Int, 0 ≤ r → r < field → r % field = number ^ (field - 2).toNat % field → k (.int r),
  fun h ⟨p, n, e, a, b, q⟩ => ⟨p, n, e, a, b, fun r x y z => h _ (q r x y z)⟩⟩
theorem small_mul {a b n : Int} (hn : n ≤ 1000) (a0 : 0 ≤ a) (a1 : a < n) : CMul a b := .inl ⟨by omega, by omega⟩
theorem ok_law_undone (Fd : C8.Def L.K mg "_law_undone" s_law_undone f fd) (b : Binds L.K fd ["field", "number"] []) (B : Bw mg) : CalG P w L.K mg base C8.CX0 1 "_law_undone" (spF L fUnd) := by
  have sc := sc_law_undone
  refine calF (n := 3) Fd b sc ?_ (fun vs h => start_eq (by rw [h]; rfl)) fun cdv A outer s H E hr hgu => ?_
  · rintro ds k ⟨a, b, rfl, _⟩
    rfl
  refine ⟨_, w_seq (w_par3 (by decide) (by decide) (by decide) (ps_par3 (i := 2) (j := 3) (l := 4) (by rfl) sc.nd rfl rfl rfl (by decide) (by decide) (by decide) rfl rfl rfl (pa_cons (w_zD (w_int (kd := 0) pe_int)) (pa_cons (w_zD (w_op op_modN snd_modN (w_v (pv 1)) (w_v (pv 0)))) (pa_cons (w_zD (w_op op_sub snd_sub (w_v (pv 0)) (w_int (kd := 0) pe_int))) pa_nil))) (by rfl)))
  (w_seq (w_while (ps_while PassesOwn.never (w_cmpT op_gt snd_gt (w_v (pv 4)) (w_int (kd := 0) pe_int) (nomark _))
   (w_seq (w_if (ps_if (w_cmpT (op_eqD hr.units) snd_eq (w_op op_modN snd_modN (w_v (pv 4)) (w_int (kd := 0) pe_int)) (w_int (kd := 0) pe_int) (nomark _))
     (w_one (w_set (ps_set (i := 2) sc.nd rfl (by first | exact Or.inl rfl | exact Or.inr rfl) (w_op op_modN snd_modN (w_op op_mul snd_mul (w_v (pv 2)) (w_v (pv 3))) (w_v (pv 0))))))
     (w_snil pss_nil)))
    (w_one (w_par (by decide) (ps_par (i := 3) (j := 4) (by rfl) sc.nd rfl rfl (by decide) rfl rfl (pa_cons (w_zD (w_op op_modN snd_modN (w_op op_mul snd_mul (w_v (pv 3)) (w_v (pv 3))) (w_v (pv 0)))) (pa_cons (w_zD (w_op op_fdivN snd_fdivN (w_v (pv 4)) (w_int (kd := 0) pe_int))) pa_nil)) (by rfl)))))))
  (w_one (w_ret (ps_ret (w_v (pv 2)))))), ?_⟩
  rintro ds kk ⟨field, number, rfl, h2, h3, k⟩
  have fm : ∀ x : Int, x.fmod field = x % field := fun x => Int.fmod_eq_emod_of_nonneg x (by omega)
  have rg : ∀ x : Int, 0 ≤ x % field ∧ x % field < field := fun x => ⟨Int.emod_nonneg x (by omega), Int.emod_lt_of_pos x (by omega)⟩
  refine ⟨_, rfl, _, rfl, _, _, rfl, rfl, (by omega : field ≠ 0), _, rfl, _, _, rfl, rfl, trivial, ?_⟩
  refine ⟨fun m ρ => ∃ found square left : Int, m = left.toNat ∧ ρ = [some (.dat (.int field)), some (.dat (.int number)), some (.dat (.int found)), some (.dat (.int square)), some (.dat (.int left))] ∧ 0 ≤ left ∧ left ≤ 1000 ∧ 0 ≤ found ∧ found < field ∧ 0 ≤ square ∧ square < field ∧
    (found * square ^ left.toNat) % field = number ^ (field - 2).toNat % field, ⟨_, 1, number.fmod field, field - 2, rfl, rfl, by omega, by omega, by omega, by omega, ?_, ?_, ?_⟩, ?_⟩
  · rw [fm]; exact (rg _).1
  · rw [fm]; exact (rg _).2
  · rw [fm, Int.one_mul, pow_mod]
  rintro m ρ ⟨found, square, left, rfl, rfl, l0, l1, f0, f1, s0, s1, inv⟩
  refine ⟨_, rfl, _, _, rfl, rfl, trivial, _, rfl, bite (fun hb => ?_) fun hb => ?_⟩
  · have hpos : 0 < left := of_decide_eq_true hb
    have hdiv : left.fdiv 2 = left / 2 := Int.fdiv_eq_ediv_of_nonneg left (by decide)
    have hmod : left.fmod 2 = left % 2 := Int.fmod_eq_emod_of_nonneg left (by decide)
    have sq : (square * square % field) ^ (left / 2).toNat % field = (square ^ (2 * (left / 2).toNat)) % field := by
      rw [pow_mod, Int.pow_mul]
      congr 2
      rw [Int.pow_succ, Int.pow_succ, Int.pow_zero, Int.one_mul]
    refine ⟨_, rfl, _, _, rfl, rfl, (by decide : (2 : Int) ≠ 0), .int (left.fmod 2), .int 1, rfl, rfl, rfl, rfl, _, rfl, bite (fun ho => ?_) fun ho => ?_⟩
    · have ho : left.fmod 2 = 1 := by simpa [PyData.eqv] using ho
      refine ⟨_, rfl, _, rfl, _, _, rfl, rfl, small_mul h3 f0 f1, _, rfl, _, _, rfl, rfl, (by omega : field ≠ 0), ?_⟩
      refine ⟨_, rfl, _, rfl, _, _, rfl, rfl, small_mul h3 s0 s1, _, rfl, _, _, rfl, rfl, (by omega : field ≠ 0), _, rfl, _, _, rfl, rfl, ⟨by decide, by decide⟩, ?_⟩
      refine ⟨(left.fdiv 2).toNat, by rw [hdiv]; omega, (found * square).fmod field, (square * square).fmod field, left.fdiv 2, rfl, rfl, by rw [hdiv]; omega, by rw [hdiv]; omega, ?_, ?_, ?_, ?_, ?_⟩
      · rw [fm]; exact (rg _).1
      · rw [fm]; exact (rg _).2
      · rw [fm]; exact (rg _).1
      · rw [fm]; exact (rg _).2
      · rw [fm, fm, hdiv, mul_mod_l, ← mul_mod_r, sq, mul_mod_r, ← inv]
        have e : left.toNat = 2 * (left / 2).toNat + 1 := by omega
        rw [e, Int.pow_succ]
        congr 1
        rw [Int.mul_assoc, Int.mul_comm square]
    · have ho : ¬ left.fmod 2 = 1 := by simpa [PyData.eqv] using ho
      refine ⟨_, rfl, _, rfl, _, _, rfl, rfl, small_mul h3 s0 s1, _, rfl, _, _, rfl, rfl, (by omega : field ≠ 0), _, rfl, _, _, rfl, rfl, ⟨by decide, by decide⟩, ?_⟩
      refine ⟨(left.fdiv 2).toNat, by rw [hdiv]; omega, found, (square * square).fmod field, left.fdiv 2, rfl, rfl, by rw [hdiv]; omega, by rw [hdiv]; omega, f0, f1, ?_, ?_, ?_⟩
      · rw [fm]; exact (rg _).1
      · rw [fm]; exact (rg _).2
      · rw [fm, hdiv, ← mul_mod_r, sq, mul_mod_r, ← inv]
        have e : left.toNat = 2 * (left / 2).toNat := by omega
        rw [e]
  · have hz : left = 0 := by
      have := of_decide_eq_false hb
      omega
    subst hz
    refine ⟨_, rfl, k found f0 f1 ?_⟩
    rw [← inv]
    simp
end
end Fv
namespace Fv
open PySem PySem.Spec PyProof.Rows L2 Fr Fw
section
variable {P : Program} {w : World} {L : Ly} {mg : Str → Option Value} {base : Heap} {f : Addr} {fd : FuncData}
/-! ### _law_row_rank -/
abbrev s_law_row_rank : Stmt := topS 47
theorem sc_law_row_rank : FnScope ["field", "rows", "left", "found", "item", "row", "lap", "spots", "k", "less", "j", "times_here", "a", "b"] ["field", "rows"] (C8.fnScope s_law_row_rank) := C8.fnScope_by (by decide +kernel)
def spots (row : List Int) : List Nat := (List.range row.length).filter fun i => decide (row.getD i 0 ≠ 0)
def inv (p x : Int) : Int := x ^ (p - 2).toNat % p
/-- a row cleared by one with a number at k -/
def clr (p : Int) (row : List Int) (k : Nat) (q : List Int) : List Int := List.zipWith (fun a b => (a - q.getD k 0 * inv p (row.getD k 0) * b) % p) q row
def rr (p : Int) : Nat → List (List Int) → Nat
  | 0, _ => 0
  | _ + 1, [] => 0
  | m + 1, row :: rest => match spots row with
    | [] => rr p m rest
    | k :: _ => 1 + rr p m (rest.map (clr p row k))
def rowMod (p : Int) (row : List Int) : List Int := row.map fun x => x % p
def rowRank (p : Int) (rows : List (List Int)) : Nat := rr p rows.length (rows.map (rowMod p))
/-- rows of so many numbers from 0 to p - 1 -/
def Mod (p : Int) (n : Nat) (q : List Int) : Prop := q.length = n ∧ ∀ x ∈ q, 0 ≤ x ∧ x < p
theorem mod_row {p : Int} (hp : 0 < p) (q : List Int) : Mod p q.length (rowMod p q) := ⟨List.length_map _, fun x hx => by
  obtain ⟨y, _, rfl⟩ := List.mem_map.mp hx
  exact ⟨Int.emod_nonneg _ (by omega), Int.emod_lt_of_pos _ hp⟩⟩
theorem mod_clr {p : Int} (hp : 0 < p) {n k : Nat} {row q : List Int} (h1 : Mod p n row) (h2 : Mod p n q) : Mod p n (clr p row k q) := by
  refine ⟨by rw [clr, List.length_zipWith, h1.1, h2.1, Nat.min_self], fun x hx => ?_⟩
  unfold clr at hx
  obtain ⟨i, hi, e⟩ := List.getElem_of_mem hx
  rw [List.getElem_zipWith] at e
  rw [← e]
  exact ⟨Int.emod_nonneg _ (by omega), Int.emod_lt_of_pos _ hp⟩
theorem cur_set {α : Type} (A R : List α) (g : α → α) {i : Nat} {q : α} (h : R[i]? = some q) : (A ++ ((R.take i).map g ++ R.drop i)).set (A.length + i) (g q) = A ++ ((R.take (i + 1)).map g ++ R.drop (i + 1)) := by
  have hi : i < R.length := (List.getElem?_eq_some_iff.mp h).1
  have hl : ((R.take i).map g).length = i := by rw [List.length_map, List.length_take]; omega
  rw [List.set_append_right _ _ (by omega), Nat.add_sub_cancel_left, List.set_append_right _ _ (by omega), hl, Nat.sub_self, drop_at h, take_more h, List.map_append, List.append_assoc]
  rfl
theorem cur_get {α : Type} (A R : List α) (g : α → α) {i : Nat} {q : α} (h : R[i]? = some q) : (A ++ ((R.take i).map g ++ R.drop i))[A.length + i]? = some q := by
  have hi : i < R.length := (List.getElem?_eq_some_iff.mp h).1
  have hl : ((R.take i).map g).length = i := by rw [List.length_map, List.length_take]; omega
  rw [List.getElem?_append_right (by omega), Nat.add_sub_cancel_left, List.getElem?_append_right (by omega), hl, Nat.sub_self, drop_at h]
  rfl
theorem ne0 (x : Int) : (!(x == 0)) = decide (x ≠ 0) := by
  by_cases h : x = 0 <;> simp [h]
theorem getD_lt {p : Int} (hp : 0 < p) {n : Nat} {q : List Int} (h : Mod p n q) (k : Nat) : 0 ≤ q.getD k 0 ∧ q.getD k 0 < p := by
  rw [List.getD_eq_getElem?_getD]
  cases e : q[k]? with
  | none => exact ⟨Int.le_refl _, hp⟩
  | some x => exact h.2 x (List.mem_of_getElem? e)
theorem enum_ints (row : List Int) : enumD (row.map Da.int) = (List.range row.length).map fun i : Nat => Da.tup [.int (i : Int), .int (row.getD i 0)] := by
  unfold enumD
  rw [List.length_map]
  refine List.map_congr_left fun i hi => ?_
  have hl : i < row.length := List.mem_range.mp hi
  rw [List.getD_eq_getElem?_getD, List.getElem?_map, List.getD_eq_getElem?_getD, List.getElem?_eq_getElem hl]
  rfl
theorem zip_ints (q row : List Int) : zipD (q.map Da.int) (row.map Da.int) = (List.zip q row).map fun p => Da.tup [.int p.1, .int p.2] := by
  unfold zipD
  rw [List.zipWith_map, List.map_zip_eq_zipWith]
  rfl
def fRR : Pf := ⟨fun xs k => ∃ (p : Int) (rows : List (List Int)) (n : Nat), xs = [.int p, .lst (rows.map li)] ∧ 2 ≤ p ∧ p ≤ 1000 ∧ rows.length ≤ 8 ∧ n ≤ 8 ∧ (∀ r ∈ rows, r.length = n) ∧ k (.int (rowRank p rows)),
  fun h ⟨p, rows, n, e, a, b, c, d, l, q⟩ => ⟨p, rows, n, e, a, b, c, d, l, h _ q⟩⟩
theorem ok_law_row_rank (Fd : C8.Def L.K mg "_law_row_rank" s_law_row_rank f fd) (b : Binds L.K fd ["field", "rows"] []) (B : Bw mg) (c_law_undone : CalG P w L.K mg base C8.CX0 1 "_law_undone" (spF L fUnd)) : CalG P w L.K mg base C8.CX0 2 "_law_row_rank" (spF L fRR) := by
  have sc := sc_law_row_rank
  refine calF (n := 12) Fd b sc ?_ (fun vs h => start_eq (by rw [h]; rfl)) fun cdv A outer s H E hr hgu => ?_
  · rintro ds k ⟨a, b, n, rfl, _⟩
    rfl
  refine ⟨_, w_seq (w_par (by decide) (ps_par (i := 2) (j := 3) (by rfl) sc.nd rfl rfl (by decide) rfl rfl (pa_cons (w_zN (w_lcN (sndv_N (by decide)) (pe_lc (own := [("row", 5)]) (by rfl) sc.nd (w_il (pi_list (w_v (pv 1)))) (blkOk_by (by kernel_rfl)) (fun _ _ _ _ _ => (pg_name (i := 5) sc.nd rfl (by first | exact Or.inl rfl | exact Or.inr rfl))) (fun _ _ _ _ _ => w_tnil) (fun _ _ _ _ _ => (w_lc (sndv_N (by decide)) (pe_lc (own := [("item", 4)]) (by rfl) sc.nd (w_il (pi_list (w_v (pv 5)))) (blkOk_by (by kernel_rfl)) (fun _ _ _ _ _ => (pg_name (i := 4) sc.nd rfl (by first | exact Or.inl rfl | exact Or.inr rfl))) (fun _ _ _ _ _ => w_tnil) (fun _ _ _ _ _ => (w_op op_modN snd_modN (w_v (pv 4)) (w_v (pv 0)))))))))) (pa_cons (w_zD (w_int (kd := 0) pe_int)) pa_nil)) (by rfl)))
  (w_seq (w_forI snd_tgN (ps_for PassesOwn.never rfl (w_ir1 (pi_range1 rfl B.range (w_cons (w_tCB snd_len (pe_callB call_len_seq (by rfl) B.len (by decide +kernel) (w_cons (w_v (pv 1)) w_nil))) w_nil))) (pg_name (i := 6) sc.nd rfl (by first | exact Or.inl rfl | exact Or.inr rfl))
   (w_seq (w_set (ps_set (i := 5) sc.nd rfl (by first | exact Or.inl rfl | exact Or.inr rfl) (w_ixG (pe_ix ix_list (pv 2) (w_v (pv 6)) (fun _ _ => rfl)))))
    (w_seq (w_setLc (sndv_tup (n := 2) (sndv_cons (sndv_N (by decide)) (sndv_cons (sndv_N (by decide)) sndv_nil))) (ps_setLc (i := 7) (own := [("k", 8), ("item", 4)]) (by rfl) sc.nd rfl (by rfl) (sw_true rfl (by rfl) rfl (by decide +kernel)) (w_ie (pi_enum (by rfl) B.enumerate (w_cons (w_v (pv 5)) w_nil))) (blkOk_by (by kernel_rfl)) (fun _ _ _ _ _ => (pg_tup (n := 2) (by rfl) (pgs_cons (pg_name (i := 8) sc.nd rfl (by first | exact Or.inl rfl | exact Or.inr rfl)) (pgs_cons (pg_name (i := 4) sc.nd rfl (by first | exact Or.inl rfl | exact Or.inr rfl)) pgs_nil)))) (fun _ _ _ _ _ => w_tone (w_cmpT (op_neD hr.units) snd_ne (w_v (pv 4)) (w_int (kd := 0) pe_int) (nomark _))) (fun _ _ _ _ _ => (w_v (pv 8)))))
    (w_one (w_if (ps_if (w_cmpT (op_neD hr.units) snd_ne (w_v (pv 7)) (w_lst w_nil) (nomark _))
     (w_seq (w_par (by decide) (ps_par (i := 8) (j := 3) (by rfl) sc.nd rfl rfl (by decide) rfl rfl (pa_cons (w_zD (w_ix ix_list snd_ix (w_v (pv 7)) (w_int (kd := 0) pe_int) (fun _ _ => rfl))) (pa_cons (w_zD (w_op op_add snd_add (w_v (pv 3)) (w_int (kd := 0) pe_int))) pa_nil)) (by rfl)))
      (w_seq (w_set (ps_set (i := 9) sc.nd rfl (by first | exact Or.inl rfl | exact Or.inr rfl) (w_call c_law_undone hr (by decide) hgu rfl (w_cons (w_v (pv 0)) (w_cons (w_ix ix_list snd_ix (w_v (pv 5)) (w_v (pv 8)) (fun _ _ => rfl)) w_nil)))))
      (w_one (w_forI snd_tgN (ps_for PassesOwn.never rfl (w_ir2 (pi_range2 rfl B.range (w_cons (w_op op_add snd_add (w_v (pv 6)) (w_int (kd := 0) pe_int)) (w_cons (w_tCB snd_len (pe_callB call_len_seq (by rfl) B.len (by decide +kernel) (w_cons (w_v (pv 1)) w_nil))) w_nil)))) (pg_name (i := 10) sc.nd rfl (by first | exact Or.inl rfl | exact Or.inr rfl))
       (w_seq (w_set (ps_set (i := 11) sc.nd rfl (by first | exact Or.inl rfl | exact Or.inr rfl) (w_op op_mul snd_mul (w_ix ix_list snd_ix (w_ixG (pe_ix ix_list (pv 2) (w_v (pv 10)) (fun _ _ => rfl))) (w_v (pv 8)) (fun _ _ => rfl)) (w_v (pv 9)))))
        (w_one (w_put (ps_asg (w_lc (sndv_tup (n := 2) (sndv_cons (sndv_N (by decide)) (sndv_cons (sndv_N (by decide)) sndv_nil))) (pe_lc (own := [("a", 12), ("b", 13)]) (by rfl) sc.nd (w_iz (pi_zip (by rfl) B.zip (w_cons (w_ixG (pe_ix ix_list (pv 2) (w_v (pv 10)) (fun _ _ => rfl))) (w_cons (w_v (pv 5)) w_nil)))) (blkOk_by (by kernel_rfl)) (fun _ _ _ _ _ => (pg_tup (n := 2) (by rfl) (pgs_cons (pg_name (i := 12) sc.nd rfl (by first | exact Or.inl rfl | exact Or.inr rfl)) (pgs_cons (pg_name (i := 13) sc.nd rfl (by first | exact Or.inl rfl | exact Or.inr rfl)) pgs_nil)))) (fun _ _ _ _ _ => w_tnil) (fun _ _ _ _ _ => (w_op op_modN snd_modN (w_op op_sub snd_sub (w_v (pv 12)) (w_op op_mul snd_mul (w_v (pv 11)) (w_v (pv 13)))) (w_v (pv 0)))))) (pg_sub (pv 2) (w_v (pv 10)) set_list))))))))))
     (w_snil pss_nil))))))))
  (w_one (w_ret (ps_ret (w_v (pv 3)))))), ?_⟩
  rintro ds kk ⟨p, rows, n, rfl, h2, h3, hl, hn, hrow, k⟩
  have fm : ∀ x : Int, x.fmod p = x % p := fun x => Int.fmod_eq_emod_of_nonneg x (by omega)
  refine ⟨_, rfl, _, rfl, lcP_all li (fun row => li (rowMod p row)) (fun row hrw => ?_) (Nat.le_trans hl (by decide)) ?_⟩
  · refine ⟨_, rfl, _, rfl, lcP_all Da.int (fun x => Da.int (x % p)) (fun x _ => ?_) ?_ ?_⟩
    · refine ⟨_, rfl, _, rfl, _, _, rfl, rfl, (by omega : p ≠ 0), ?_, rfl⟩
      exact congrArg Da.int (fm x)
    · rw [hrow row hrw]
      exact Nat.le_trans hn (by decide)
    · refine ⟨?_, rfl⟩
      rw [rowMod, li, List.map_map]
      rfl
  intro a0 ha0
  have hp : 0 < p := by omega
  have hlen : (rows.map li).length = rows.length := List.length_map _
  refine ⟨_, rfl, _, .inl rfl, _, rfl, by omega, by omega, ?_⟩
  refine loopF_inv (fun j ρ => ∃ (left : List (List Int)) (found : Nat) (s4 s5 s6 s7 s8 s9 s10 s11 : Option Sl),
    ρ = [some (.dat (.int p)), some (.dat (.lst (rows.map li))), some (.gro a0 (left.map li)), some (.dat (.int found)), s4, s5, s6, s7, s8, s9, s10, s11, none, none] ∧ left.length = rows.length ∧ (∀ q ∈ left, Mod p n q) ∧
    found + rr p (rows.length - j) (left.drop j) = rowRank p rows) ⟨rows.map (rowMod p), 0, none, none, none, none, none, none, none, none, ?_, List.length_map _, ?_, ?_⟩ ?_ ?_
  · rw [List.map_map]
    rfl
  · intro q hq
    obtain ⟨r, hr, rfl⟩ := List.mem_map.mp hq
    rw [← hrow r hr]
    exact mod_row hp r
  · rw [Nat.zero_add]
    rfl
  · rintro j x ρ hj ⟨left, found, s4, s5, s6, s7, s8, s9, s10, s11, rfl, l1, l2, l3⟩
    obtain ⟨j', hj', rfl⟩ := map_get hj
    have hjn : j < rows.length := by
      have := (List.getElem?_eq_some_iff.mp hj').1
      rw [List.length_range, hlen] at this
      exact this
    have ej : j' = j := by
      rw [List.getElem?_range (by rw [hlen]; exact hjn)] at hj'
      exact (Option.some.inj hj').symm
    subst ej
    have hj1 : j' < left.length := by omega
    obtain ⟨row, hrow'⟩ : ∃ row, left[j']? = some row := ⟨_, List.getElem?_eq_getElem hj1⟩
    have mrow := l2 row (List.mem_of_getElem? hrow')
    have edrop : left.drop j' = row :: left.drop (j' + 1) := drop_at hrow'
    have e0 : rows.length - j' = (rows.length - (j' + 1)) + 1 := by omega
    rw [edrop, e0] at l3
    refine ⟨a0, _, rfl, _, rfl, _, (j' : Int), li row, rfl, by rw [Int.zero_add], ?_, ?_⟩
    · rw [atI_map, Fw.atI_nat hrow']
      rfl
    refine ⟨_, rfl, row.map Da.int, rfl, ?_⟩
    rw [enum_ints]
    refine lcP_src (fun i : Nat => Da.tup [.int (i : Int), .int (row.getD i 0)]) (fun i => decide (row.getD i 0 ≠ 0)) (fun i : Nat => Da.int (i : Int)) (fun i _ => ?_) ?_ ?_
    · refine ⟨_, rfl, rfl, _, _, rfl, _, _, rfl, rfl, _, rfl, .int (row.getD i 0), .int 0, rfl, rfl, rfl, rfl, _, rfl, ?_, fun _ => ⟨_, rfl, rfl, rfl⟩, fun _ => rfl⟩
      exact ne0 _
    · rw [List.length_range, mrow.1]
      exact Nat.le_trans (by simpa using hn) (by decide)
    have es : ([] ++ ((List.range row.length).filter fun i => decide (row.getD i 0 ≠ 0)).map fun i : Nat => Da.int (i : Int)) = ((spots row).map fun i : Nat => (i : Int)).map Da.int := by
      rw [List.nil_append, List.map_map]
      rfl
    rw [es]
    refine ⟨_, rfl, by decide, _, _, py_li _, rfl, shaped_ints _, shaped_ints [], _, rfl, bite (fun hb => ?_) fun hb => ?_⟩
    · rw [eqv_listN] at hb
      obtain ⟨k0, tl, hs⟩ : ∃ k0 tl, spots row = k0 :: tl := by
        cases h : spots row with
        | nil =>
          rw [h] at hb
          cases hb
        | cons a r => exact ⟨a, r, rfl⟩
      have hk0 : k0 < n := by
        have : k0 ∈ spots row := by rw [hs]; exact List.mem_cons_self
        have := List.mem_range.mp (List.mem_filter.mp this).1
        rw [mrow.1] at this
        exact this
      have hk8 : ∀ q : List Int, Mod p n q → atI (q.map Da.int) (k0 : Int) = some (.int (q.getD k0 0)) := fun q hq => by
        have hlt : k0 < q.length := by rw [hq.1]; exact hk0
        rw [atI_map, Fw.atI_nat (List.getElem?_eq_getElem hlt), List.getD_eq_getElem?_getD, List.getElem?_eq_getElem hlt]
        rfl
      refine ⟨_, rfl, _, (0 : Int), .int (k0 : Int), rfl, rfl, by rw [hs]; exact Fw.atI_nat (j := 0) rfl, _, rfl, _, _, rfl, rfl, trivial, ?_⟩
      refine ⟨_, rfl, _, rfl, _, rfl, _, (k0 : Int), _, rfl, rfl, hk8 row mrow, p, row.getD k0 0, rfl, h2, h3, fun r r0 r1 re => ?_⟩
      have er : r = inv p (row.getD k0 0) := by
        unfold inv
        rw [← re, Int.emod_eq_of_lt r0 r1]
      subst er
      refine ⟨_, rfl, _, _, rfl, rfl, trivial, _, rfl, _, .inl rfl, _, _, rfl, ⟨by omega, by omega, by omega, by omega⟩, ?_⟩
      have hA : (left.take (j' + 1)).length = j' + 1 := by rw [List.length_take]; omega
      have hR : (left.drop (j' + 1)).length = rows.length - (j' + 1) := by rw [List.length_drop]; omega
      have mR : ∀ q ∈ left.drop (j' + 1), Mod p n q := fun q hq => l2 q (List.mem_of_mem_drop hq)
      have hsp : left.take (j' + 1) ++ left.drop (j' + 1) = left := List.take_append_drop _ _
      generalize left.drop (j' + 1) = R at hR mR l3 hsp
      have hc0 : left.take (j' + 1) ++ ((R.take 0).map (clr p row k0) ++ R.drop 0) = left := by simpa using hsp
      have hcnt : (((rows.map li).length : Int) - ((0 : Int) + (j' : Int) + 1)).toNat = R.length := by omega
      rw [hcnt]
      have rinv : 0 ≤ inv p (row.getD k0 0) ∧ inv p (row.getD k0 0) < p := ⟨r0, r1⟩
      refine loopF_inv (fun i ρ => ∃ (s4 s7 s10 s11 : Option Sl), ρ = [some (.dat (.int p)), some (.dat (.lst (rows.map li))), some (.gro a0 ((left.take (j' + 1) ++ ((R.take i).map (clr p row k0) ++ R.drop i)).map li)), some (.dat (.int ((found : Int) + 1))), s4, some (.dat (li row)),
        some (.dat (.int (0 + (j' : Int)))), s7, some (.dat (.int (k0 : Int))), some (.dat (.int (inv p (row.getD k0 0)))), s10, s11, none, none]) ⟨none, some (.dat (.lst (((spots row).map fun i : Nat => (i : Int)).map Da.int))), s10, s11, ?_⟩ ?_ ?_
      · rw [hc0]
        rfl
      · rintro i x ρ hi ⟨t4, t7, t10, t11, rfl⟩
        obtain ⟨i', hi', rfl⟩ := map_get hi
        have hiR : i < R.length := by
          have := (List.getElem?_eq_some_iff.mp hi').1
          rwa [List.length_range] at this
        have ei : i' = i := by
          rw [List.getElem?_range hiR] at hi'
          exact (Option.some.inj hi').symm
        subst ei
        obtain ⟨q, hq⟩ : ∃ q, R[i']? = some q := ⟨_, List.getElem?_eq_getElem hiR⟩
        have mq := mR q (List.mem_of_getElem? hq)
        have hget := cur_get (left.take (j' + 1)) R (clr p row k0) hq
        have hset := cur_set (left.take (j' + 1)) R (clr p row k0) hq
        rw [hA] at hget hset
        have ejj : (0 : Int) + (j' : Int) + 1 + (i' : Int) = ((j' + 1 + i' : Nat) : Int) := by omega
        rw [ejj]
        have bq := getD_lt hp mq k0
        have hat : atI ((left.take (j' + 1) ++ ((R.take i').map (clr p row k0) ++ R.drop i')).map li) ((j' + 1 + i' : Nat) : Int) = some (li q) := by
          rw [atI_map, Fw.atI_nat hget]
          rfl
        refine ⟨a0, _, rfl, _, rfl, _, _, li q, rfl, rfl, hat, _, rfl, _, (k0 : Int), _, rfl, rfl, hk8 q mq, _, rfl, _, _, rfl, rfl, .inl ⟨by omega, by omega⟩, ?_⟩
        refine ⟨a0, _, rfl, _, rfl, _, _, li q, rfl, rfl, hat, _, rfl, q.map Da.int, row.map Da.int, rfl, ?_⟩
        rw [zip_ints]
        refine lcP_all (fun z : Int × Int => Da.tup [.int z.1, .int z.2]) (fun z => Da.int ((z.1 - q.getD k0 0 * inv p (row.getD k0 0) * z.2) % p)) (fun z hz => ?_) ?_ ?_
        · have hz2 : z.2 ∈ row := (List.of_mem_zip hz).2
          have bz := mrow.2 _ hz2
          refine ⟨_, rfl, rfl, _, _, rfl, _, _, rfl, rfl, _, rfl, _, rfl, _, rfl, _, _, rfl, rfl, .inr ⟨by omega, by omega⟩, _, _, rfl, rfl, trivial, _, rfl, _, _, rfl, rfl, (by omega : p ≠ 0), ?_, rfl⟩
          exact congrArg Da.int (fm _)
        · rw [List.length_zip, mq.1, mrow.1, Nat.min_self]
          exact Nat.le_trans hn (by decide)
        · have ec : Da.lst ((List.zip q row).map fun z => Da.int ((z.1 - q.getD k0 0 * inv p (row.getD k0 0) * z.2) % p)) = li (clr p row k0 q) := by
            rw [clr, li, List.map_zipWith, List.map_zip_eq_zipWith]
            rfl
          rw [ec]
          refine ⟨a0, _, rfl, _, rfl, _, _, j' + 1 + i', rfl, rfl, ?_, t4, t7, some (.dat (.int ((j' + 1 + i' : Nat) : Int))), some (.dat (.int (q.getD k0 0 * inv p (row.getD k0 0)))), ?_⟩
          · have hlt : j' + 1 + i' < ((left.take (j' + 1) ++ ((R.take i').map (clr p row k0) ++ R.drop i')).map li).length := by
              rw [List.length_map]
              exact (List.getElem?_eq_some_iff.mp hget).1
            unfold ixN
            rw [if_pos (by omega), if_pos (by omega)]
            rfl
          · rw [← hset, List.map_set]
            rfl
      · rintro ρ ⟨t4, t7, t10, t11, rfl⟩
        have el : (rgD (0 + (j' : Int) + 1) R.length).length = R.length := by simp [rgD]
        rw [el, List.take_length, List.drop_length, List.append_nil]
        refine ⟨left.take (j' + 1) ++ R.map (clr p row k0), found + 1, _, _, _, _, _, _, _, _, rfl, ?_, ?_, ?_⟩
        · rw [List.length_append, List.length_map, hA, hR]
          omega
        · intro q hq
          rcases List.mem_append.mp hq with z | z
          · exact l2 q (List.mem_of_mem_take z)
          · obtain ⟨y, hy, rfl⟩ := List.mem_map.mp z
            exact mod_clr hp mrow (mR y hy)
        · have ed : (left.take (j' + 1) ++ R.map (clr p row k0)).drop (j' + 1) = R.map (clr p row k0) := by
            have := List.drop_left (l₁ := left.take (j' + 1)) (l₂ := R.map (clr p row k0))
            rwa [hA] at this
          rw [ed, ← l3]
          show _ = found + (match spots row with | [] => _ | k :: _ => _)
          rw [hs]
          show found + 1 + _ = found + (1 + _)
          omega
    · rw [eqv_listN] at hb
      have hs : spots row = [] := by
        cases h : spots row with
        | nil => rfl
        | cons a r =>
          rw [h] at hb
          cases hb
      refine ⟨left, found, _, _, _, _, _, _, _, _, rfl, l1, l2, ?_⟩
      rw [← l3]
      show _ = found + (match spots row with | [] => _ | k :: _ => _)
      rw [hs]
  · rintro ρ ⟨left, found, s4, s5, s6, s7, s8, s9, s10, s11, rfl, l1, l2, l3⟩
    have e : (rgD 0 ((rows.map li).length : Int).toNat).length = rows.length := by simp [rgD]
    rw [e, Nat.sub_self] at l3
    have e2 : rr p 0 (left.drop rows.length) = 0 := rfl
    rw [e2, Nat.add_zero] at l3
    subst l3
    exact ⟨_, rfl, k⟩
end
end Fv
namespace Fv
open PySem PySem.Spec PyProof.Rows L2 Fr Fw
section
variable {P : Program} {w : World} {L : Ly} {mg : Str → Option Value} {base : Heap} {f : Addr} {fd : FuncData}
/-! ### _law_can_be_freer -/
abbrev s_law_can_be_freer : Stmt := topS 54
theorem sc_law_can_be_freer : FnScope ["sketch", "size", "bases_here", "found", "lot", "smaller", "item", "one"] ["sketch"] (C8.fnScope s_law_can_be_freer) := C8.fnScope_by (by decide +kernel)
def rangeI (n : Nat) : List Int := (List.range n).map fun i : Nat => (i : Int)
def freerOk (n : Nat) (bs : List (List Int)) (lot : List Int) : Bool := decide (lot ∉ bs) && decide (closL n bs lot = lot) && lot.all fun i => decide (¬ rankL bs (lessL lot [i]) < (lessL lot [i]).length)
def freerL (n r : Nat) (bs : List (List Int)) : List (List Int) := (lotsL (rangeI n) r).filter (freerOk n bs)
def fFree : Pf := ⟨fun xs k => ∃ (n r : Nat) (bs : List (List Int)), xs = [skD n bs] ∧ n ≤ 8 ∧ bs ≠ [] ∧ bs.length ≤ 1000 ∧ r ≤ 8 ∧ (∀ b ∈ bs, b.length = r) ∧ k (lti (freerL n r bs)), fun h ⟨n, r, bs, e, a, b, c, d, l, q⟩ => ⟨n, r, bs, e, a, b, c, d, l, h _ q⟩⟩
theorem rgD_I (n : Nat) : rgD 0 n = (rangeI n).map Da.int := by
  rw [rgD0, rangeI, List.map_map]
  rfl
theorem ok_law_can_be_freer (Fd : C8.Def L.K mg "_law_can_be_freer" s_law_can_be_freer f fd) (b : Binds L.K fd ["sketch"] []) (B : Bw mg)
    (c_law_lots : CalG P w L.K mg base C8.CX0 1 "_law_lots" (spF L fLots)) (c_law_closure_in : CalG P w L.K mg base C8.CX0 3 "_law_closure_in" (spF L fClos))
    (c_law_less : CalG P w L.K mg base C8.CX0 1 "_law_less" (spF L (f2T fun a b => ti (lessL a b)))) (c_law_rank_in : CalG P w L.K mg base C8.CX0 2 "_law_rank_in" (spF L fRank)) :
    CalG P w L.K mg base C8.CX0 4 "_law_can_be_freer" (spF L fFree) := by
  have sc := sc_law_can_be_freer
  refine calF (n := 7) Fd b sc ?_ (fun vs h => start_eq (by rw [h]; rfl)) fun cdv A outer s H E hr hgu => ?_
  · rintro ds k ⟨n, r, bs, rfl, _⟩
    rfl
  refine ⟨_, w_seq (w_asg (snd_tgTup (n := 2) (snd_tgCons snd_tgN (snd_tgCons snd_tgN snd_tgNil))) (ps_asg (w_v (pv 0)) (pg_tup (n := 2) (by rfl) (pgs_cons (pg_name (i := 1) sc.nd rfl (by first | exact Or.inl rfl | exact Or.inr rfl)) (pgs_cons (pg_name (i := 2) sc.nd rfl (by first | exact Or.inl rfl | exact Or.inr rfl)) pgs_nil)))))
  (w_seq (w_setZ (ps_set (i := 3) sc.nd rfl (by first | exact Or.inl rfl | exact Or.inr rfl) (w_zN (w_nlst w_nil))))
  (w_seq (w_forI snd_tgN (ps_for PassesOwn.never rfl (w_il (pi_list (w_call c_law_lots hr (by decide) hgu rfl (w_cons (w_listRg (pe_listRg rfl (by rfl) B.list (prg_1 (by rfl) B.range (w_v (pv 1))))) (w_cons (w_tCB snd_len (pe_callB call_len_seq (by rfl) B.len (by decide +kernel) (w_cons (w_ix ix_list snd_ix (w_v (pv 2)) (w_int (kd := 0) pe_int) (fun _ _ => rfl)) w_nil))) w_nil))))) (pg_name (i := 4) sc.nd rfl (by first | exact Or.inl rfl | exact Or.inr rfl))
   (w_one (w_if (ps_if (w_pt (w_and (pw_and (w_cmpT (op_notInD (units65 hr)) snd_notInD (w_v (pv 4)) (w_v (pv 2)) (by rfl)) (pw_and1 (w_cmpT (op_eqD hr.units) snd_eq (w_call c_law_closure_in hr (by decide) hgu rfl (w_cons (w_v (pv 0)) (w_cons (w_v (pv 4)) w_nil))) (w_v (pv 4)) (nomark _))))))
     (w_seq (w_setLc (sndv_N (by decide)) (ps_setLc (i := 5) (own := [("item", 6)]) (by rfl) sc.nd rfl (by rfl) (sw_true rfl (by rfl) rfl (by decide +kernel)) (w_it (pi_tup (w_v (pv 4)))) (blkOk_by (by kernel_rfl)) (fun _ _ _ _ _ => (pg_name (i := 6) sc.nd rfl (by first | exact Or.inl rfl | exact Or.inr rfl))) (fun _ _ _ _ _ => w_tnil) (fun _ _ _ _ _ => (w_call c_law_less hr (by decide) hgu rfl (w_cons (w_v (pv 4)) (w_cons (w_tup (w_cons (w_v (pv 6)) w_nil)) w_nil))))))
      (w_one (w_if (ps_if (w_cmpT (op_eqD hr.units) snd_eq (w_lc (sndv_N (by decide)) (pe_lc (own := [("one", 7)]) (by rfl) sc.nd (w_il (pi_list (w_v (pv 5)))) (blkOk_by (by kernel_rfl)) (fun _ _ _ _ _ => (pg_name (i := 7) sc.nd rfl (by first | exact Or.inl rfl | exact Or.inr rfl))) (fun _ _ _ _ _ => w_tone (w_cmpT op_lt snd_lt (w_call c_law_rank_in hr (by decide) hgu rfl (w_cons (w_v (pv 2)) (w_cons (w_v (pv 7)) w_nil))) (w_tCB snd_len (pe_callB call_len_seq (by rfl) B.len (by decide +kernel) (w_cons (w_v (pv 7)) w_nil))) (nomark _))) (fun _ _ _ _ _ => (w_v (pv 7))))) (w_lst w_nil) (nomark _))
       (w_one (w_app (ps_expr (pe_bm PySem.F.plainAttrs_list PySem.F.slot_list_append PySem.F.type_list_append mt_append (pv 3) (pa_cons (w_v (pv 4)) pa_nil)))))
       (w_snil pss_nil)))))
     (w_snil pss_nil))))))
  (w_one (w_ret (ps_ret (w_frz (pv 3))))))), ?_⟩
  rintro ds kk ⟨n, r, bs, rfl, hn, hne, hl, hr8, hb, k⟩
  obtain ⟨b0, tl, rfl⟩ : ∃ b0 tl, bs = b0 :: tl := by
    cases bs with
    | nil => exact absurd rfl hne
    | cons a t => exact ⟨a, t, rfl⟩
  refine ⟨_, rfl, _, rfl, rfl, _, _, rfl, _, _, rfl, rfl, ?_⟩
  refine ⟨by decide, fun q hq => ?_⟩
  have hI : (rangeI n).length ≤ 8 := by
    rw [rangeI, List.length_map, List.length_range]
    exact hn
  refine ⟨_, rfl, (n : Int), rfl, by omega, by omega, _, rfl, _, (0 : Int), ti b0, rfl, rfl, Fw.atI_nat (j := 0) rfl, _, .inr rfl, rangeI n, r, ?_, hI, hr8, _, rfl, ?_⟩
  · show [Da.lst (rgD 0 n), Da.int ((b0.map Da.int).length : Int)] = _
    rw [rgD_I, List.length_map, hb b0 List.mem_cons_self]
  generalize hbs : b0 :: tl = bs at *
  have hlots : (lotsL (rangeI n) r).length ≤ sizeLine := Nat.le_trans (lotsL_len _ hI r) (pow8 hr8)
  refine loopF_inv (fun j ρ => ∃ s4 s5 : Option Sl, ρ = [some (.dat (skD n bs)), some (.dat (.int n)), some (.dat (lti bs)), some (.gro q ((((lotsL (rangeI n) r).take j).filter (freerOk n bs)).map ti)), s4, s5, none, none]) ⟨none, none, rfl⟩ ?_ ?_
  · rintro j x ρ hj ⟨s4, s5, rfl⟩
    obtain ⟨lot, hlot, rfl⟩ := map_get hj
    have hj2 : j < (lotsL (rangeI n) r).length := (List.getElem?_eq_some_iff.mp hlot).1
    have hl8 : lot.length ≤ 8 := by
      rw [lotsL_each _ _ _ (List.mem_of_getElem? hlot)]
      exact hr8
    have hyes : freerOk n bs lot = true → ((lotsL (rangeI n) r).take (j + 1)).filter (freerOk n bs) = ((lotsL (rangeI n) r).take j).filter (freerOk n bs) ++ [lot] := fun h => by
      rw [take_more hlot, List.filter_append, List.filter_cons_of_pos h]
      rfl
    have hno : freerOk n bs lot = false → ((lotsL (rangeI n) r).take (j + 1)).filter (freerOk n bs) = ((lotsL (rangeI n) r).take j).filter (freerOk n bs) := fun h => by
      rw [take_more hlot, List.filter_append, List.filter_cons_of_neg (by simp [h])]
      simp
    refine ⟨_, rfl, _, rfl, pti lot, bs.map pti, py_ti _, py_lti _, shaped_ti _, shaped_lti _, _, rfl, bite (fun h1 => ?_) fun h1 => ?_⟩
    · rw [if_pos rfl, any_ti] at h1
      have h1 : lot ∉ bs := by simpa using h1
      refine ⟨_, rfl, _, rfl, n, bs, lot, rfl, hn, hne, hl, by omega, _, rfl, pti (closL n bs lot), pti lot, py_ti _, py_ti _, shaped_ti _, shaped_ti _, _, rfl, bite (fun h2 => ?_) fun h2 => ?_⟩
      · rw [eqv_ti] at h2
        have h2 : closL n bs lot = lot := of_decide_eq_true h2
        refine ⟨_, rfl, _, rfl, lcP_all Da.int (fun i => ti (lessL lot [i])) (fun i _ => ?_) (Nat.le_trans hl8 (by decide)) ?_⟩
        · exact ⟨_, rfl, _, rfl, (by decide : 1 ≤ sizeLine), lot, [i], rfl, by omega, rfl, rfl⟩
        refine ⟨_, rfl, _, rfl, lcP_src (fun i => ti (lessL lot [i])) (fun i => decide (rankL bs (lessL lot [i]) < (lessL lot [i]).length)) (fun i => ti (lessL lot [i])) (fun i _ => ?_) ?_ ?_⟩
        · have hll := less_len lot [i]
          refine ⟨_, rfl, _, rfl, bs, lessL lot [i], rfl, hne, hl, by omega, _, rfl, _, .inr rfl, _, _, rfl, rfl, trivial, _, rfl, ?_, fun _ => ⟨_, rfl, rfl, rfl⟩, fun _ => rfl⟩
          rw [List.length_map]
          by_cases h : rankL bs (lessL lot [i]) < (lessL lot [i]).length
          · have h' : (rankL bs (lessL lot [i]) : Int) < ((lessL lot [i]).length : Int) := by omega
            simp [h]
          · have h' : ¬ (rankL bs (lessL lot [i]) : Int) < ((lessL lot [i]).length : Int) := by omega
            simp [h]
        · simp only [List.length_nil, Nat.zero_add]
          exact Nat.le_trans hl8 (by decide)
        have e : ([] ++ (lot.filter fun i => decide (rankL bs (lessL lot [i]) < (lessL lot [i]).length)).map fun i => ti (lessL lot [i])) = ((lot.filter fun i => decide (rankL bs (lessL lot [i]) < (lessL lot [i]).length)).map fun i => lessL lot [i]).map ti := by
          rw [List.nil_append, List.map_map]
          rfl
        rw [e]
        have hiff : (lot.filter fun i => decide (rankL bs (lessL lot [i]) < (lessL lot [i]).length)) = [] ↔ freerOk n bs lot = true := by
          unfold freerOk
          rw [List.filter_eq_nil_iff, Bool.and_eq_true, Bool.and_eq_true, List.all_eq_true]
          constructor
          · intro h
            exact ⟨⟨decide_eq_true h1, decide_eq_true h2⟩, fun i hi => decide_eq_true fun z => h i hi (decide_eq_true z)⟩
          · rintro ⟨_, h⟩ i hi z
            exact of_decide_eq_true (h i hi) (of_decide_eq_true z)
        refine ⟨by decide, _, _, py_lti _, rfl, shaped_lti _, shaped_lti [], _, rfl, bite (fun h3 => ?_) fun h3 => ?_⟩
        · rw [eqv_listN] at h3
          have h4 : freerOk n bs lot = true := hiff.mp (by
            cases hf : lot.filter fun i => decide (rankL bs (lessL lot [i]) < (lessL lot [i]).length) with
            | nil => rfl
            | cons a t =>
              rw [hf] at h3
              cases h3)
          refine ⟨q, _, rfl, _, rfl, _, rfl, ?_, some (.dat (ti lot)), some (.dat (.lst (lot.map fun i => ti (lessL lot [i])))), ?_⟩
          · have := List.length_filter_le (freerOk n bs) ((lotsL (rangeI n) r).take j)
            rw [List.length_take] at this
            rw [List.length_map]
            omega
          · rw [hyes h4, List.map_append]
            rfl
        · rw [eqv_listN] at h3
          have h4 : freerOk n bs lot = false := by
            cases hx : freerOk n bs lot with
            | false => rfl
            | true =>
              rw [hiff.mpr hx] at h3
              cases h3
          rw [hno h4]
          exact ⟨_, _, rfl⟩
      · rw [eqv_ti] at h2
        have h2 : ¬ closL n bs lot = lot := of_decide_eq_false h2
        rw [hno (by unfold freerOk; simp [h2])]
        exact ⟨_, _, rfl⟩
    · rw [if_pos rfl, any_ti] at h1
      have h1 : lot ∈ bs := by simpa using h1
      rw [hno (by unfold freerOk; simp [h1])]
      exact ⟨_, _, rfl⟩
  · rintro ρ ⟨s4, s5, rfl⟩
    rw [List.length_map, List.take_length]
    exact ⟨q, _, rfl, k⟩
end
end Fv
namespace Fv
open PySem PySem.Spec PyProof.Rows L2 Fr Fw
section
variable {P : Program} {w : World} {L : Ly} {mg : Str → Option Value} {base : Heap} {f : Addr} {fd : FuncData}
/-! ### _law_near -/
def fNear : Pf := ⟨fun xs k => ∃ (n r : Nat) (bs : List (List Int)), xs = [skD n bs] ∧ n ≤ 8 ∧ bs ≠ [] ∧ bs.length ≤ 1000 ∧ r ≤ 8 ∧ (∀ b ∈ bs, b.length = r) ∧ (∀ b ∈ bs, b ∈ lotsL (rangeI n) r) ∧ bs.Nodup ∧
  lotsL (rangeI n) r ≠ [] ∧ (lotsL (rangeI n) r).length ≤ 1000 ∧
  ∀ near : List (List Int), near.Nodup → (∀ x ∈ near, x ∈ lotsL (rangeI n) r) → near.length ≤ 1002 → k (lti near), fun h ⟨n, r, bs, e, a, b, c, d, l, m, o, p1, p2, q⟩ => ⟨n, r, bs, e, a, b, c, d, l, m, o, p1, p2, fun x y z t => h _ (q x y z t)⟩⟩
end
end Fv
namespace Fv
/-! # exchange, out of a rank -/
/-- what is asked of a rank of lots -/
structure RankFn (r : List Int → Nat) : Prop where
  nil : r [] = 0
  mono : ∀ {a b : List Int}, (∀ x ∈ a, x ∈ b) → r a ≤ r b
  unit : ∀ (x : Int) (a : List Int), r (x :: a) ≤ r a + 1
  span : ∀ (a t : List Int), (∀ x ∈ t, r (x :: a) = r a) → r (a ++ t) = r a
section
variable {r : List Int → Nat} (R : RankFn r)
include R
theorem rank_le : ∀ a : List Int, r a ≤ a.length
  | [] => by rw [R.nil]; exact Nat.le_refl _
  | x :: a => by
    have h1 := R.unit x a
    have h2 := rank_le a
    show r (x :: a) ≤ a.length + 1
    omega
theorem rank_ext {a b : List Int} (h : ∀ x, x ∈ a ↔ x ∈ b) : r a = r b := Nat.le_antisymm (R.mono fun x hx => (h x).mp hx) (R.mono fun x hx => (h x).mpr hx)
theorem mem_less {a b : List Int} {y : Int} : y ∈ lessL a b ↔ y ∈ a ∧ y ∉ b := by
  unfold lessL
  rw [List.mem_filter, decide_eq_true_iff]
theorem len_less1 : ∀ {a : List Int} {x : Int}, a.Nodup → x ∈ a → (lessL a [x]).length + 1 = a.length
  | y :: a, x, nd, hx => by
    obtain ⟨n1, n2⟩ := List.nodup_cons.mp nd
    by_cases e : x = y
    · subst e
      have h1 : lessL (x :: a) [x] = a := by
        unfold lessL
        rw [List.filter_cons_of_neg (by simp)]
        exact List.filter_eq_self.mpr fun z hz => by
          have : z ≠ x := fun e => n1 (e ▸ hz)
          simp [this]
      rw [h1]
      rfl
    · have hx' : x ∈ a := by
        rcases List.mem_cons.mp hx with z | z
        · exact absurd z e
        · exact z
      have h1 : lessL (y :: a) [x] = y :: lessL a [x] := by
        unfold lessL
        exact List.filter_cons_of_pos (by
          have : y ≠ x := fun z => e z.symm
          simp [this])
      have := len_less1 n2 hx'
      rw [h1, List.length_cons, List.length_cons]
      omega
theorem rank_less1 {a : List Int} {x : Int} (nd : a.Nodup) (hx : x ∈ a) (hf : r a = a.length) : r (lessL a [x]) + 1 = a.length := by
  have h1 := len_less1 R nd hx
  have h2 := rank_le R (lessL a [x])
  have h3 : r a ≤ r (x :: lessL a [x]) := R.mono fun y hy => by
    by_cases e : y = x
    · rw [e]; exact List.mem_cons_self
    · exact List.mem_cons_of_mem _ ((mem_less R).mpr ⟨hy, by simpa using e⟩)
  have h4 := R.unit x (lessL a [x])
  omega
/-- two free lots of one length: each thing of one can be exchanged for one of the other -/
theorem rank_exch {b c : List Int} {x : Int} (nb : b.Nodup) (hb : r b = b.length) (hc : r c = c.length) (hl : b.length = c.length) (hx : x ∈ b) (hxc : x ∉ c) : ∃ y ∈ lessL c b, r (y :: lessL b [x]) = b.length := by
  have h1 := rank_less1 R nb hx hb
  cases h : (lessL c b).any fun y => decide (r (y :: lessL b [x]) = b.length) with
  | true =>
    obtain ⟨y, hy, e⟩ := List.any_eq_true.mp h
    exact ⟨y, hy, of_decide_eq_true e⟩
  | false =>
    exfalso
    have hall : ∀ y ∈ c, r (y :: lessL b [x]) = r (lessL b [x]) := fun y hy => by
      by_cases hyb : y ∈ b
      · refine rank_ext R fun z => ⟨fun hz => ?_, fun hz => List.mem_cons_of_mem _ hz⟩
        rcases List.mem_cons.mp hz with e | hz
        · rw [e]
          exact (mem_less R).mpr ⟨hyb, fun z => hxc (List.mem_singleton.mp z ▸ hy)⟩
        · exact hz
      · have h2 := R.unit y (lessL b [x])
        have h3 : r (lessL b [x]) ≤ r (y :: lessL b [x]) := R.mono fun z hz => List.mem_cons_of_mem _ hz
        have h4 : r (y :: lessL b [x]) ≠ b.length := fun e => by
          have : (lessL c b).any (fun y => decide (r (y :: lessL b [x]) = b.length)) = true := List.any_eq_true.mpr ⟨y, (mem_less R).mpr ⟨hy, hyb⟩, decide_eq_true e⟩
          rw [h] at this
          cases this
        omega
    have h5 := R.span _ _ hall
    have h6 : r c ≤ r (lessL b [x] ++ c) := R.mono fun z hz => List.mem_append.mpr (.inr hz)
    omega
end
end Fv
namespace Fv
/-! # the lots of a length; the free ones of a rank have exchange -/
theorem okN_iff {t : List Int} {i : Int} (h : t.Pairwise (· < ·)) : okN t i = true ↔ ∀ x ∈ t, x < i := by
  unfold okN
  cases e : t.getLast? with
  | none =>
    have : t = [] := List.getLast?_eq_none_iff.mp e
    subst this
    simp
  | some j =>
    simp only [decide_eq_true_iff]
    have hne : t ≠ [] := fun z => by subst z; cases e
    obtain ⟨u, hu⟩ : ∃ u, t = u ++ [j] := by
      obtain ⟨ys, hy⟩ := List.getLast?_eq_some_iff.mp e
      exact ⟨ys, hy⟩
    subst hu
    constructor
    · intro hj x hx
      rcases List.mem_append.mp hx with z | z
      · have := (List.pairwise_append.mp h).2.2 x z j (List.mem_singleton.mpr rfl)
        omega
      · rw [List.mem_singleton.mp z]
        exact hj
    · intro hx
      exact hx j (List.mem_append.mpr (.inr (List.mem_singleton.mpr rfl)))
theorem mem_lots {ns : List Int} : ∀ {k : Nat} {t : List Int}, t ∈ lotsL ns k ↔ t.Pairwise (· < ·) ∧ t.length = k ∧ ∀ x ∈ t, x ∈ ns
  | 0, t => by
    constructor
    · intro h
      have e : t = [] := by simpa [lotsL] using h
      subst e
      exact ⟨List.Pairwise.nil, rfl, fun _ h => by cases h⟩
    · rintro ⟨_, h, _⟩
      rw [List.length_eq_zero_iff.mp h]
      simp [lotsL]
  | k + 1, t => by
    constructor
    · intro h
      obtain ⟨u, hu, h⟩ := List.mem_flatMap.mp (show t ∈ (lotsL ns k).flatMap _ from h)
      obtain ⟨i, hi, rfl⟩ := List.mem_map.mp h
      obtain ⟨i1, i2⟩ := List.mem_filter.mp hi
      obtain ⟨u1, u2, u3⟩ := mem_lots.mp hu
      refine ⟨List.pairwise_append.mpr ⟨u1, by simp, fun a ha b hb => ?_⟩, by rw [List.length_append, u2]; rfl, fun x hx => ?_⟩
      · rw [List.mem_singleton.mp hb]
        exact (okN_iff u1).mp i2 a ha
      · rcases List.mem_append.mp hx with z | z
        · exact u3 x z
        · rw [List.mem_singleton.mp z]
          exact i1
    · rintro ⟨h1, h2, h3⟩
      have hne : t ≠ [] := fun e => by subst e; cases h2
      obtain ⟨u, j, rfl⟩ : ∃ u j, t = u ++ [j] := ⟨t.dropLast, t.getLast hne, (List.dropLast_concat_getLast hne).symm⟩
      obtain ⟨p1, _, p3⟩ := List.pairwise_append.mp h1
      have hu : u ∈ lotsL ns k := mem_lots.mpr ⟨p1, by rw [List.length_append] at h2; simpa using h2, fun x hx => h3 x (List.mem_append.mpr (.inl hx))⟩
      refine List.mem_flatMap.mpr ⟨u, hu, List.mem_map.mpr ⟨j, List.mem_filter.mpr ⟨h3 j (List.mem_append.mpr (.inr (List.mem_singleton.mpr rfl))), ?_⟩, rfl⟩⟩
      exact (okN_iff p1).mpr fun x hx => p3 x hx j (List.mem_singleton.mpr rfl)
theorem pw_nodup {t : List Int} (h : t.Pairwise (· < ·)) : t.Nodup := List.Pairwise.imp (fun {a b} (h : a < b) => by omega) h
theorem asc_len : ∀ {l : List Int}, l.Nodup → (asc l).length = l.length
  | [], _ => rfl
  | i :: r, h => by
    obtain ⟨h1, h2⟩ := List.nodup_cons.mp h
    have ih := asc_len h2
    have h3 : i ∉ asc r := fun z => h1 (mem_asc.mp z)
    show (ins i (asc r)).length = r.length + 1
    rw [← ih]
    clear ih h2 h1 h
    generalize asc r = s at h3
    induction s with
    | nil => rfl
    | cons j s ihs =>
      have hne : ¬ i = j := fun e => h3 (e ▸ List.mem_cons_self)
      have ih2 := ihs fun z => h3 (List.mem_cons_of_mem _ z)
      by_cases hlt : i < j
      · have e : ins i (j :: s) = i :: j :: s := by
          show (if i < j then _ else _) = _
          rw [if_pos hlt]
        rw [e]
        rfl
      · have e : ins i (j :: s) = j :: ins i s := by
          show (if i < j then _ else if i = j then _ else _) = _
          rw [if_neg hlt, if_neg hne]
        rw [e, List.length_cons, ih2]
        rfl
/-- the free lots of one length -/
def freeL (r : List Int → Nat) (ns : List Int) (k : Nat) : List (List Int) := (lotsL ns k).filter fun t => decide (r t = t.length)
theorem canEx_rank {r : List Int → Nat} (R : RankFn r) (ns : List Int) (k : Nat) : CanEx (freeL r ns k) := by
  intro one h1 other h2 item h3
  obtain ⟨a1, a2⟩ := List.mem_filter.mp h1
  obtain ⟨b1, b2⟩ := List.mem_filter.mp h2
  obtain ⟨a3, a4, a5⟩ := mem_lots.mp a1
  obtain ⟨b3, b4, b5⟩ := mem_lots.mp b1
  obtain ⟨i1, i2⟩ := (mem_less R).mp h3
  obtain ⟨y, hy, e⟩ := rank_exch R (pw_nodup a3) (of_decide_eq_true a2) (of_decide_eq_true b2) (a4.trans b4.symm) i1 i2
  refine ⟨y, hy, List.mem_filter.mpr ?_⟩
  obtain ⟨y1, y2⟩ := (mem_less R).mp hy
  have nd : (lessL one [item] ++ [y]).Nodup := by
    rw [List.nodup_append]
    refine ⟨(pw_nodup a3).filter _, by simp, fun a ha b hb e => ?_⟩
    rw [List.mem_singleton.mp hb] at e
    exact y2 (e ▸ ((mem_less R).mp ha).1)
  have hlen : (withL (lessL one [item]) [y]).length = k := by
    unfold withL
    rw [asc_len nd, List.length_append, List.length_singleton, len_less1 R (pw_nodup a3) i1, a4]
  have hr : r (withL (lessL one [item]) [y]) = one.length := by
    rw [← e]
    refine rank_ext R fun z => ?_
    unfold withL
    rw [mem_asc, List.mem_append, List.mem_singleton, List.mem_cons]
    exact Or.comm
  refine ⟨mem_lots.mpr ⟨pw_asc _, hlen, fun x hx => ?_⟩, decide_eq_true (by rw [hr, hlen, a4])⟩
  unfold withL at hx
  rw [mem_asc, List.mem_append] at hx
  rcases hx with z | z
  · exact a5 x ((mem_less R).mp z).1
  · rw [List.mem_singleton.mp z]
    exact b5 y y1
end Fv
namespace Fv
open Classical
/-! # the rank of ties -/
inductive Cn (tie : Int → Nat × Nat) (S : List Int) : Nat → Nat → Prop
  | refl (u : Nat) : Cn tie S u u
  | tie (i : Int) : i ∈ S → Cn tie S (tie i).1 (tie i).2
  | symm {u v : Nat} : Cn tie S u v → Cn tie S v u
  | trans {u v w : Nat} : Cn tie S u v → Cn tie S v w → Cn tie S u w
section
variable {tie : Int → Nat × Nat}
theorem Cn.mono {S T : List Int} (h : ∀ i ∈ S, Cn tie T (tie i).1 (tie i).2) {u v : Nat} (c : Cn tie S u v) : Cn tie T u v := by
  induction c with
  | refl u => exact .refl u
  | tie i hi => exact h i hi
  | symm _ ih => exact ih.symm
  | trans _ _ ih1 ih2 => exact ih1.trans ih2
theorem Cn.sub {S T : List Int} (h : ∀ i ∈ S, i ∈ T) {u v : Nat} (c : Cn tie S u v) : Cn tie T u v := c.mono fun i hi => .tie i (h i hi)
theorem cn_nil {u v : Nat} (c : Cn tie [] u v) : u = v := by
  induction c with
  | refl u => rfl
  | tie i hi => cases hi
  | symm _ ih => exact ih.symm
  | trans _ _ ih1 ih2 => exact ih1.trans ih2
/-- with one tie more -/
theorem cn_cons {x : Int} {S : List Int} {u v : Nat} (c : Cn tie (x :: S) u v) : Cn tie S u v ∨ (Cn tie S u (tie x).1 ∧ Cn tie S (tie x).2 v) ∨ (Cn tie S u (tie x).2 ∧ Cn tie S (tie x).1 v) := by
  induction c with
  | refl u => exact .inl (.refl u)
  | tie i hi =>
    rcases List.mem_cons.mp hi with e | hi
    · subst e
      exact .inr (.inl ⟨.refl _, .refl _⟩)
    · exact .inl (.tie i hi)
  | symm _ ih =>
    rcases ih with a | ⟨a, b⟩ | ⟨a, b⟩
    · exact .inl a.symm
    · exact .inr (.inr ⟨b.symm, a.symm⟩)
    · exact .inr (.inl ⟨b.symm, a.symm⟩)
  | trans _ _ ih1 ih2 =>
    rcases ih1 with a | ⟨a, b⟩ | ⟨a, b⟩
    · rcases ih2 with c | ⟨c, d⟩ | ⟨c, d⟩
      · exact .inl (a.trans c)
      · exact .inr (.inl ⟨a.trans c, d⟩)
      · exact .inr (.inr ⟨a.trans c, d⟩)
    · rcases ih2 with c | ⟨c, d⟩ | ⟨c, d⟩
      · exact .inr (.inl ⟨a, b.trans c⟩)
      · exact .inr (.inl ⟨a, d⟩)
      · exact .inl (a.trans d)
    · rcases ih2 with c | ⟨c, d⟩ | ⟨c, d⟩
      · exact .inr (.inr ⟨a, b.trans c⟩)
      · exact .inl (a.trans d)
      · exact .inr (.inr ⟨a, d⟩)
/-- the first place of its piece -/
def Fst (tie : Int → Nat × Nat) (S : List Int) (u : Nat) : Prop := ∀ v, v < u → ¬ Cn tie S v u
noncomputable def reps (tie : Int → Nat × Nat) (p : Nat) (S : List Int) : List Nat := (List.range p).filter fun u => decide (Fst tie S u)
theorem mem_reps {p : Nat} {S : List Int} {u : Nat} : u ∈ reps tie p S ↔ u < p ∧ Fst tie S u := by
  unfold reps
  rw [List.mem_filter, List.mem_range, decide_eq_true_iff]
theorem nodup_len {a b : List Nat} (na : a.Nodup) (h : ∀ x ∈ a, x ∈ b) : a.length ≤ b.length := by
  induction a generalizing b with
  | nil => exact Nat.zero_le _
  | cons x r ih =>
    obtain ⟨n1, n2⟩ := List.nodup_cons.mp na
    have hx := h x List.mem_cons_self
    have := ih (b := b.erase x) n2 fun y hy => (List.mem_erase_of_ne (fun e : y = x => n1 (by rw [← e]; exact hy))).mpr (h y (List.mem_cons_of_mem _ hy))
    rw [List.length_erase_of_mem hx] at this
    have := List.length_pos_of_mem hx
    rw [List.length_cons]
    omega
theorem reps_nodup {p : Nat} {S : List Int} : (reps tie p S).Nodup := List.nodup_range.filter _
theorem reps_mono {p : Nat} {S T : List Int} (h : ∀ i ∈ S, Cn tie T (tie i).1 (tie i).2) : (reps tie p T).length ≤ (reps tie p S).length :=
  nodup_len reps_nodup fun u hu => by
    obtain ⟨h1, h2⟩ := mem_reps.mp hu
    exact mem_reps.mpr ⟨h1, fun v hv c => h2 v hv (c.mono h)⟩
theorem reps_le {p : Nat} {S : List Int} : (reps tie p S).length ≤ p := by
  have := List.length_filter_le (fun u => decide (Fst tie S u)) (List.range p)
  rw [List.length_range] at this
  exact this
theorem reps_nil {p : Nat} : (reps tie p []).length = p := by
  have : reps tie p [] = List.range p := List.filter_eq_self.mpr fun u _ => decide_eq_true fun v hv c => by
    have := cn_nil c
    omega
  rw [this, List.length_range]
/-- one tie more takes at most one of the first places away -/
theorem reps_cons {p : Nat} {x : Int} {S : List Int} : (reps tie p S).length ≤ (reps tie p (x :: S)).length + 1 := by
  -- what is lost is one alone
  have lost : ∀ u, u ∈ reps tie p S → u ∉ reps tie p (x :: S) → ∀ w, w ∈ reps tie p S → w ∉ reps tie p (x :: S) → u = w := by
    have half : ∀ u, u ∈ reps tie p S → u ∉ reps tie p (x :: S) → ∃ v, v < u ∧ ((Cn tie S v (tie x).1 ∧ Cn tie S (tie x).2 u) ∨ (Cn tie S v (tie x).2 ∧ Cn tie S (tie x).1 u)) := by
      intro u hu hn
      obtain ⟨h1, h2⟩ := mem_reps.mp hu
      have h3 : ¬ Fst tie (x :: S) u := fun z => hn (mem_reps.mpr ⟨h1, z⟩)
      obtain ⟨v, hv⟩ := Classical.not_forall.mp h3
      obtain ⟨hv, c⟩ := Classical.not_imp.mp hv
      rcases cn_cons (Classical.not_not.mp c) with a | a | a
      · exact absurd a (h2 v hv)
      · exact ⟨v, hv, .inl a⟩
      · exact ⟨v, hv, .inr a⟩
    have up : ∀ {u w : Nat}, Fst tie S w → Cn tie S u w → w ≤ u := fun {u w} f c => by
      by_cases h : u < w
      · exact absurd c (f u h)
      · omega
    intro u hu hun w hw hwn
    obtain ⟨v, hv, a⟩ := half u hu hun
    obtain ⟨z, hz, b⟩ := half w hw hwn
    obtain ⟨_, fu⟩ := mem_reps.mp hu
    obtain ⟨_, fw⟩ := mem_reps.mp hw
    rcases a with ⟨a1, a2⟩ | ⟨a1, a2⟩
    · rcases b with ⟨b1, b2⟩ | ⟨b1, b2⟩
      · have e1 := up fw (a2.symm.trans b2)
        have e2 := up fu (b2.symm.trans a2)
        omega
      · have e1 := up fw (a1.trans b2)
        have e2 := up fu (b1.trans a2)
        omega
    · rcases b with ⟨b1, b2⟩ | ⟨b1, b2⟩
      · have e1 := up fw (a1.trans b2)
        have e2 := up fu (b1.trans a2)
        omega
      · have e1 := up fw (a2.symm.trans b2)
        have e2 := up fu (b2.symm.trans a2)
        omega
  by_cases h : ∃ u, u ∈ reps tie p S ∧ u ∉ reps tie p (x :: S)
  · obtain ⟨u, h1, h2⟩ := h
    have := nodup_len (a := reps tie p S) (b := u :: reps tie p (x :: S)) reps_nodup fun w hw => by
      by_cases hn : w ∈ reps tie p (x :: S)
      · exact List.mem_cons_of_mem _ hn
      · rw [lost w hw hn u h1 h2]
        exact List.mem_cons_self
    exact this
  · have := nodup_len (a := reps tie p S) (b := reps tie p (x :: S)) reps_nodup fun w hw => by
      by_cases hn : w ∈ reps tie p (x :: S)
      · exact hn
      · exact absurd ⟨w, hw, hn⟩ h
    omega
theorem fst_of {S : List Int} : ∀ (n e : Nat), e ≤ n → ∃ u, u ≤ e ∧ Fst tie S u ∧ Cn tie S u e
  | 0, e, h => by
    have : e = 0 := by omega
    subst this
    exact ⟨0, Nat.le_refl _, fun v hv => by omega, .refl _⟩
  | n + 1, e, h => by
    by_cases hf : Fst tie S e
    · exact ⟨e, Nat.le_refl _, hf, .refl _⟩
    · obtain ⟨v, hv⟩ := Classical.not_forall.mp hf
      obtain ⟨hv, c⟩ := Classical.not_imp.mp hv
      obtain ⟨u, h1, h2, h3⟩ := fst_of (S := S) n v (by omega)
      exact ⟨u, by omega, h2, h3.trans (Classical.not_not.mp c)⟩
theorem reps_less {p : Nat} {x : Int} {S : List Int} (h1 : (tie x).1 < p) (h2 : (tie x).2 < p) (hn : ¬ Cn tie S (tie x).1 (tie x).2) : (reps tie p (x :: S)).length < (reps tie p S).length := by
  obtain ⟨u, u1, u2, u3⟩ := fst_of (tie := tie) (S := S) _ (tie x).1 (Nat.le_refl _)
  obtain ⟨w, w1, w2, w3⟩ := fst_of (tie := tie) (S := S) _ (tie x).2 (Nat.le_refl _)
  have hne : u ≠ w := fun e => hn (by subst e; exact u3.symm.trans w3)
  have sub : ∀ {a b : Nat}, Cn tie S a b → Cn tie (x :: S) a b := fun c => c.sub fun i hi => List.mem_cons_of_mem _ hi
  have huw : Cn tie (x :: S) u w := (sub u3).trans ((Cn.tie x List.mem_cons_self).trans (sub w3).symm)
  have key : ∀ z, z < p → Fst tie S z → z ∉ reps tie p (x :: S) → (reps tie p (x :: S)).length < (reps tie p S).length := fun z hz hf hzn => by
    have := nodup_len (a := z :: reps tie p (x :: S)) (b := reps tie p S) (List.nodup_cons.mpr ⟨hzn, reps_nodup⟩) fun y hy => by
      rcases List.mem_cons.mp hy with e | hy
      · rw [e]
        exact mem_reps.mpr ⟨hz, hf⟩
      · obtain ⟨y1, y2⟩ := mem_reps.mp hy
        exact mem_reps.mpr ⟨y1, fun v hv c => y2 v hv (sub c)⟩
    rw [List.length_cons] at this
    exact this
  by_cases hlt : u < w
  · exact key w (by omega) w2 fun hm => (mem_reps.mp hm).2 u hlt huw
  · exact key u (by omega) u2 fun hm => (mem_reps.mp hm).2 w (by omega) huw.symm
/-- the rank of ties between p places -/
noncomputable def tieR (tie : Int → Nat × Nat) (p : Nat) (S : List Int) : Nat := p - (reps tie p S).length
theorem rank_ties {p : Nat} (ht : ∀ x, (tie x).1 < p ∧ (tie x).2 < p) : RankFn (tieR tie p) where
  nil := by
    unfold tieR
    rw [reps_nil, Nat.sub_self]
  mono := fun {a b} h => by
    have := reps_mono (tie := tie) (p := p) (S := a) (T := b) fun i hi => .tie i (h i hi)
    unfold tieR
    omega
  unit := fun x a => by
    have := reps_cons (tie := tie) (p := p) (x := x) (S := a)
    unfold tieR
    omega
  span := fun a t h => by
    have hc : ∀ x ∈ t, Cn tie a (tie x).1 (tie x).2 := fun x hx => by
      by_cases c : Cn tie a (tie x).1 (tie x).2
      · exact c
      · have h1 := reps_less (ht x).1 (ht x).2 c
        have h2 := h x hx
        have h3 := reps_le (tie := tie) (p := p) (S := a)
        unfold tieR at h2
        omega
    have h1 := reps_mono (tie := tie) (p := p) (S := a ++ t) (T := a) fun i hi => by
      rcases List.mem_append.mp hi with z | z
      · exact .tie i z
      · exact hc i z
    have h2 := reps_mono (tie := tie) (p := p) (S := a) (T := a ++ t) fun i hi => .tie i (List.mem_append.mpr (.inl hi))
    unfold tieR
    omega
end
end Fv
namespace Fv
/-! # out of exchange: augmentation, and the rank of a list of bases -/
theorem nd_len {a b : List Int} (na : a.Nodup) (h : ∀ x ∈ a, x ∈ b) : a.length ≤ b.length := by
  induction a generalizing b with
  | nil => exact Nat.zero_le _
  | cons x r ih =>
    obtain ⟨n1, n2⟩ := List.nodup_cons.mp na
    have hx := h x List.mem_cons_self
    have := ih (b := b.erase x) n2 fun y hy => (List.mem_erase_of_ne (fun e : y = x => n1 (by rw [← e]; exact hy))).mpr (h y (List.mem_cons_of_mem _ hy))
    rw [List.length_erase_of_mem hx] at this
    have := List.length_pos_of_mem hx
    rw [List.length_cons]
    omega
theorem ml {a b : List Int} {y : Int} : y ∈ lessL a b ↔ y ∈ a ∧ y ∉ b := by
  unfold lessL
  rw [List.mem_filter, decide_eq_true_iff]
theorem ms {a b : List Int} {y : Int} : y ∈ sharedL a b ↔ y ∈ a ∧ y ∈ b := by
  unfold sharedL
  rw [List.mem_filter, decide_eq_true_iff]
theorem split_len (a b : List Int) : (sharedL a b).length + (lessL a b).length = a.length := by
  induction a with
  | nil => rfl
  | cons x r ih =>
    unfold sharedL lessL at ih ⊢
    by_cases h : x ∈ b
    · rw [List.filter_cons_of_pos (by simpa using h), List.filter_cons_of_neg (by simpa using h), List.length_cons, List.length_cons]
      omega
    · rw [List.filter_cons_of_neg (by simpa using h), List.filter_cons_of_pos (by simpa using h), List.length_cons, List.length_cons]
      omega
theorem shared_comm {a b : List Int} (na : a.Nodup) (nb : b.Nodup) : (sharedL a b).length = (sharedL b a).length :=
  Nat.le_antisymm (nd_len (na.filter _) fun x hx => ms.mpr (ms.mp hx).symm) (nd_len (nb.filter _) fun x hx => ms.mpr (ms.mp hx).symm)
/-- bases: ascending lots of one length, with exchange -/
structure Bases (bs : List (List Int)) (m : Nat) : Prop where
  ne : bs ≠ []
  up : ∀ b ∈ bs, b.Pairwise (· < ·)
  len : ∀ b ∈ bs, b.length = m
  ex : CanEx bs
theorem mem_with {a b : List Int} {x : Int} : x ∈ withL a b ↔ x ∈ a ∨ x ∈ b := by
  unfold withL
  rw [mem_asc, List.mem_append]
section
variable {bs : List (List Int)} {m : Nat} (K : Bases bs m)
include K
theorem near_j {J B : List Int} (hB : B ∈ bs) : ∀ (n : Nat) (C : List Int), C ∈ bs → (∀ x ∈ J, x ∈ C) → (lessL (lessL C J) B).length ≤ n → ∃ D ∈ bs, (∀ x ∈ J, x ∈ D) ∧ ∀ x ∈ D, x ∈ J ∨ x ∈ B
  | 0, C, hC, hJ, h => ⟨C, hC, hJ, fun x hx => by
    by_cases h1 : x ∈ J
    · exact .inl h1
    · by_cases h2 : x ∈ B
      · exact .inr h2
      · have : x ∈ lessL (lessL C J) B := ml.mpr ⟨ml.mpr ⟨hx, h1⟩, h2⟩
        have := List.length_pos_of_mem this
        omega⟩
  | n + 1, C, hC, hJ, h => by
    cases e : lessL (lessL C J) B with
    | nil => exact near_j hB n C hC hJ (by rw [e]; exact Nat.zero_le _)
    | cons x r =>
      have hx : x ∈ lessL (lessL C J) B := by rw [e]; exact List.mem_cons_self
      obtain ⟨h1, h2⟩ := ml.mp hx
      obtain ⟨h3, h4⟩ := ml.mp h1
      obtain ⟨y, hy, hD⟩ := K.ex C hC B hB x (ml.mpr ⟨h3, h2⟩)
      obtain ⟨y1, y2⟩ := ml.mp hy
      refine near_j hB n _ hD (fun z hz => mem_with.mpr (.inl (ml.mpr ⟨hJ z hz, fun w => h4 (by rw [← List.mem_singleton.mp w]; exact hz)⟩))) ?_
      have nd : (x :: lessL (lessL (withL (lessL C [x]) [y]) J) B).Nodup := by
        refine List.nodup_cons.mpr ⟨fun z => ?_, ((pw_nodup (K.up _ hD)).filter _).filter _⟩
        obtain ⟨z1, z2⟩ := ml.mp z
        rcases mem_with.mp (ml.mp z1).1 with w | w
        · exact (ml.mp w).2 (List.mem_singleton.mpr rfl)
        · rw [List.mem_singleton.mp w] at h2
          exact h2 y1
      have := nd_len (b := lessL (lessL C J) B) nd fun z hz => by
        rcases List.mem_cons.mp hz with w | hz
        · rw [w]; exact hx
        · obtain ⟨z1, z2⟩ := ml.mp hz
          obtain ⟨z3, z4⟩ := ml.mp z1
          rcases mem_with.mp z3 with w | w
          · exact ml.mpr ⟨ml.mpr ⟨(ml.mp w).1, z4⟩, z2⟩
          · exact absurd (by rw [List.mem_singleton.mp w]; exact y1) z2
      rw [List.length_cons] at this
      omega
/-- a shorter lot within a base is made greater by a thing of a longer one -/
theorem augment {I J B C : List Int} (nI : I.Nodup) (nJ : J.Nodup) (hB : B ∈ bs) (hC : C ∈ bs) (iB : ∀ x ∈ I, x ∈ B) (jC : ∀ x ∈ J, x ∈ C) (hl : I.length < J.length) :
    ∃ j ∈ J, j ∉ I ∧ ∃ D ∈ bs, j ∈ D ∧ ∀ x ∈ I, x ∈ D := by
  refine Classical.byContradiction fun hno => ?_
  have H : ∀ j ∈ J, j ∉ I → ∀ D ∈ bs, j ∈ D → ¬ ∀ x ∈ I, x ∈ D := fun j hj hi D hD hjD hID => hno ⟨j, hj, hi, D, hD, hjD, hID⟩
  obtain ⟨C', c1, c2, c3⟩ := near_j K (J := J) hB _ C hC jC (Nat.le_refl _)
  have nB := pw_nodup (K.up B hB)
  have nC := pw_nodup (K.up C' c1)
  have hBI : ∀ x ∈ B, x ∈ I ∨ x ∈ C' := fun x hx => by
    by_cases h1 : x ∈ I
    · exact .inl h1
    · by_cases h2 : x ∈ C'
      · exact .inr h2
      · obtain ⟨y, hy, hD⟩ := K.ex B hB C' c1 x (ml.mpr ⟨hx, h2⟩)
        obtain ⟨y1, y2⟩ := ml.mp hy
        have hyJ : y ∈ J := (c3 y y1).resolve_right y2
        exact absurd (fun z hz => mem_with.mpr (.inl (ml.mpr ⟨iB z hz, fun w => h1 (by rw [← List.mem_singleton.mp w]; exact hz)⟩)))
          (H y hyJ (fun z => y2 (iB y z)) _ hD (mem_with.mpr (.inr (List.mem_singleton.mpr rfl))))
  have e1 := split_len B C'
  have e2 := split_len C' B
  have e3 := shared_comm nB nC
  have e4 := K.len B hB
  have e5 := K.len C' c1
  have e6 := split_len I J
  have e7 := split_len J I
  have e8 := shared_comm nI nJ
  have l1 : (lessL B C').length ≤ (lessL I J).length := nd_len (nB.filter _) fun x hx => by
    obtain ⟨x1, x2⟩ := ml.mp hx
    exact ml.mpr ⟨(hBI x x1).resolve_right x2, fun z => x2 (c2 x z)⟩
  have l2 : (lessL J I).length ≤ (lessL C' B).length := nd_len (nJ.filter _) fun x hx => by
    obtain ⟨x1, x2⟩ := ml.mp hx
    exact ml.mpr ⟨c2 x x1, fun z => H x x1 x2 B hB z iB⟩
  omega
end
end Fv
namespace Fv
/-! # the rank by bases is a rank -/
theorem rankL_ge {bs : List (List Int)} {a b : List Int} (h : b ∈ bs) : (sharedL a b).length ≤ rankL bs a := maxN_le (List.mem_map.mpr ⟨b, h, rfl⟩)
theorem rankL_at {bs : List (List Int)} (h : bs ≠ []) (a : List Int) : ∃ b ∈ bs, (sharedL a b).length = rankL bs a := by
  obtain ⟨b, h1, h2⟩ := List.mem_map.mp (maxN_mem (l := bs.map fun b => (sharedL a b).length) (by simpa using h))
  exact ⟨b, h1, h2⟩
theorem nd_asc (a : List Int) : (asc a).Nodup := pw_nodup (pw_asc a)
theorem rank_bases {bs : List (List Int)} {m : Nat} (K : Bases bs m) : RankFn fun a => rankL bs (asc a) where
  nil := by
    obtain ⟨b, _, e⟩ := rankL_at K.ne (asc [])
    rw [← e]
    rfl
  mono := fun {a b} h => by
    obtain ⟨c, h1, e⟩ := rankL_at K.ne (asc a)
    rw [← e]
    refine Nat.le_trans (nd_len ((nd_asc a).filter _) fun x hx => ?_) (rankL_ge h1)
    obtain ⟨x1, x2⟩ := ms.mp hx
    exact ms.mpr ⟨mem_asc.mpr (h x (mem_asc.mp x1)), x2⟩
  unit := fun x a => by
    obtain ⟨c, h1, e⟩ := rankL_at K.ne (asc (x :: a))
    show rankL bs (asc (x :: a)) ≤ _
    rw [← e]
    have h2 := nd_len (a := sharedL (asc (x :: a)) c) (b := x :: sharedL (asc a) c) ((nd_asc _).filter _) fun y hy => by
      obtain ⟨y1, y2⟩ := ms.mp hy
      rcases List.mem_cons.mp (mem_asc.mp y1) with z | z
      · rw [z]; exact List.mem_cons_self
      · exact List.mem_cons_of_mem _ (ms.mpr ⟨mem_asc.mpr z, y2⟩)
    rw [List.length_cons] at h2
    exact Nat.le_trans h2 (Nat.add_le_add_right (rankL_ge h1) 1)
  span := fun a t h => by
    refine Nat.le_antisymm ?_ ?_
    · refine Nat.le_of_not_lt fun hlt => ?_
      obtain ⟨B, hB, eB⟩ := rankL_at K.ne (asc a)
      obtain ⟨C, hC, eC⟩ := rankL_at K.ne (asc (a ++ t))
      obtain ⟨j, j1, j2, D, hD, jD, iD⟩ := augment K (I := sharedL (asc a) B) (J := sharedL (asc (a ++ t)) C) ((nd_asc _).filter _) ((nd_asc _).filter _) hB hC
        (fun x hx => (ms.mp hx).2) (fun x hx => (ms.mp hx).2) (by rw [eB, eC]; exact hlt)
      have hnd : (j :: sharedL (asc a) B).Nodup := List.nodup_cons.mpr ⟨j2, (nd_asc _).filter _⟩
      have big : ∀ s : List Int, j ∈ s → (∀ x ∈ a, x ∈ s) → rankL bs (asc a) + 1 ≤ rankL bs (asc s) := fun s hj hs => by
        have h1 := nd_len (b := sharedL (asc s) D) hnd fun y hy => by
          rcases List.mem_cons.mp hy with z | z
          · rw [z]; exact ms.mpr ⟨mem_asc.mpr hj, jD⟩
          · exact ms.mpr ⟨mem_asc.mpr (hs y (mem_asc.mp (ms.mp z).1)), iD y z⟩
        rw [List.length_cons, eB] at h1
        exact Nat.le_trans h1 (rankL_ge hD)
      rcases List.mem_append.mp (mem_asc.mp (ms.mp j1).1) with z | z
      · have := big a z fun x hx => hx
        omega
      · have h1 := big (j :: a) List.mem_cons_self fun x hx => List.mem_cons_of_mem _ hx
        have h2 : rankL bs (asc (j :: a)) = rankL bs (asc a) := h j z
        omega
    · obtain ⟨c, h1, e⟩ := rankL_at K.ne (asc a)
      show rankL bs (asc a) ≤ _
      rw [← e]
      refine Nat.le_trans (nd_len ((nd_asc a).filter _) fun x hx => ?_) (rankL_ge h1)
      obtain ⟨x1, x2⟩ := ms.mp hx
      exact ms.mpr ⟨mem_asc.mpr (List.mem_append.mpr (.inl (mem_asc.mp x1))), x2⟩
end Fv
namespace Fv
/-! # one base more -/
theorem asc_self {a : List Int} (h : a.Pairwise (· < ·)) : asc a = a := pw_ext (pw_asc a) h fun k => mem_asc
theorem same_of_sub {a b : List Int} (ha : a.Pairwise (· < ·)) (hb : b.Pairwise (· < ·)) (h : ∀ x ∈ a, x ∈ b) (hl : b.length ≤ a.length) : a = b := by
  refine pw_ext ha hb fun k => ⟨h k, fun hk => ?_⟩
  refine Classical.byContradiction fun hn => ?_
  have := nd_len (a := k :: a) (b := b) (List.nodup_cons.mpr ⟨hn, pw_nodup ha⟩) fun x hx => by
    rcases List.mem_cons.mp hx with e | hx
    · rw [e]; exact hk
    · exact h x hx
  rw [List.length_cons] at this
  omega
theorem base_of_rank {bs : List (List Int)} {m : Nat} (K : Bases bs m) {a : List Int} (ha : a.Pairwise (· < ·)) (hl : a.length ≤ m) (hr : m ≤ rankL bs a) : a ∈ bs := by
  obtain ⟨b, hb, e⟩ := rankL_at K.ne a
  have h1 := split_len a b
  have h2 : lessL a b = [] := List.eq_nil_of_length_eq_zero (by omega)
  have h3 : a = b := same_of_sub ha (K.up b hb) (fun x hx => Classical.byContradiction fun hn => by
    have : x ∈ lessL a b := ml.mpr ⟨hx, hn⟩
    rw [h2] at this
    cases this) (by rw [K.len b hb]; omega)
  rw [h3]
  exact hb
theorem rank_base {bs : List (List Int)} {m : Nat} (K : Bases bs m) {b : List Int} (h : b ∈ bs) : m ≤ rankL bs b := by
  have h1 : sharedL b b = b := List.filter_eq_self.mpr fun x hx => decide_eq_true hx
  have := rankL_ge (a := b) h
  rw [h1, K.len b h] at this
  exact this
theorem freer_ex {bs : List (List Int)} {m n : Nat} (K : Bases bs m) (hin : ∀ b ∈ bs, ∀ x ∈ b, x ∈ rangeI n) {l : List Int} (lp : l.Pairwise (· < ·)) (ll : l.length = m) (hf : freerOk n bs l = true) : CanEx (bs ++ [l]) := by
  unfold freerOk at hf
  rw [Bool.and_eq_true, Bool.and_eq_true, List.all_eq_true] at hf
  obtain ⟨⟨f1, f2⟩, f3⟩ := hf
  have f1 : l ∉ bs := of_decide_eq_true f1
  have f2 : closL n bs l = l := of_decide_eq_true f2
  have R := rank_bases K
  have pl : ∀ i, (lessL l [i]).Pairwise (· < ·) := fun i => lp.filter _
  have rl : rankL bs l + 1 ≤ m := by
    refine Nat.lt_of_not_le fun h => f1 (base_of_rank K lp (by omega) h)
  have rless : ∀ i ∈ l, rankL bs (lessL l [i]) + 1 = m := fun i hi => by
    have h1 := len_less1 R (pw_nodup lp) hi
    have h2 : ¬ rankL bs (lessL l [i]) < (lessL l [i]).length := of_decide_eq_true (f3 i hi)
    have h3 : rankL bs (asc (lessL l [i])) ≤ rankL bs (asc l) := R.mono fun x hx => (ml.mp hx).1
    rw [asc_self (pl i), asc_self lp] at h3
    omega
  have rl2 : ∀ i ∈ l, rankL bs l + 1 = m := fun i hi => by
    have h3 : rankL bs (asc (lessL l [i])) ≤ rankL bs (asc l) := R.mono fun x hx => (ml.mp hx).1
    rw [asc_self (pl i), asc_self lp] at h3
    have := rless i hi
    omega
  have ne : l ≠ [] := fun e => by
    obtain ⟨b, hb, _⟩ := rankL_at K.ne []
    have h1 := K.len b hb
    rw [e] at ll f1
    have : b = [] := List.eq_nil_of_length_eq_zero (by rw [h1, ← ll]; rfl)
    exact f1 (this ▸ hb)
  obtain ⟨i0, hi0⟩ : ∃ i, i ∈ l := List.exists_mem_of_ne_nil l ne
  have clo : ∀ y ∈ rangeI n, rankL bs (asc (y :: l)) = rankL bs l → y ∈ l := fun y hy e => by
    rw [← f2]
    obtain ⟨k, hk, rfl⟩ := List.mem_map.mp hy
    refine List.mem_map.mpr ⟨k, List.mem_filter.mpr ⟨hk, decide_eq_true ?_⟩, rfl⟩
    rw [← e]
    have : withL l [(k : Int)] = asc ((k : Int) :: l) := pw_ext (pw_asc _) (pw_asc _) fun z => by
      rw [mem_with, mem_asc, List.mem_singleton, List.mem_cons]
      exact Or.comm
    rw [this]
  have hw : ∀ (b : List Int) (i t : Int), withL (lessL b [i]) [t] = asc (t :: lessL b [i]) := fun b i t => pw_ext (pw_asc _) (pw_asc _) fun z => by
    rw [mem_with, mem_asc, List.mem_singleton, List.mem_cons]
    exact Or.comm
  have lenw : ∀ (b : List Int) (i t : Int), b.Pairwise (· < ·) → b.length = m → i ∈ b → (withL (lessL b [i]) [t]).length ≤ m := fun b i t hb hl hi => by
    have h1 := len_with (lessL b [i]) [t]
    have h2 := len_less1 R (pw_nodup hb) hi
    rw [List.length_singleton] at h1
    omega
  intro one h1 other h2 item h3
  obtain ⟨i1, i2⟩ := ml.mp h3
  rcases List.mem_append.mp h1 with h1 | h1
  · rcases List.mem_append.mp h2 with h2 | h2
    · obtain ⟨t, t1, t2⟩ := K.ex one h1 other h2 item h3
      exact ⟨t, t1, List.mem_append.mpr (.inl t2)⟩
    · -- a base, and the lot
      rw [List.mem_singleton.mp h2] at i2 ⊢
      clear h2 h3
      have up1 := K.up one h1
      have len1 := K.len one h1
      refine Classical.byContradiction fun hno => ?_
      have hno : ∀ t ∈ lessL l one, withL (lessL one [item]) [t] ∉ bs ∧ withL (lessL one [item]) [t] ≠ l := fun t ht =>
        ⟨fun z => hno ⟨t, ht, List.mem_append.mpr (.inl z)⟩, fun z => hno ⟨t, ht, List.mem_append.mpr (.inr (List.mem_singleton.mpr z))⟩⟩
      have pb : (lessL one [item]).Pairwise (· < ·) := up1.filter _
      have lb := len_less1 R (pw_nodup up1) i1
      have rb : rankL bs (asc (lessL one [item])) + 1 = m := by
        have h := rank_less1 R (pw_nodup up1) i1 (by
          show rankL bs (asc one) = one.length
          rw [asc_self up1]
          exact Nat.le_antisymm (by have := rank_le R one; rwa [asc_self up1] at this) (by rw [len1]; exact rank_base K h1))
        rw [len1] at h
        exact h
      have hall : ∀ t ∈ l, rankL bs (asc (t :: lessL one [item])) = rankL bs (asc (lessL one [item])) := fun t ht => by
        by_cases htb : t ∈ one
        · refine rank_ext R fun z => ⟨fun hz => ?_, fun hz => List.mem_cons_of_mem _ hz⟩
          rcases List.mem_cons.mp hz with e | hz
          · rw [e]
            exact ml.mpr ⟨htb, fun z => i2 (List.mem_singleton.mp z ▸ ht)⟩
          · exact hz
        · have h4 := R.unit t (lessL one [item])
          have h5 : rankL bs (asc (lessL one [item])) ≤ rankL bs (asc (t :: lessL one [item])) := R.mono fun z hz => List.mem_cons_of_mem _ hz
          have h6 : ¬ m ≤ rankL bs (asc (t :: lessL one [item])) := fun z => (hno t (ml.mpr ⟨ht, htb⟩)).1 (by
            refine base_of_rank K (pw_asc _) (lenw one item t up1 len1 i1) ?_
            rw [hw]
            exact z)
          have h4 : rankL bs (asc (t :: lessL one [item])) ≤ rankL bs (asc (lessL one [item])) + 1 := h4
          omega
      have hsp : rankL bs (asc (lessL one [item] ++ l)) = rankL bs (asc (lessL one [item])) := R.span _ _ hall
      have hsub : ∀ y ∈ lessL one [item], y ∈ l := fun y hy => by
        refine clo y (hin one h1 y (ml.mp hy).1) ?_
        have h4 : rankL bs (asc (y :: l)) ≤ rankL bs (asc (lessL one [item] ++ l)) := R.mono fun z hz => by
          rcases List.mem_cons.mp hz with e | hz
          · rw [e]; exact List.mem_append.mpr (.inl hy)
          · exact List.mem_append.mpr (.inr hz)
        have h5 : rankL bs (asc l) ≤ rankL bs (asc (y :: l)) := R.mono fun z hz => List.mem_cons_of_mem _ hz
        rw [asc_self lp] at h5
        have h6 := rl2 i0 hi0
        omega
      have e1 := split_len l one
      have e2 := split_len one l
      have e3 := shared_comm (pw_nodup lp) (pw_nodup up1)
      have hpos : 0 < (lessL l one).length := by
        have : 0 < (lessL one l).length := List.length_pos_of_mem (ml.mpr ⟨i1, i2⟩)
        omega
      obtain ⟨t, ht⟩ := List.exists_mem_of_length_pos hpos
      obtain ⟨t1, t2⟩ := ml.mp ht
      refine (hno t ht).2 (same_of_sub (pw_asc _) lp (fun x hx => ?_) ?_)
      · rcases mem_with.mp hx with z | z
        · exact hsub x z
        · rw [List.mem_singleton.mp z]
          exact t1
      · unfold withL
        rw [asc_len (List.nodup_append.mpr ⟨pw_nodup pb, by simp, fun a ha b hb e => t2 (by rw [← List.mem_singleton.mp hb, ← e]; exact (ml.mp ha).1)⟩), List.length_append, List.length_singleton]
        omega
  · rw [List.mem_singleton.mp h1] at i1 h3 ⊢
    rcases List.mem_append.mp h2 with h2 | h2
    · -- the lot, and a base
      have e1 := split_len l other
      have e2 := split_len other l
      have e3 := shared_comm (pw_nodup lp) (pw_nodup (K.up other h2))
      have e4 := K.len other h2
      have hpos : 0 < (lessL other l).length := by
        have : 0 < (lessL l other).length := List.length_pos_of_mem h3
        omega
      obtain ⟨t, ht⟩ := List.exists_mem_of_length_pos hpos
      obtain ⟨t1, t2⟩ := ml.mp ht
      refine ⟨t, ht, List.mem_append.mpr (.inl (base_of_rank K (pw_asc _) (lenw l item t lp ll i1) ?_))⟩
      rw [hw]
      refine Classical.byContradiction fun hn => ?_
      have h4 : rankL bs (asc (lessL l [item])) ≤ rankL bs (asc (t :: lessL l [item])) := R.mono fun z hz => List.mem_cons_of_mem _ hz
      have h5 : rankL bs (asc (item :: lessL l [item])) ≤ rankL bs (asc l) := R.mono fun z hz => by
        rcases List.mem_cons.mp hz with e | hz
        · rw [e]; exact i1
        · exact (ml.mp hz).1
      have h6 : rankL bs (asc (lessL l [item])) ≤ rankL bs (asc (item :: lessL l [item])) := R.mono fun z hz => List.mem_cons_of_mem _ hz
      have h7 := rless item i1
      have h8 := rl2 item i1
      rw [asc_self lp] at h5
      have h9 : rankL bs (asc (lessL l [item])) = rankL bs (lessL l [item]) := by rw [asc_self (pl item)]
      have hsp : rankL bs (asc (lessL l [item] ++ [item, t])) = rankL bs (asc (lessL l [item])) := R.span _ _ fun x hx => by
        show rankL bs (asc (x :: lessL l [item])) = rankL bs (asc (lessL l [item]))
        rcases List.mem_cons.mp hx with e | hx
        · rw [e]
          omega
        · rw [List.mem_singleton.mp hx]
          omega
      have h10 : rankL bs (asc (t :: l)) ≤ rankL bs (asc (lessL l [item] ++ [item, t])) := R.mono fun z hz => by
        rcases List.mem_cons.mp hz with e | hz
        · rw [e]
          simp
        · by_cases e : z = item
          · rw [e]
            simp
          · exact List.mem_append.mpr (.inl (ml.mpr ⟨hz, by simpa using e⟩))
      have h11 : rankL bs (asc l) ≤ rankL bs (asc (t :: l)) := R.mono fun z hz => List.mem_cons_of_mem _ hz
      rw [asc_self lp] at h11
      exact t2 (clo t (hin other h2 t t1) (by omega))
    · rw [List.mem_singleton.mp h2] at i2
      exact absurd i1 i2
end Fv
namespace Fv
open Classical
/-! # names of pieces -/
def mrg (nm : List Int) (a b : Nat) : List Int := nm.map fun i => if i = nm.getD a 0 then nm.getD b 0 else i
structure Nm (tie : Int → Nat × Nat) (p : Nat) (S : List Int) (nm : List Int) : Prop where
  len : nm.length = p
  eq : ∀ u v, u < p → v < p → (nm.getD u 0 = nm.getD v 0 ↔ Cn tie S u v)
theorem getD_rangeI {p u : Nat} (h : u < p) : (rangeI p).getD u 0 = (u : Int) := by
  rw [List.getD_eq_getElem?_getD, rangeI, List.getElem?_map, List.getElem?_range h]
  rfl
theorem getD_mrg {nm : List Int} {a b u : Nat} (h : u < nm.length) : (mrg nm a b).getD u 0 = if nm.getD u 0 = nm.getD a 0 then nm.getD b 0 else nm.getD u 0 := by
  rw [List.getD_eq_getElem?_getD, mrg, List.getElem?_map, List.getElem?_eq_getElem h]
  have : nm.getD u 0 = nm[u] := by rw [List.getD_eq_getElem?_getD, List.getElem?_eq_getElem h]; rfl
  rw [this]
  rfl
theorem nm_start {tie : Int → Nat × Nat} {p : Nat} : Nm tie p [] (rangeI p) where
  len := by rw [rangeI, List.length_map, List.length_range]
  eq := fun u v hu hv => by
    rw [getD_rangeI hu, getD_rangeI hv]
    exact ⟨fun e => by
      have : u = v := by omega
      rw [this]
      exact .refl _, fun c => by rw [cn_nil c]⟩
theorem nm_step {tie : Int → Nat × Nat} {p : Nat} {S nm : List Int} (N : Nm tie p S nm) {x : Int} (ha : (tie x).1 < p) (hb : (tie x).2 < p) : Nm tie p (x :: S) (mrg nm (tie x).1 (tie x).2) where
  len := by rw [mrg, List.length_map, N.len]
  eq := fun u v hu hv => by
    rw [getD_mrg (by rw [N.len]; exact hu), getD_mrg (by rw [N.len]; exact hv)]
    have sub : ∀ {a b : Nat}, Cn tie S a b → Cn tie (x :: S) a b := fun c => c.sub fun i hi => List.mem_cons_of_mem _ hi
    have xx : Cn tie (x :: S) (tie x).1 (tie x).2 := .tie x List.mem_cons_self
    have eu := N.eq u (tie x).1 hu ha
    have ev := N.eq v (tie x).1 hv ha
    have eu2 := N.eq u (tie x).2 hu hb
    have ev2 := N.eq v (tie x).2 hv hb
    have euv := N.eq u v hu hv
    constructor
    · intro h
      by_cases h1 : nm.getD u 0 = nm.getD (tie x).1 0
      · by_cases h2 : nm.getD v 0 = nm.getD (tie x).1 0
        · exact (sub (eu.mp h1)).trans (sub (ev.mp h2)).symm
        · rw [if_pos h1, if_neg h2] at h
          exact (sub (eu.mp h1)).trans (xx.trans (sub (ev2.mp h.symm)).symm)
      · by_cases h2 : nm.getD v 0 = nm.getD (tie x).1 0
        · rw [if_neg h1, if_pos h2] at h
          exact (sub (eu2.mp h)).trans (xx.symm.trans (sub (ev.mp h2)).symm)
        · rw [if_neg h1, if_neg h2] at h
          exact sub (euv.mp h)
    · intro c
      rcases cn_cons c with c | ⟨c, d⟩ | ⟨c, d⟩
      · rw [euv.mpr c]
      · have h1 := eu.mpr c
        have h2 := ev2.mpr d.symm
        rw [if_pos h1]
        split
        · rfl
        · exact h2.symm
      · have h1 := eu2.mpr c
        have h2 := ev.mpr d.symm
        rw [if_pos h2]
        split
        · rfl
        · exact h1
/-- as many unlike names as first places -/
theorem nm_count {tie : Int → Nat × Nat} {p : Nat} {S nm : List Int} (N : Nm tie p S nm) : (asc nm).length = (reps tie p S).length := by
  have nd : ((reps tie p S).map fun u => nm.getD u 0).Nodup := by
    refine List.pairwise_map.mpr (List.Pairwise.imp_of_mem (fun {u v} hu hv hne e => ?_) (reps_nodup (tie := tie) (p := p) (S := S)))
    obtain ⟨u1, u2⟩ := mem_reps.mp hu
    obtain ⟨v1, v2⟩ := mem_reps.mp hv
    have c := (N.eq u v u1 v1).mp e
    rcases Nat.lt_or_gt_of_ne hne with h | h
    · exact v2 u h c
    · exact u2 v h c.symm
  have h1 := nd_len (b := asc nm) nd fun z hz => by
    obtain ⟨u, hu, rfl⟩ := List.mem_map.mp hz
    obtain ⟨u1, _⟩ := mem_reps.mp hu
    have hl : u < nm.length := by rw [N.len]; exact u1
    rw [mem_asc, List.getD_eq_getElem?_getD, List.getElem?_eq_getElem hl]
    exact List.getElem_mem hl
  have h2 := nd_len (a := asc nm) (b := (reps tie p S).map fun u => nm.getD u 0) (nd_asc nm) fun z hz => by
    obtain ⟨e, he, rfl⟩ := List.getElem_of_mem (mem_asc.mp hz)
    have hp : e < p := by rw [← N.len]; exact he
    obtain ⟨u, u1, u2, u3⟩ := fst_of (tie := tie) (S := S) e e (Nat.le_refl _)
    refine List.mem_map.mpr ⟨u, mem_reps.mpr ⟨by omega, u2⟩, ?_⟩
    have := (N.eq u e (by omega) hp).mpr u3
    rw [this, List.getD_eq_getElem?_getD, List.getElem?_eq_getElem he]
    rfl
  rw [List.length_map] at h1 h2
  omega
/-- the list's pieces, by the law's own way -/
def namesL (tie : Int → Nat × Nat) (p : Nat) : List Int → List Int
  | [] => rangeI p
  | x :: S => mrg (namesL tie p S) (tie x).1 (tie x).2
theorem nm_all {tie : Int → Nat × Nat} {p : Nat} (ht : ∀ x, (tie x).1 < p ∧ (tie x).2 < p) : ∀ S : List Int, Nm tie p S (namesL tie p S)
  | [] => nm_start
  | x :: S => nm_step (nm_all ht S) (ht x).1 (ht x).2
end Fv
namespace Fv
open Classical
/-! # the rank of rows modulo a prime, by counting what they span -/
theorem nd_lenA {α : Type} {a b : List α} (na : a.Nodup) (h : ∀ x ∈ a, x ∈ b) : a.length ≤ b.length := by
  induction a generalizing b with
  | nil => exact Nat.zero_le _
  | cons x r ih =>
    obtain ⟨n1, n2⟩ := List.nodup_cons.mp na
    have hx := h x List.mem_cons_self
    have := ih (b := b.erase x) n2 fun y hy => (List.mem_erase_of_ne (fun e : y = x => n1 (by rw [← e]; exact hy))).mpr (h y (List.mem_cons_of_mem _ hy))
    rw [List.length_erase_of_mem hx] at this
    have := List.length_pos_of_mem hx
    rw [List.length_cons]
    omega
theorem nodup_flat {α β : Type} {f : α → List β} : ∀ {l : List α}, l.Nodup → (∀ x ∈ l, (f x).Nodup) → (∀ x ∈ l, ∀ y ∈ l, x ≠ y → ∀ z, z ∈ f x → z ∈ f y → False) → (l.flatMap f).Nodup
  | [], _, _, _ => by simp
  | x :: r, h, h1, h2 => by
    obtain ⟨n1, n2⟩ := List.nodup_cons.mp h
    rw [List.flatMap_cons, List.nodup_append]
    refine ⟨h1 x List.mem_cons_self, nodup_flat n2 (fun y hy => h1 y (List.mem_cons_of_mem _ hy)) (fun y hy z hz => h2 y (List.mem_cons_of_mem _ hy) z (List.mem_cons_of_mem _ hz)), ?_⟩
    intro a ha b hb e
    obtain ⟨y, hy, hb⟩ := List.mem_flatMap.mp hb
    subst e
    exact h2 x List.mem_cons_self y (List.mem_cons_of_mem _ hy) (fun e => n1 (e ▸ hy)) a ha hb
/-- u + c v -/
def axb (p c : Int) (u v : List Int) : List Int := List.zipWith (fun a b => (a + c * b) % p) u v
def zer (n : Nat) : List Int := List.replicate n 0
section
variable {p : Int} {n : Nat}
theorem mod_zer (hp : 0 < p) : Mod p n (zer n) := ⟨List.length_replicate .., fun x hx => by
  rw [(List.mem_replicate.mp hx).2]
  omega⟩
theorem mod_axb (hp : 0 < p) {c : Int} {u v : List Int} (hu : Mod p n u) (hv : Mod p n v) : Mod p n (axb p c u v) := by
  refine ⟨by rw [axb, List.length_zipWith, hu.1, hv.1, Nat.min_self], fun x hx => ?_⟩
  unfold axb at hx
  obtain ⟨i, hi, e⟩ := List.getElem_of_mem hx
  rw [List.getElem_zipWith] at e
  rw [← e]
  exact ⟨Int.emod_nonneg _ (by omega), Int.emod_lt_of_pos _ hp⟩
theorem axb_lt {c : Int} {u v : List Int} {i : Nat} (h : i < (axb p c u v).length) : i < u.length ∧ i < v.length := by
  unfold axb at h
  rw [List.length_zipWith] at h
  omega
theorem axb_get {c : Int} {u v : List Int} {i : Nat} (h : i < (axb p c u v).length) : (axb p c u v)[i] = (u[i]'(axb_lt h).1 + c * v[i]'(axb_lt h).2) % p := List.getElem_zipWith
theorem zer_get {i : Nat} (h : i < (zer n).length) : (zer n)[i] = 0 := List.getElem_replicate ..
theorem mod_get {u : List Int} (hu : Mod p n u) {i : Nat} (h : i < u.length) : u[i] % p = u[i] := by
  have := hu.2 _ (List.getElem_mem h)
  exact Int.emod_eq_of_lt this.1 this.2
theorem axb_zer (hp : 0 < p) {c : Int} {u : List Int} (hu : Mod p n u) : axb p c u (zer n) = u := by
  refine List.ext_getElem (by rw [axb, List.length_zipWith, zer, List.length_replicate, hu.1, Nat.min_self]) fun i h1 h2 => ?_
  rw [axb_get, zer_get, Int.mul_zero, Int.add_zero]
  exact mod_get hu h2
theorem axb_one (hp : 0 < p) {u : List Int} (hu : Mod p n u) : axb p 1 (zer n) u = u := by
  refine List.ext_getElem (by rw [axb, List.length_zipWith, zer, List.length_replicate, hu.1, Nat.min_self]) fun i h1 h2 => ?_
  rw [axb_get, zer_get, Int.one_mul, Int.zero_add]
  exact mod_get hu h2
theorem axb_0 (hp : 0 < p) {u v : List Int} (hu : Mod p n u) (hv : Mod p n v) : axb p 0 u v = u := by
  refine List.ext_getElem (by rw [axb, List.length_zipWith, hu.1, hv.1, Nat.min_self]) fun i h1 h2 => ?_
  rw [axb_get, Int.zero_mul, Int.add_zero]
  exact mod_get hu h2
theorem emul (c x : Int) : (c * (x % p)) % p = (c * x) % p := by
  rw [Int.mul_emod, Int.emod_emod, ← Int.mul_emod]
theorem eadd (a x : Int) : (a + x % p) % p = (a + x) % p := by
  rw [Int.add_comm, Int.emod_add_emod, Int.add_comm]
theorem emadd (a c x : Int) : (a + c * (x % p)) % p = (a + c * x) % p := by
  rw [← eadd, emul, eadd]
theorem axb_in (c d : Int) (u v w : List Int) : axb p c u (axb p d v w) = axb p (c * d) (axb p c u v) w := by
  refine List.ext_getElem (by simp only [axb, List.length_zipWith]; omega) fun i h1 h2 => ?_
  simp only [axb_get]
  rw [emadd, Int.emod_add_emod]
  congr 1
  grind
theorem axb_comm (c d : Int) (u v w : List Int) : axb p d (axb p c u v) w = axb p c (axb p d u w) v := by
  refine List.ext_getElem (by simp only [axb, List.length_zipWith]; omega) fun i h1 h2 => ?_
  simp only [axb_get]
  rw [Int.emod_add_emod, Int.emod_add_emod]
  congr 1
  grind
theorem axb_axb (c d : Int) (u v : List Int) : axb p d (axb p c u v) v = axb p ((c + d) % p) u v := by
  refine List.ext_getElem (by simp only [axb, List.length_zipWith]; omega) fun i h1 h2 => ?_
  simp only [axb_get]
  rw [Int.emod_add_emod, Int.mul_comm ((c + d) % p), emadd]
  congr 1
  grind
theorem axb_mod (c : Int) (u v : List Int) : axb p (c % p) u v = axb p c u v := by
  refine List.ext_getElem (by simp only [axb, List.length_zipWith]) fun i h1 h2 => ?_
  simp only [axb_get]
  rw [Int.mul_comm (c % p), emadd, Int.mul_comm c]
/-- what rows span -/
inductive Sp (p : Int) (n : Nat) (rows : List (List Int)) : List Int → Prop
  | zero : Sp p n rows (zer n)
  | step (c : Int) {row u : List Int} : row ∈ rows → Sp p n rows u → Sp p n rows (axb p c u row)
def Rows (p : Int) (n : Nat) (rows : List (List Int)) : Prop := ∀ r ∈ rows, Mod p n r
section
variable {rows a b : List (List Int)} (hp : 0 < p)
include hp
theorem sp_mod (hr : Rows p n rows) {v : List Int} (h : Sp p n rows v) : Mod p n v := by
  induction h with
  | zero => exact mod_zer hp
  | step c hm _ ih => exact mod_axb hp ih (hr _ hm)
theorem sp_add (hr : Rows p n rows) {c : Int} {u v : List Int} (hu : Sp p n rows u) (hv : Sp p n rows v) : Sp p n rows (axb p c u v) := by
  induction hv generalizing c with
  | zero => rw [axb_zer hp (sp_mod hp hr hu)]; exact hu
  | step d hm _ ih =>
    rw [axb_in]
    exact .step _ hm ih
theorem sp_row (hr : Rows p n rows) {r : List Int} (h : r ∈ rows) : Sp p n rows r := by
  have := Sp.step (p := p) (n := n) 1 h (.zero)
  rwa [axb_one hp (hr r h)] at this
theorem sp_trans (hb : Rows p n b) (h : ∀ r ∈ a, Sp p n b r) {v : List Int} (hv : Sp p n a v) : Sp p n b v := by
  induction hv with
  | zero => exact .zero
  | step c hm _ ih => exact sp_add hp hb ih (h _ hm)
theorem sp_sub (hb : Rows p n b) (h : ∀ r ∈ a, r ∈ b) {v : List Int} (hv : Sp p n a v) : Sp p n b v := sp_trans hp hb (fun r hr => sp_row hp hb (h r hr)) hv
theorem sp_cons {x : List Int} (ha : Rows p n (x :: a)) {v : List Int} (hv : Sp p n (x :: a) v) : ∃ c : Int, 0 ≤ c ∧ c < p ∧ ∃ u, Sp p n a u ∧ v = axb p c u x := by
  have hx := ha x List.mem_cons_self
  induction hv with
  | zero => exact ⟨0, Int.le_refl _, hp, zer n, .zero, (axb_0 hp (mod_zer hp) hx).symm⟩
  | @step d row u hm _ ih =>
    obtain ⟨c, c0, c1, w, hw, rfl⟩ := ih
    rcases List.mem_cons.mp hm with e | hm
    · subst e
      exact ⟨(c + d) % p, Int.emod_nonneg _ (by omega), Int.emod_lt_of_pos _ hp, w, hw, axb_axb ..⟩
    · exact ⟨c, c0, c1, axb p d w row, .step d hm hw, axb_comm ..⟩
end
/-! ## counting -/
def vecs (p : Nat) : Nat → List (List Int)
  | 0 => [[]]
  | n + 1 => (List.range p).flatMap fun i => (vecs p n).map fun v => ((i : Nat) : Int) :: v
theorem mem_vecs {p : Nat} : ∀ {n : Nat} {v : List Int}, Mod p n v → v ∈ vecs p n
  | 0, v, h => by
    rw [List.length_eq_zero_iff.mp h.1]
    simp [vecs]
  | n + 1, v, h => by
    cases v with
    | nil => cases h.1
    | cons x r =>
      have hx := h.2 x List.mem_cons_self
      refine List.mem_flatMap.mpr ⟨x.toNat, List.mem_range.mpr (by omega), List.mem_map.mpr ⟨r, mem_vecs ⟨by simpa using h.1, fun y hy => h.2 y (List.mem_cons_of_mem _ hy)⟩, ?_⟩⟩
      have : ((x.toNat : Nat) : Int) = x := by omega
      rw [this]
theorem nodup_vecs {p : Nat} : ∀ n : Nat, (vecs p n).Nodup
  | 0 => by simp [vecs]
  | n + 1 => by
    have ih := nodup_vecs (p := p) n
    unfold vecs
    refine nodup_flat (List.nodup_range (n := p)) (fun i _ => ?_) ?_
    · exact List.Pairwise.map _ (fun u v h e => h (List.cons.inj e).2) ih
    · intro i _ j _ hne x hx hy
      obtain ⟨u, _, e1⟩ := List.mem_map.mp hx
      obtain ⟨w, _, e2⟩ := List.mem_map.mp hy
      have := (List.cons.inj (e1.trans e2.symm)).1
      omega
/-- how many vectors rows span -/
noncomputable def spl (p n : Nat) (rows : List (List Int)) : List (List Int) := (vecs p n).filter fun v => decide (Sp p n rows v)
theorem mem_spl {p : Nat} (hp : 0 < p) {rows : List (List Int)} (hr : Rows p n rows) {v : List Int} : v ∈ spl p n rows ↔ Sp p n rows v := by
  unfold spl
  rw [List.mem_filter, decide_eq_true_iff]
  exact ⟨fun h => h.2, fun h => ⟨mem_vecs (sp_mod (by omega) hr h), h⟩⟩
theorem nodup_spl {p : Nat} {rows : List (List Int)} : (spl p n rows).Nodup := (nodup_vecs n).filter _
theorem spl_sub {p : Nat} (hp : 0 < p) {a b : List (List Int)} (ha : Rows p n a) (hb : Rows p n b) (h : ∀ r ∈ a, Sp p n b r) : (spl p n a).length ≤ (spl p n b).length :=
  nd_lenA nodup_spl fun v hv => (mem_spl hp hb).mpr (sp_trans (by omega) hb h ((mem_spl hp ha).mp hv))
theorem len_flat {α β : Type} {f : α → List β} {k : Nat} : ∀ {l : List α}, (∀ x ∈ l, (f x).length = k) → (l.flatMap f).length = l.length * k
  | [], _ => by simp
  | x :: r, h => by
    rw [List.flatMap_cons, List.length_append, h x List.mem_cons_self, len_flat fun y hy => h y (List.mem_cons_of_mem _ hy), List.length_cons, Nat.add_mul, Nat.one_mul, Nat.add_comm]
theorem spl_cons {p : Nat} (hp : 0 < p) {x : List Int} {a : List (List Int)} (ha : Rows p n (x :: a)) : (spl p n (x :: a)).length ≤ p * (spl p n a).length := by
  have ha' : Rows p n a := fun r hr => ha r (List.mem_cons_of_mem _ hr)
  have := nd_lenA (b := (List.range p).flatMap fun c => (spl p n a).map fun u => axb p ((c : Nat) : Int) u x) (nodup_spl (p := p) (n := n) (rows := x :: a)) fun v hv => by
    obtain ⟨c, c0, c1, u, hu, e⟩ := sp_cons (by omega) ha ((mem_spl hp ha).mp hv)
    refine List.mem_flatMap.mpr ⟨c.toNat, List.mem_range.mpr (by omega), List.mem_map.mpr ⟨u, (mem_spl hp ha').mpr hu, ?_⟩⟩
    have : ((c.toNat : Nat) : Int) = c := by omega
    rw [this, e]
  rw [len_flat (k := (spl p n a).length) fun _ _ => List.length_map _, List.length_range] at this
  exact this
theorem spl_nil {p : Nat} (hp : 0 < p) : (spl p n []).length = 1 := by
  have hr : Rows (p : Int) n [] := fun r h => by cases h
  have h1 := nd_lenA (b := [zer n]) (nodup_spl (p := p) (n := n) (rows := [])) fun v hv => by
    have := (mem_spl hp hr).mp hv
    cases this with
    | zero => exact List.mem_cons_self
    | step _ h _ => cases h
  have h2 : zer n ∈ spl p n [] := (mem_spl hp hr).mpr .zero
  have := List.length_pos_of_mem h2
  simp only [List.length_cons, List.length_nil] at h1
  omega
end
end Fv
namespace Fv
open Classical
/-! # clearing tells how much rows span -/
theorem getD_at {u : List Int} {k : Nat} (h : k < u.length) : u.getD k 0 = u[k] := by
  rw [List.getD_eq_getElem?_getD, List.getElem?_eq_getElem h]
  rfl
section
variable {p : Int} {n : Nat}
theorem axb_D (c : Int) {u v : List Int} {k : Nat} (hu : k < u.length) (hv : k < v.length) : (axb p c u v).getD k 0 = (u.getD k 0 + c * v.getD k 0) % p := by
  have hl : k < (axb p c u v).length := by
    unfold axb
    rw [List.length_zipWith]
    omega
  rw [getD_at hl, getD_at hu, getD_at hv, axb_get]
theorem clr_axb (row : List Int) (k : Nat) (q : List Int) : clr p row k q = axb p (-(q.getD k 0 * inv p (row.getD k 0))) q row := by
  unfold clr axb
  congr 1
  funext a b
  congr 1
  grind
theorem axb_back (hp : 0 < p) (c : Int) {u v : List Int} (hu : Mod p n u) (hv : Mod p n v) : axb p (-c) (axb p c u v) v = u := by
  rw [axb_axb, Int.add_right_neg, Int.zero_emod, axb_0 hp hu hv]
theorem axb_back' (hp : 0 < p) (c : Int) {u v : List Int} (hu : Mod p n u) (hv : Mod p n v) : axb p c (axb p (-c) u v) v = u := by
  rw [axb_axb, Int.add_left_neg, Int.zero_emod, axb_0 hp hu hv]
/-- the primes of the law -/
def Pr (p : Nat) : Prop := p = 2 ∨ p = 3 ∨ p = 5 ∨ p = 7
theorem Pr.pos {p : Nat} (h : Pr p) : 2 ≤ p := by
  unfold Pr at h
  omega
theorem inv_ok {p : Nat} (hp : Pr p) {x : Int} (h0 : 0 ≤ x) (h1 : x < p) (hx : x ≠ 0) : (inv p x * x) % p = 1 := by
  have key : ∀ p ∈ [2, 3, 5, 7], ∀ i ∈ List.range p, i ≠ 0 → (inv (p : Nat) ((i : Nat) : Int) * ((i : Nat) : Int)) % ((p : Nat) : Int) = 1 := by decide
  have hm : p ∈ [2, 3, 5, 7] := by
    rcases hp with h | h | h | h <;> subst h <;> decide
  have := key p hm x.toNat (List.mem_range.mpr (by omega)) (by omega)
  have e : ((x.toNat : Nat) : Int) = x := by omega
  rw [e] at this
  exact this
theorem spots_mem {row : List Int} {k : Nat} (h : k ∈ spots row) : k < row.length ∧ row.getD k 0 ≠ 0 := by
  unfold spots at h
  obtain ⟨h1, h2⟩ := List.mem_filter.mp h
  exact ⟨List.mem_range.mp h1, of_decide_eq_true h2⟩
theorem spots_nil {row : List Int} (h : spots row = []) : row = zer row.length := by
  refine List.ext_getElem (by rw [zer, List.length_replicate]) fun i h1 h2 => ?_
  rw [zer_get]
  refine Classical.byContradiction fun hn => ?_
  have : i ∈ spots row := List.mem_filter.mpr ⟨List.mem_range.mpr h1, decide_eq_true (by rw [getD_at h1]; exact hn)⟩
  rw [h] at this
  cases this
theorem sp_zero_at {rows : List (List Int)} {k : Nat} (hp : 0 < p) (hk : k < n) (hr : Rows p n rows) (h0 : ∀ r ∈ rows, r.getD k 0 = 0) {v : List Int} (h : Sp p n rows v) : v.getD k 0 = 0 := by
  induction h with
  | zero =>
    rw [getD_at (by rw [zer, List.length_replicate]; exact hk), zer_get]
  | @step c row u hm hs ih =>
    have h1 := (sp_mod hp hr hs).1
    have h2 := (hr _ hm).1
    rw [axb_D c (by omega) (by omega), ih, h0 _ hm, Int.mul_zero, Int.add_zero, Int.zero_emod]
theorem spl_piv {p : Nat} (hp : Pr p) {row : List Int} {rest : List (List Int)} {k : Nat} (hr : Rows p n (row :: rest)) (hk : k ∈ spots row) :
    (spl p n (row :: rest)).length = p * (spl p n (rest.map (clr p row k))).length := by
  have hp0 := hp.pos
  have hpz : (0 : Int) < p := by omega
  have mr := hr row List.mem_cons_self
  obtain ⟨k1, k2⟩ := spots_mem hk
  have hkn : k < n := by rw [← mr.1]; exact k1
  have bx := mr.2 _ (List.getElem_mem k1)
  rw [← getD_at k1] at bx
  have hi := inv_ok hp bx.1 bx.2 k2
  have hrest : ∀ q ∈ rest, Mod p n q := fun q hq => hr q (List.mem_cons_of_mem _ hq)
  have hr' : Rows p n (rest.map (clr p row k)) := fun r h => by
    obtain ⟨q, hq, rfl⟩ := List.mem_map.mp h
    exact mod_clr hpz mr (hrest q hq)
  have hr2 : Rows p n (row :: rest.map (clr p row k)) := fun r h => by
    rcases List.mem_cons.mp h with e | h
    · rw [e]; exact mr
    · exact hr' r h
  have h0 : ∀ r ∈ rest.map (clr p row k), r.getD k 0 = 0 := fun r h => by
    obtain ⟨q, hq, rfl⟩ := List.mem_map.mp h
    have hq1 := (hrest q hq).1
    rw [clr_axb, axb_D _ (by omega) (by omega)]
    have e : q.getD k 0 + -(q.getD k 0 * inv p (row.getD k 0)) * row.getD k 0 = q.getD k 0 + (-q.getD k 0) * (inv p (row.getD k 0) * row.getD k 0) := by grind
    rw [e, ← emadd, hi]
    have e2 : q.getD k 0 + -q.getD k 0 * 1 = 0 := by omega
    rw [e2, Int.zero_emod]
  have e1 : (spl p n (row :: rest)).length = (spl p n (row :: rest.map (clr p row k))).length := by
    refine Nat.le_antisymm (spl_sub (by omega) hr hr2 fun r h => ?_) (spl_sub (by omega) hr2 hr fun r h => ?_)
    · rcases List.mem_cons.mp h with e | h
      · rw [e]; exact sp_row hpz hr2 List.mem_cons_self
      · have := Sp.step (p := (p : Int)) (n := n) (r.getD k 0 * inv p (row.getD k 0)) (List.mem_cons_self (a := row) (l := rest.map (clr p row k))) (sp_row hpz hr2 (List.mem_cons_of_mem _ (List.mem_map.mpr ⟨r, h, rfl⟩)))
        rw [clr_axb, axb_back' hpz _ (hrest r h) mr] at this
        exact this
    · rcases List.mem_cons.mp h with e | h
      · rw [e]; exact sp_row hpz hr List.mem_cons_self
      · obtain ⟨q, hq, rfl⟩ := List.mem_map.mp h
        rw [clr_axb]
        exact .step _ List.mem_cons_self (sp_row hpz hr (List.mem_cons_of_mem _ hq))
  rw [e1]
  refine Nat.le_antisymm (spl_cons (by omega) hr2) ?_
  have nd : ((List.range p).flatMap fun c => (spl p n (rest.map (clr p row k))).map fun u => axb p ((c : Nat) : Int) u row).Nodup := by
    refine nodup_flat List.nodup_range (fun c _ => ?_) fun c hc d hd hne z hz hw => ?_
    · refine List.pairwise_map.mpr (List.Pairwise.imp_of_mem (fun {u v} hu hv hne e => hne ?_) (nodup_spl (p := p) (n := n)))
      have mu := sp_mod hpz hr' ((mem_spl (by omega) hr').mp hu)
      have mv := sp_mod hpz hr' ((mem_spl (by omega) hr').mp hv)
      have : axb p (-((c : Nat) : Int)) (axb p ((c : Nat) : Int) u row) row = axb p (-((c : Nat) : Int)) (axb p ((c : Nat) : Int) v row) row := congrArg (fun z => axb p (-((c : Nat) : Int)) z row) e
      rwa [axb_back hpz _ mu mr, axb_back hpz _ mv mr] at this
    · obtain ⟨u, hu, rfl⟩ := List.mem_map.mp hz
      obtain ⟨v, hv, e⟩ := List.mem_map.mp hw
      have su := (mem_spl (by omega) hr').mp hu
      have sv := (mem_spl (by omega) hr').mp hv
      have mu := sp_mod hpz hr' su
      have mv := sp_mod hpz hr' sv
      have zu := sp_zero_at hpz hkn hr' h0 su
      have zv := sp_zero_at hpz hkn hr' h0 sv
      have q : (axb p ((d : Nat) : Int) v row).getD k 0 = (axb p ((c : Nat) : Int) u row).getD k 0 := congrArg (fun z => z.getD k 0) e
      rw [axb_D _ (by rw [mv.1]; exact hkn) k1, axb_D _ (by rw [mu.1]; exact hkn) k1, zu, zv, Int.zero_add, Int.zero_add] at q
      have q2 : ∀ a : Int, ((a * row.getD k 0) % p * inv p (row.getD k 0)) % p = a % p := fun a => by
        rw [Int.mul_emod, Int.emod_emod, ← Int.mul_emod]
        have e : a * row.getD k 0 * inv p (row.getD k 0) = a * (inv p (row.getD k 0) * row.getD k 0) := by grind
        rw [e, ← emul, hi, Int.mul_one]
      have q3 := (q2 ((d : Nat) : Int)).symm.trans ((congrArg (fun z => (z * inv p (row.getD k 0)) % p) q).trans (q2 ((c : Nat) : Int)))
      have hc := List.mem_range.mp hc
      have hd := List.mem_range.mp hd
      rw [Int.emod_eq_of_lt (by omega) (by omega), Int.emod_eq_of_lt (by omega) (by omega)] at q3
      exact hne (by omega)
  have := nd_lenA (b := spl p n (row :: rest.map (clr p row k))) nd fun v hv => by
    obtain ⟨c, _, hv⟩ := List.mem_flatMap.mp hv
    obtain ⟨u, hu, rfl⟩ := List.mem_map.mp hv
    exact (mem_spl (by omega) hr2).mpr (.step _ List.mem_cons_self (sp_sub hpz hr2 (fun r h => List.mem_cons_of_mem _ h) ((mem_spl (by omega) hr').mp hu)))
  rw [len_flat (k := (spl p n (rest.map (clr p row k))).length) fun _ _ => List.length_map _, List.length_range] at this
  exact this
theorem spl_rr {p : Nat} (hp : Pr p) : ∀ (m : Nat) (rows : List (List Int)), rows.length ≤ m → Rows p n rows → (spl p n rows).length = p ^ rr p m rows
  | 0, [], _, _ => by
    have := hp.pos
    rw [spl_nil (by omega)]
    rfl
  | 0, _ :: _, h, _ => by cases h
  | m + 1, [], _, _ => by
    have := hp.pos
    rw [spl_nil (by omega)]
    rfl
  | m + 1, row :: rest, h, hr => by
    have hp0 := hp.pos
    have hpz : (0 : Int) < p := by omega
    have hrest : Rows p n rest := fun q hq => hr q (List.mem_cons_of_mem _ hq)
    have mr := hr row List.mem_cons_self
    cases hs : spots row with
    | nil =>
      have e : rr p (m + 1) (row :: rest) = rr p m rest := by
        show (match spots row with | [] => _ | k :: _ => _) = _
        rw [hs]
      rw [e, ← spl_rr hp m rest (by simpa using h) hrest]
      refine Nat.le_antisymm (spl_sub (by omega) hr hrest fun r h => ?_) (spl_sub (by omega) hrest hr fun r h => sp_row hpz hr (List.mem_cons_of_mem _ h))
      rcases List.mem_cons.mp h with e | h
      · rw [e, spots_nil hs, mr.1]
        exact .zero
      · exact sp_row hpz hrest h
    | cons k tl =>
      have e : rr p (m + 1) (row :: rest) = 1 + rr p m (rest.map (clr p row k)) := by
        show (match spots row with | [] => _ | k :: _ => _) = _
        rw [hs]
      rw [e, spl_piv hp hr (k := k) (by rw [hs]; exact List.mem_cons_self), spl_rr hp m _ (by rw [List.length_map]; simpa using h) fun r h => by
        obtain ⟨q, hq, rfl⟩ := List.mem_map.mp h
        exact mod_clr hpz mr (hrest q hq)]
      rw [Nat.add_comm, Nat.pow_succ, Nat.mul_comm]
/-- rows of a table, by indexes -/
def tabR (p : Int) (tb : Int → List Int) (S : List Int) : Nat := rowRank p (S.map tb)
theorem rank_tab {p : Nat} (hp : Pr p) {tb : Int → List Int} (hn : ∀ i, (tb i).length = n) : RankFn (tabR p tb) := by
  have hp0 := hp.pos
  have hpz : (0 : Int) < p := by omega
  have hrows : ∀ S : List Int, Rows p n ((S.map tb).map (rowMod p)) := fun S r hr => by
    obtain ⟨q, hq, rfl⟩ := List.mem_map.mp hr
    obtain ⟨i, _, rfl⟩ := List.mem_map.mp hq
    have := mod_row hpz (tb i)
    rw [hn] at this
    exact this
  have key : ∀ S : List Int, (spl p n ((S.map tb).map (rowMod p))).length = p ^ tabR p tb S := fun S => by
    unfold tabR rowRank
    exact spl_rr hp _ _ (by rw [List.length_map]; exact Nat.le_refl _) (hrows S)
  have hle : ∀ {a b : List Int}, (∀ r ∈ (a.map tb).map (rowMod p), Sp p n ((b.map tb).map (rowMod p)) r) → tabR p tb a ≤ tabR p tb b := fun {a b} h => by
    have := spl_sub (by omega) (hrows a) (hrows b) h
    rw [key, key] at this
    exact (Nat.pow_le_pow_iff_right (by omega)).mp this
  have hin : ∀ {S : List Int} {i : Int}, i ∈ S → rowMod p (tb i) ∈ (S.map tb).map (rowMod p) := fun {S i} h => List.mem_map.mpr ⟨_, List.mem_map.mpr ⟨i, h, rfl⟩, rfl⟩
  refine ⟨rfl, fun {a b} h => hle fun r hr => ?_, fun x a => ?_, fun a t h => ?_⟩
  · obtain ⟨q, hq, rfl⟩ := List.mem_map.mp hr
    obtain ⟨i, hi, rfl⟩ := List.mem_map.mp hq
    exact sp_row hpz (hrows b) (hin (h i hi))
  · have := spl_cons (by omega) (hrows (x :: a))
    have k1 := key (x :: a)
    rw [List.map_cons, List.map_cons] at k1
    rw [k1, key] at this
    rw [Nat.mul_comm, ← Nat.pow_succ] at this
    exact (Nat.pow_le_pow_iff_right (by omega)).mp this
  · have hx : ∀ x ∈ t, Sp p n ((a.map tb).map (rowMod p)) (rowMod p (tb x)) := fun x hxt => by
      refine Classical.byContradiction fun hno => ?_
      have hnd : (rowMod p (tb x) :: spl p n ((a.map tb).map (rowMod p))).Nodup := List.nodup_cons.mpr ⟨fun z => hno ((mem_spl (by omega) (hrows a)).mp z), nodup_spl⟩
      have := nd_lenA (b := spl p n (((x :: a).map tb).map (rowMod p))) hnd fun v hv => by
        refine (mem_spl (by omega) (hrows (x :: a))).mpr ?_
        rcases List.mem_cons.mp hv with e | hv
        · rw [e]
          exact sp_row hpz (hrows (x :: a)) (hin List.mem_cons_self)
        · exact sp_sub hpz (hrows (x :: a)) (fun r hr => List.mem_cons_of_mem _ hr) ((mem_spl (by omega) (hrows a)).mp hv)
      rw [List.length_cons, key, key, h x hxt] at this
      omega
    refine Nat.le_antisymm (hle fun r hr => ?_) (hle fun r hr => ?_)
    · obtain ⟨q, hq, rfl⟩ := List.mem_map.mp hr
      obtain ⟨i, hi, rfl⟩ := List.mem_map.mp hq
      rcases List.mem_append.mp hi with z | z
      · exact sp_row hpz (hrows a) (hin z)
      · exact hx i z
    · obtain ⟨q, hq, rfl⟩ := List.mem_map.mp hr
      obtain ⟨i, hi, rfl⟩ := List.mem_map.mp hq
      exact sp_row hpz (hrows _) (hin (List.mem_append.mpr (.inl hi)))
end
end Fv
namespace Fw
open PySem PySem.Spec PyProof.Rows L2 Fr
/-! # lambdas: what is called stands in the base -/
/-- a def's value that is called: at f, of the promise sp -/
structure LamG (P : Program) (w : World) (K : Frag) (mg : Str → Option Value) (base : Heap) (CX : CXT) (k : Nat) (f : Addr) (sp : Sp) : Prop where
  fn : PySem.W.FnAt f base
  run : ∀ (A : Around) (outer : List Env) (s : Shared) (H : Hp) (us : List Value) (vs : List V) (Q : VK) (E : XK), Room k A → A.guards = some [] → Env0 P w K mg base A outer s H → Vals vs us → sp vs H Q E →
    codeAny (model P w) A (.call (.ref f) ⟨us, []⟩) (CR CX outer P w H s Q E) s
theorem fnAt_keep {f : Addr} {h h' : Heap} (x : PySem.W.FnAt f h) (k : ∀ b o, h.get? b = some o → h'.get? b = some o) : PySem.W.FnAt f h' := by
  obtain ⟨oc, od, fd, sl, e⟩ := x
  exact ⟨oc, od, fd, sl, k _ _ e⟩
section
variable {X : Cx} {CX : CXT} {k j : Nat} {x : Str} {f : Addr} {sp : Sp} {p pos : Pos} {e : Expr} {es : List Expr} {t : TA}
theorem run_v {E : XK} {pins : List (Addr × Obj)} {σ : L2.St} {H : Hp} {s : Shared} {Q : VK} {us : List Value} {vs : List V} (F : LamG X.prog X.w X.K X.mg X.base CX k f sp) (hr : Room k X.A) (hgu : X.A.guards = some [])
    (hx : ∀ e s', CX X.stack H s E e s' → X.xe e s') (I : Inv X pins σ H s) (r : Vals vs us) (h : sp vs H Q E) : wpAny (model X.prog X.w) X.A (call (.ref f) us) (EP X pins σ Q) X.xe s := by
  have z := F.run X.A X.stack s H us vs Q E hr hgu I.env0 r h
  refine wpAny_call (codeAny_mono z ?_)
  rintro (er | fl) s' hq
  · exact hx er s' hq
  · cases fl with
    | ret u => exact I.after hq
    | next => cases hq
    | brk => cases hq
    | cont => cases hq
/-- a(e, ..), a a local that holds such a value -/
theorem pe_v {i : Nat} (c : LamG X.prog X.w X.K X.mg X.base C8.CX0 k f sp) (hr : Room j X.A) (hk : k ≤ j) (hgu : X.A.guards = some []) (hN : X.N[i]? = some x) (hv : Vis X.env.scope x) (ha : PA X (e :: es) t)
    (hd : (x == ("__debug__" : Str)) = false := by decide) (hcd : (x == ("__classdict__" : Str)) = false := by decide)
    (he : starEach (e :: es) X.env = (false, eval e X.env) :: starEach es X.env := by rfl) (hpl : (backTo pos (starEach es X.env)).any (·.1) = false := by rfl) :
    PE X (.Call (.Name x p) (e :: es) [] pos) (fun σ H Q => σ[i]? = some (some (.ref f)) ∧ t σ H fun vs H1 => sp vs H1 Q C8.E0) := by
  refine ⟨?_⟩
  rintro pins s σ H Q I ⟨hs, ht⟩
  refine wpAny_Call_Name_kw (thn ((pe_var (pos := p) hN hv hd hcd).run pins s σ H (fun v H1 => v = .ref f ∧ H1 = H) I ⟨.ref f, hs, rfl, rfl⟩) ?_)
  rintro u s1 ⟨v, H1, I1, r1, rfl, rfl⟩
  cases r1
  refine PySem.W.callWith_F (fnAt_keep c.fn I1.bk) (thn (ha.run pos pins s1 σ _ _ I1 ht) ?_) he hpl
  rintro us s2 ⟨vs, H2, I2, r, q⟩
  exact ⟨fnAt_keep c.fn I2.bk, run_v c (hr.mono hk) hgu (fun _ _ z => z.elim) I2 r q⟩
/-- a(), which may raise, under a try -/
theorem pe_vS {i : Nat} {E : L2.St → XK} (c : LamG X.prog X.w X.K X.mg X.base CX k f sp) (hr : Room j X.A) (hk : k ≤ j) (hgu : X.A.guards = some []) (hN : X.N[i]? = some x) (hv : Vis X.env.scope x) (hx : ∀ σ, PassesAt CX X σ (E σ))
    (hd : (x == ("__debug__" : Str)) = false := by decide) (hcd : (x == ("__classdict__" : Str)) = false := by decide) :
    PE X (.Call (.Name x p) [] [] pos) (fun σ H Q => σ[i]? = some (some (.ref f)) ∧ sp [] H Q (E σ)) := by
  refine ⟨?_⟩
  rintro pins s σ H Q I ⟨hs, ht⟩
  refine wpAny_Call_Name_kw (thn ((pe_var (pos := p) hN hv hd hcd).run pins s σ H (fun v H1 => v = .ref f ∧ H1 = H) I ⟨.ref f, hs, rfl, rfl⟩) ?_)
  rintro u s1 ⟨v, H1, I1, r1, rfl, rfl⟩
  cases r1
  exact PySem.W.callWith_F0 (fnAt_keep c.fn I1.bk) (run_v c (hr.mono hk) hgu (fun e s' z => hx σ pins H1 s1 e s' I1 z) I1 .nil ht)
end
/-! ## a lambda's body -/
/-- the context of the body -/
def lamCx (CX : CXT) (P : Program) (w : World) (K : Frag) (mg : Str → Option Value) (base : Heap) (N : List Str) (qual : Str) (scope : Scope) (cl : List (Str × Addr)) (f c : Addr) (A : Around) (outer : List Env) (s : Shared) (H : Hp) (E : XK) : Cx where
  prog := P
  w := w
  K := K
  mg := mg
  base := base
  A := A.deeper (PySem.W.envX qual scope s.heap.objs.size f (.ref c) cl)
  N := N
  s_0 := s
  H_0 := H
  env := PySem.W.envX qual scope s.heap.objs.size f (.ref c) cl
  outer := outer
  stack := PySem.W.envX qual scope s.heap.objs.size f (.ref c) cl :: outer
  ex := []
  fn := fun _ => false
  calm := true
  pn := []
  xe := fun e s' => wpAny (model P w) (A.deeper (PySem.W.envX qual scope s.heap.objs.size f (.ref c) cl)) (leaving (PySem.W.envX qual scope s.heap.objs.size f (.ref c) cl) e) (fun _ s'' => CX outer H s E e s'') (fun e' s'' => CX outer H s E e' s'') s'
/-- the names of a lambda: its parameters ps, what it captures cs -/
structure LamN (N ps cs : List Str) (scope : Scope) : Prop where
  kind : scope.kind = .function
  co : scope.isCoroutine = false
  gen : scope.isGenerator = false
  nd : N.Nodup
  pre : N.take (ps ++ cs).length = ps ++ cs
  par : ∀ y ∈ ps, scope.names.lookup y = some .local
  own : ∀ y ∈ scope.names, y.2 = .local → y.1 ∈ ps
  cell : ∀ y ∈ scope.names, y.2 ≠ .cell
  free : ∀ y ∈ scope.names, y.2 = .free → y.1 ∈ cs
  fr : ∀ y ∈ cs, scope.names.lookup y = some .free
def lamNB (N ps cs : List Str) (scope : Scope) : Bool :=
  decide (scope.kind = .function) && !scope.isCoroutine && !scope.isGenerator && decide N.Nodup && decide (N.take (ps ++ cs).length = ps ++ cs) && ps.all (fun y => decide (scope.names.lookup y = some .local)) &&
  scope.names.all (fun y => (!decide (y.2 = .local) || decide (y.1 ∈ ps)) && !decide (y.2 = .cell) && (!decide (y.2 = .free) || decide (y.1 ∈ cs))) && cs.all (fun y => decide (scope.names.lookup y = some .free))
theorem lamN_by {N ps cs : List Str} {scope : Scope} (h : lamNB N ps cs scope = true) : LamN N ps cs scope := by
  unfold lamNB at h
  simp only [Bool.and_eq_true, Bool.or_eq_true, Bool.not_eq_true', decide_eq_true_eq, decide_eq_false_iff_not, List.all_eq_true] at h
  obtain ⟨⟨⟨⟨⟨⟨⟨h1, h2⟩, h3⟩, h4⟩, h5⟩, h6⟩, h7⟩, h8⟩ := h
  refine ⟨h1, h2, h3, h4, h5, h6, fun y hy e => ?_, fun y hy => (h7 y hy).1.2, fun y hy e => ?_, h8⟩
  · rcases (h7 y hy).1.1 with z | z
    · exact absurd e z
    · exact z
  · rcases (h7 y hy).2 with z | z
    · exact absurd e z
    · exact z
/-- what the lambda at f has captured, in the base -/
structure Caps (base : Heap) (cs : List Str) (cl : List (Str × Addr)) (ws : List V) : Prop where
  sub : ∀ y c, cl.lookup y = some c → y ∈ cs
  inj : ∀ y z c, cl.lookup y = some c → cl.lookup z = some c → y = z
  len : ws.length = cs.length
  val : ∀ (i : Nat) (y : Str) (v : V), cs[i]? = some y → ws[i]? = some v → ∃ (c : Addr) (u : Value), cl.lookup y = some c ∧ base.IsCell c (some u) ∧ RelV v u
theorem start_at {N ps : List Str} {vs : List V} {i : Nat} {v : V} (h : (L2.start N vs)[i]? = some (some v)) : vs[i]? = some v := by
  unfold L2.start at h
  by_cases hi : i < vs.length
  · rw [List.getElem?_append_left (by simpa using hi), List.getElem?_map] at h
    cases e : vs[i]? with
    | none => rw [e] at h; cases h
    | some a => rw [e] at h; cases h; rfl
  · rw [List.getElem?_append_right (by simpa using hi), List.getElem?_replicate] at h
    split at h <;> cases h
theorem start_len {N : List Str} {vs : List V} (h : vs.length ≤ N.length) : (L2.start N vs).length = N.length := by
  unfold L2.start
  rw [List.length_append, List.length_map, List.length_replicate]
  omega
section
variable {CX : CXT} {P : Program} {w : World} {K : Frag} {mg : Str → Option Value} {base : Heap} {N ps cs : List Str} {qual : Str} {params : Arguments} {body : Expr} {scope : Scope} {cl : List (Str × Addr)} {f c : Addr} {A : Around} {outer : List Env} {s : Shared} {H : Hp} {E : XK} {us : List Value} {vs ws : List V}
theorem zip_look {ps : List Str} {us : List Value} {i : Nat} {x : Str} {u : Value} (nd : ps.Nodup) (h1 : ps[i]? = some x) (h2 : us[i]? = some u) : (ps.zip us).reverse.lookup x = some u := by
  have hm : (x, u) ∈ (ps.zip us).reverse := by
    rw [List.mem_reverse]
    refine List.mem_of_getElem? (i := i) ?_
    rw [List.getElem?_zip_eq_some]
    exact ⟨h1, h2⟩
  have key : ∀ {l : List (Str × Value)}, (l.map (·.1)).Nodup → (x, u) ∈ l → l.lookup x = some u := by
    intro l
    induction l with
    | nil => intro _ h; cases h
    | cons q l ih =>
      intro hn h
      obtain ⟨y, z⟩ := q
      rw [List.map_cons, List.nodup_cons] at hn
      rcases List.mem_cons.mp h with e | hin
      · cases e
        simp [List.lookup]
      · have hne : (x == y) = false := by
          rw [beq_eq_false_iff_ne]
          intro e
          subst e
          exact hn.1 (List.mem_map.mpr ⟨(x, u), hin, rfl⟩)
        simp only [List.lookup, hne]
        exact ih hn.2 hin
  refine key ?_ hm
  rw [List.map_reverse]
  unfold List.Nodup
  rw [List.pairwise_reverse]
  have e : ((ps.zip us).map (·.1)) = ps.take us.length := by
    clear h1 h2 hm key nd
    induction ps generalizing us with
    | nil => simp
    | cons a l ih =>
      cases us with
      | nil => simp
      | cons b r => simp [ih]
  rw [e]
  exact (nd.sublist (List.take_sublist _ _)).imp fun h e => h e.symm
theorem lam_start (L : LamN N ps cs scope) (Cp : Caps base cs cl ws) (hd : A.handled = none) (e0 : Env0 P w K mg base A outer s H) (hl : vs.length = ps.length) (r : Vals vs us) {h₁ : Heap} {tk : Nat}
    (hns : h₁.Ns s.heap.objs.size fun y => (ps.zip us).reverse.lookup y) (kp : ∀ b o, s.heap.get? b = some o → h₁.get? b = some o) :
    Inv (lamCx CX P w K mg base N qual scope cl f c A outer s H E) [] (L2.start N (vs ++ ws)) H { s with heap := h₁, toks := tk } := by
  have noA : ∀ b : Addr, b ∉ (lamCx CX P w K mg base N qual scope cl f c A outer s H E).ex := fun b z => absurd (show b ∈ ([] : List Addr) from z) (by simp)
  have hlen : (vs ++ ws).length = (ps ++ cs).length := by rw [List.length_append, List.length_append, hl, Cp.len]
  have hNl : (vs ++ ws).length ≤ N.length := by
    have := congrArg List.length L.pre
    rw [List.length_take] at this
    omega
  have cellOf : ∀ y c, cl.lookup y = some c → ∃ u, base.IsCell c (some u) := fun y c h => by
    obtain ⟨i, hi⟩ := List.mem_iff_getElem?.mp (Cp.sub y c h)
    have hi' : i < ws.length := by
      rw [Cp.len]
      exact (List.getElem?_eq_some_iff.mp hi).1
    obtain ⟨c2, u, e1, e2, _⟩ := Cp.val i y _ hi (List.getElem?_eq_getElem hi')
    rw [h] at e1
    cases e1
    exact ⟨u, e2⟩
  have cellK : ∀ {c : Addr} {v : Option Value}, base.IsCell c v → h₁.IsCell c v ∧ H c = none := fun {c v} ⟨o, ho, hd⟩ => ⟨⟨o, kp _ _ (e0.bs _ _ ho).1, hd⟩, (e0.bs _ _ ho).2⟩
  refine ⟨⟨e0.mod, L.kind, rfl, rfl, Nat.le_refl _, fun y z c e1 e2 => Cp.inj y z c e1 e2, fun y hy => ?_, fun y c z _ => (by cases z), fun _ => hd, Around.frames_deeper e0.frames, .inr ⟨rfl, rfl⟩, fun b z => absurd z (noA b), e0.bs, e0.bsz, fun b _ _ => noA b,
      fun b z => absurd z (noA b), e0.funs, e0.frf⟩,
    rfl, e0.bare, Un.kept kp, ⟨_, hns, fun i y v e1 e2 e3 => ?_⟩, fun y c e => ?_, e0.hok.fresh (Nat.le_refl _), fun y c e => ?_, fun q hq => absurd (show q ∈ ([] : List (Addr × Obj)) ++ [] from hq) (by simp), e0.hok.kept kp, start_len hNl⟩
  · have hy : scope.names.lookup y = some .cell ∨ scope.names.lookup y = some .free := hy
    rcases hy with hy | hy
    · exact absurd rfl (L.cell _ (PySem.mem_of_lookup hy))
    · obtain ⟨i, hi⟩ := List.mem_iff_getElem?.mp (L.free _ (PySem.mem_of_lookup hy) rfl)
      have hi' : i < ws.length := by
        rw [Cp.len]
        exact (List.getElem?_eq_some_iff.mp hi).1
      obtain ⟨c2, u, q1, _, _⟩ := Cp.val i y _ hi (List.getElem?_eq_getElem hi')
      exact ⟨c2, q1⟩
  · have e1 : N[i]? = some y := e1
    have e2 := start_at (ps := ps) e2
    have hi : i < (vs ++ ws).length := (List.getElem?_eq_some_iff.mp e2).1
    have e4 : (ps ++ cs)[i]? = some y := by
      rw [← L.pre, List.getElem?_take_of_lt (by omega)]
      exact e1
    by_cases hlt : i < ps.length
    · rw [List.getElem?_append_left hlt] at e4
      rw [List.getElem?_append_left (by omega)] at e2
      obtain ⟨u, hu, rv⟩ := r.get e2
      have nps : ps.Nodup := by
        have := L.nd.sublist (List.take_sublist (ps ++ cs).length N)
        rw [L.pre] at this
        exact (List.nodup_append.mp this).1
      exact ⟨u, rv, .inl ⟨L.par y (List.mem_of_getElem? e4), zip_look nps e4 hu⟩⟩
    · rw [List.getElem?_append_right (by omega)] at e4
      rw [List.getElem?_append_right (by omega), hl] at e2
      obtain ⟨c2, u, q1, q2, q3⟩ := Cp.val _ y v e4 e2
      exact ⟨u, q3, .inr ⟨.inr (L.fr y (List.mem_of_getElem? e4)), c2, q1, (cellK q2).1⟩⟩
  · obtain ⟨u, q⟩ := cellOf y c e
    exact ⟨_, (cellK q).1⟩
  · obtain ⟨u, q⟩ := cellOf y c e
    exact (cellK q).2
/-- the lambda called: its body's reading -/
theorem run_lam {k : Nat} {pm ctv : Value} {Q : VK} (L : LamN N ps cs scope) (Cp : Caps base cs cl ws) (hf : base.get? f = some (PySem.W.kla_obj "<lambda>" qual params body scope cl pm c ctv))
    (hbind : bindArgs (PySem.W.kla_fn "<lambda>" qual params body scope cl pm (.ref c) ctv) ⟨us, []⟩ = pure (ps.zip us)) (hr : Room (k + 1) A) (e0 : Env0 P w K mg base A outer s H) (hl : vs.length = ps.length) (r : Vals vs us) (hc : H c = some (LamX.CodeO c qual))
    (hbody : Room k (A.deeper (PySem.W.envX qual scope s.heap.objs.size f (.ref c) cl)) → ∃ t, PE (lamCx CX P w K mg base N qual scope cl f c A outer s H E) body t ∧ t (L2.start N (vs ++ ws)) H Q) :
    codeAny (model P w) A (.call (.ref f) ⟨us, []⟩) (CR CX outer P w H s Q E) s := by
  have of1 := (e0.bs _ _ hf).1
  obtain ⟨⟨oc, vs', t, hoc, hdc, hvc⟩, _, _⟩ := e0.hok c _ hc
  have lim : s.heap.NoLimit := by
    refine e0.mod.nolimit.keeps ?_
    intro b o e
    exact (e0.bs b o e).1
  refine PySem.W.kla_callFunE hr.depth of1 rfl L.co L.gen rfl ⟨c, oc, vs', t, rfl, hoc, hdc, hvc⟩ ?_
  rw [hbind]
  refine wpAny_pure (wpAny_newFunctionEnv L.cell (fun y hy => L.par y.1 (List.of_mem_zip (a := y.1) (b := y.2) hy).1) (fun h₁ hns hsb => ⟨lim.fresh _ hsb, ?_⟩) L.kind)
  show codeAny _ _ (.expr body (PySem.W.envX qual scope s.heap.objs.size f (.ref c) cl)) _ _
  have kp : ∀ b o, s.heap.get? b = some o → h₁.get? b = some o := fun b o e => hsb.extBut b o (Nat.ne_of_lt (Heap.lt_size e)) (Heap.get?_push_of_some _ e)
  have J := lam_start (CX := CX) (E := E) (f := f) (c := c) (qual := qual) (tk := s.toks + (ps.zip us).length) L Cp hr.hd e0 hl r hns kp
  obtain ⟨t, hp, ht⟩ := hbody (hr.deeper _)
  refine PySem.W.kla_codeExpr (wpAny_mono (hp.run [] _ _ H Q J ht) (fun v s' hq => ?_) fun e s' hq => hq)
  obtain ⟨w', H', J', rv, q⟩ := hq
  exact ⟨w', H', J'.os, J'.bare, J'.base, J'.hok, rv, q⟩
end
end Fw
namespace Fw
open PySem PySem.Spec PyProof.Rows L2 Fr
section
variable {X : Cx} {L : Ly} {B : Bs} {pins : List (Addr × Obj)} {G H : Hp} {σ : L2.St} {ρ : En} {s : Shared}
/-! # the lambda is made -/
theorem lam_make {c P : Addr} {params : Arguments} {body : Expr} {scope : Scope} {pos : Pos} {E : Value → Shared → Prop} {Q : Value → Shared → Prop} (I : Inv X pins σ H s) (r : Rep L B G H σ ρ) (TB : LamX.TabB X.base X.mg c P) (hcode : X.env.code = .ref c)
    (hm : (P, X.env.qual ++ "<lambda>") ∈ B.T) (hu : ∀ p ∈ B.T, p.1 = P → p.2 = X.env.qual ++ "<lambda>") (hdef : defaultsOf params X.env = ([], [])) (hfree : ∀ y ∈ scope.names, y.2 = .free → ∃ c, X.env.cells.lookup y.1 = some c)
    (h : ∀ (f c' : Addr) (pm ctv : Value) (G1 H1 : Hp) (s' : Shared), Inv X pins σ H1 s' → Rep L B G1 H1 σ ρ → Same G G1 →
      s'.heap.get? f = some (PySem.W.kla_obj "<lambda>" (X.env.qual ++ "<lambda>") params body scope (cloFrom X.env.cells scope.names []) pm c' ctv) → H1 f = none → f ∉ frs X.stack → s.heap.objs.size ≤ f → G1 c' = some (LamX.CodeO c' (X.env.qual ++ "<lambda>")) → Q (.ref f) s') :
    wpAny (model X.prog X.w) X.A (eval (.Lambda params body scope pos) X.env) Q E s := by
  obtain ⟨ps, hP, ht, ha⟩ := r.tb _ hm
  obtain ⟨hPG, hPo, _⟩ := r.tg _ hm
  have hPM : B.M P := r.mt _ hm
  refine PySem.W.kla_eval hdef ?_
  have bP : s.heap.BuiltinsAt X.mg P := TB.bm.keeps I.bk
  have hP' : s.heap.get? P = some { cls := .none, data := .fields ps } := I.hok P _ hP
  have nofr : ∀ f, s.heap.objs.size ≤ f → f ∉ frs X.stack := fun f hf z => by
    rcases List.mem_cons.mp (I.stkSub _ z) with e | e
    · have h1 := I.lt
      rw [← e] at h1
      exact Nat.lt_irrefl _ (Nat.lt_of_lt_of_le h1 hf)
    · exact I.nofs hf e
  cases hc : codeAmong pos ps.toList with
  | none =>
    refine PySem.W.kla_makeFunction (mg := X.mg) (c := c) (P := P) (ps := ps) (closure_ok hfree) I.ok.glob (I.mod.glob.keeps I.bk) hcode (TB.code.keeps I.bk) hP' ht hc TB.gP bP fun c' ctv h' tk hx hge hlt hrec htb => ?_
    obtain ⟨c2, oc, vs, t, e2, hoc, hd, hv⟩ := hrec
    cases e2
    have hsz : s.heap.objs.size ≤ h'.objs.size := Nat.le_trans hge (Nat.le_of_lt hlt)
    have nC : H c' = none := I.hok.fresh hge
    have nPc : c' ≠ P := fun z => by
      rw [z, hP] at nC
      cases nC
    have I1 := LamX.inv_table (t' := tk) (q := X.env.qual ++ "<lambda>") (more := #[rawInt pos.line, rawInt pos.col, .ref c']) (h' := h'.push (PySem.W.kla_obj "<lambda>" (X.env.qual ++ "<lambda>") params body scope (cloFrom X.env.cells scope.names []) ((X.mg "__name__").getD .none) c' ctv)) I hP
      (fun b o hb e => Heap.get?_push_of_some _ (hx b o hb e)) (Heap.get?_push_of_some _ htb) hge ⟨oc, vs, t, Heap.get?_push_of_some _ hoc, hd, hv⟩
    have eL : (ps ++ #[rawInt pos.line, rawInt pos.col, .ref c']).toList = ps.toList ++ [rawInt pos.line, rawInt pos.col, .ref c'] := by simp
    have nC1 : (upd H P (.tbl (ps ++ #[rawInt pos.line, rawInt pos.col, .ref c']))) c' = none := by
      rw [upd_ne nPc]
      exact nC
    have g1 : Grow B.M G H G (upd H P (.tbl (ps ++ #[rawInt pos.line, rawInt pos.col, .ref c']))) := Grow.chg r.gh hPM hPG
    have g2 := Grow.lay (M := B.M) (o := LamX.CodeO c' (X.env.qual ++ "<lambda>")) g1.gh nC1
    have sG : Same G (upd G c' (LamX.CodeO c' (X.env.qual ++ "<lambda>"))) := same_upd (r.gh.free nC)
    have keepH : ∀ b o, b ≠ P → H b = some o → (upd (upd H P (.tbl (ps ++ #[rawInt pos.line, rawInt pos.col, .ref c']))) c' (LamX.CodeO c' (X.env.qual ++ "<lambda>"))) b = some o := fun b o hb e => by
      rw [upd_ne (ne_of_none e nC), upd_ne hb]
      exact e
    refine h h'.objs.size c' ((X.mg "__name__").getD .none) ctv _ _ _ I1 (r.step (g1.trans g2) (fun d l cc hm => ?_) fun p hp => ?_) sG (Heap.get?_push_size _ rfl) ?_ (nofr _ hsz) hsz upd_same
    · obtain ⟨D, _⟩ := draw_mem r hm
      obtain ⟨q1, q2, q3, q4, D⟩ := D
      have off : ∀ b, b ∈ slA (some (Sl.drw d l cc)) → b ≠ P := fun b hb z => hPo (by rw [← z]; exact own_mem hm hb)
      exact ⟨q1, q2, q3, q4, keepH _ _ (off d (by simp [slA])) D.hd, keepH _ _ (off l (by simp [slA])) D.hl, keepH _ _ (off cc (by simp [slA])) D.hc, D.ne⟩
    · by_cases hb : p.1 = P
      · rw [hu p hp hb, hb]
        refine ⟨_, by rw [upd_ne nPc.symm, upd_same], by rw [eL]; exact PySem.TriplesOk_snoc _ _ _ _ ht, fun p' cv hcv => ?_⟩
        rw [eL] at hcv
        rcases LamX.among_app _ ht hcv with z | z
        · obtain ⟨c0, e1, e2⟩ := ha p' cv z
          exact ⟨c0, e1, sG _ _ e2⟩
        · exact ⟨c', z, upd_same⟩
      · exact (r.tb p hp).go sG fun o ho => keepH _ _ hb ho
    · have n1 : h'.objs.size ≠ c' := Nat.ne_of_gt hlt
      have n2 : h'.objs.size ≠ P := Nat.ne_of_gt (Nat.lt_of_lt_of_le (Heap.lt_size hP') hsz)
      rw [upd_ne n1, upd_ne n2]
      exact I.hok.fresh hsz
  | some cv =>
    obtain ⟨c', e, hco⟩ := ha pos cv hc
    subst e
    refine PySem.W.kla_makeFunctionHit (mg := X.mg) (c := c) (P := P) (ps := ps) (closure_ok hfree) I.ok.glob (I.mod.glob.keeps I.bk) hcode (TB.code.keeps I.bk) hP' ht hc bP fun ctv h' tk hx hsz => ?_
    have I1 : Inv X pins σ H { s with heap := h'.push (PySem.W.kla_obj "<lambda>" (X.env.qual ++ "<lambda>") params body scope (cloFrom X.env.cells scope.names []) ((X.mg "__name__").getD .none) c' ctv), toks := tk } := I.kept fun b o e => Heap.get?_push_of_some _ (hx b o e)
    exact h h'.objs.size c' ((X.mg "__name__").getD .none) ctv G H _ I1 r (Same.refl G) (Heap.get?_push_size _ rfl) (I.hok.fresh hsz) (nofr _ hsz) hsz hco
/-! # what stands untracked becomes the base -/
theorem base_sw (I : Inv X pins σ H s) : ∃ B' : Heap, Env0 X.prog X.w X.K X.mg B' X.A X.stack s H ∧ ∀ b o, s.heap.get? b = some o → H b = none → b ∉ frs X.stack → B'.get? b = some o := by
  refine ⟨PySem.W.hideAll s.heap (trk s.heap H ++ frs X.stack), ?_, ?_⟩
  rotate_left
  · intro b o e n hb
    refine PySem.W.hideAll_get _ e fun hm => ?_
    rcases List.mem_append.mp hm with hm | hm
    · have q : (H b).isSome = true := (List.mem_filter.mp hm).2
      rw [n] at q
      cases q
    · exact hb hm
  have get : ∀ b o, s.heap.get? b = some o → H b = none → b ∉ frs X.stack → (PySem.W.hideAll s.heap (trk s.heap H ++ frs X.stack)).get? b = some o := by
    intro b o e n hb
    refine PySem.W.hideAll_get _ e fun hm => ?_
    rcases List.mem_append.mp hm with hm | hm
    · have q : (H b).isSome = true := (List.mem_filter.mp hm).2
      rw [n] at q
      cases q
    · exact hb hm
  have up : ∀ b o, X.base.get? b = some o → (PySem.W.hideAll s.heap (trk s.heap H ++ frs X.stack)).get? b = some o := fun b o e => by
    refine get b o (I.bk b o e) (I.bs b o e).2 fun hb => ?_
    have := (I.stack.mem hb).1
    rw [e] at this
    cases this
  have dn : ∀ b o, (PySem.W.hideAll s.heap (trk s.heap H ++ frs X.stack)).get? b = some o → s.heap.get? b = some o ∧ H b = none := fun b o e => by
    have e' := PySem.W.of_hideAll _ e
    refine ⟨e', ?_⟩
    cases q : H b with
    | none => rfl
    | some x =>
      have hm : b ∈ trk s.heap H ++ frs X.stack := List.mem_append.mpr (.inl (List.mem_filter.mpr ⟨List.mem_range.mpr (Heap.lt_size e'), by simp [q]⟩))
      rw [PySem.W.hideAll_none _ hm] at e
      cases e
  obtain ⟨mb, b1, b2⟩ := I.mod.blt
  refine ⟨I.ok.frames, ⟨I.mod.kin.keeps up, I.mod.glob.keeps up, ⟨mb, b1.keeps up, b2⟩, I.mod.nolimit.keeps up⟩, dn, Nat.le_of_eq (PySem.W.hideAll_size _ _), funFrames_none I.stack fun b hb => PySem.W.hideAll_none _ (List.mem_append.mpr (.inr hb)), I.stkFree, I.hok, I.bare⟩
/-- what a lambda captures of the running def -/
theorem caps_of {B' : Heap} {N ps cs : List Str} {scope : Scope} {ws : List V} (I : Inv X pins σ H s) (hfn : ∀ y, X.fn y = true) (LN : LamN N ps cs scope) (hsc : ∀ y ∈ cs, X.env.scope.names.lookup y = some .cell ∨ X.env.scope.names.lookup y = some .free) (hlen : ws.length = cs.length)
    (hσ : ∀ (i : Nat) (y : Str) (v : V), cs[i]? = some y → ws[i]? = some v → ∃ j : Nat, X.N[j]? = some y ∧ σ[j]? = some (some v)) (hB : ∀ b o, s.heap.get? b = some o → H b = none → b ∉ frs X.stack → B'.get? b = some o) : Caps B' cs (cloFrom X.env.cells scope.names []) ws := by
  have hfree : ∀ y ∈ scope.names, y.2 = .free → ∃ c, X.env.cells.lookup y.1 = some c := fun y hy e => I.ok.has _ (hsc _ (LN.free y hy e))
  have cm : ∀ {y c}, (cloFrom X.env.cells scope.names []).lookup y = some c → X.env.cells.lookup y = some c ∧ y ∈ cs := fun {y c} e => by
    rcases cloFrom_mem (PySem.mem_of_lookup e) with hm | ⟨h1, h2⟩
    · cases hm
    · obtain ⟨c1, hc⟩ := hfree _ h1 rfl
      have hc : X.env.cells.lookup y = some c1 := hc
      have e2 : c = c1 := by
        rw [h2, hc] <;> rfl
      rw [e2]
      exact ⟨hc, LN.free _ h1 rfl⟩
  refine ⟨fun y c e => (cm e).2, fun y z c e1 e2 => I.ok.inj y z c (cm e1).1 (cm e2).1, hlen, fun i y v h1 h2 => ?_⟩
  have hy : (y, NameKind.free) ∈ scope.names := PySem.mem_of_lookup (LN.fr y (List.mem_of_getElem? h1))
  obtain ⟨c, hc⟩ := mem_lookup (cloFrom_has (cells := X.env.cells) (acc := []) hy)
  have hc' := (cm hc).1
  obtain ⟨j, j1, j2⟩ := hσ i y v h1 h2
  obtain ⟨m, hn, hl⟩ := I.loc
  have hsy := hsc y (List.mem_of_getElem? h1)
  have hvis : Vis X.env.scope y := hsy.elim (fun k => .inr (.inl k)) (fun k => .inr (.inr k))
  obtain ⟨u, r, q⟩ := hl j y v j1 j2 hvis
  refine ⟨c, u, hc, ?_, r⟩
  rcases q with ⟨k', _⟩ | ⟨_, c3, e', o, ho, hd⟩
  · have k' : X.env.scope.names.lookup y = some .local := k'
    rcases hsy with z | z <;> rw [z] at k' <;> cases k'
  · rw [hc'] at e'
    cases e'
    refine ⟨o, hB _ _ ho (I.freeC y _ hc') fun hm => ?_, hd⟩
    rcases List.mem_cons.mp (I.stkSub _ hm) with e | hm
    · exact I.cne y _ hc' e
    · obtain ⟨_, o2, ho2, _⟩ := I.ok.funs.mem hm
      exact Nat.lt_irrefl _ (Nat.lt_of_lt_of_le (Heap.lt_size ho2) (I.ok.cab y _ (hfn y) hc'))
end
/-! # layouts with a lambda -/
/-- with the lambda at f, made where G0 stood -/
def Ly.lam (L : Ly) (f : Addr) (G0 : Hp) : Ly where
  K := L.K
  Ob := fun n G v vs => (n = 9 ∧ v = .ref f ∧ vs = [] ∧ Same G0 G) ∨ (n ≠ 9 ∧ L.Ob n G v vs)
  mo := fun s h => h.elim (fun h => .inl ⟨h.1, h.2.1, h.2.2.1, h.2.2.2.trans s⟩) fun h => .inr ⟨h.1, L.mo s h.2⟩
abbrev lamD : Da := .obj 9 []
theorem dv_lam {L : Ly} {f : Addr} {G0 G : Hp} {v : V} (h : Dv (L.lam f G0) G v lamD) : v = .ref f ∧ Same G0 G := by
  cases h with
  | obj h t =>
    rcases h with h | h
    · exact ⟨h.2.1, h.2.2.2⟩
    · exact absurd rfl h.1
theorem lam_dv {L : Ly} {f : Addr} {G0 G : Hp} (s : Same G0 G) : Dv (L.lam f G0) G (.ref f) lamD := .obj (.inl ⟨rfl, rfl, rfl, s⟩) .nil
/-! data without lambdas -/
mutual
def no9 : Da → Bool
  | .obj n xs => decide (n ≠ 9) && no9s xs
  | .lst xs => no9s xs
  | .tup xs => no9s xs
  | _ => true
def no9s : List Da → Bool
  | [] => true
  | x :: r => no9 x && no9s r
end
mutual
theorem no9_py : ∀ {d : Da} {x : PyData}, py d = some x → no9 d = true
  | .non, _, _ => rfl
  | .bl _, _, _ => rfl
  | .int _, _, _ => rfl
  | .str _, _, _ => rfl
  | .lst ds, d, e => by
    have e' : (pys ds).map PyData.list = some d := by simpa only [py] using e
    obtain ⟨es, h1, rfl⟩ := Option.map_eq_some_iff.mp e'
    exact no9s_py h1
  | .tup ds, d, e => by
    have e' : (pys ds).map PyData.tuple = some d := by simpa only [py] using e
    obtain ⟨es, h1, rfl⟩ := Option.map_eq_some_iff.mp e'
    exact no9s_py h1
  | .obj _ _, _, e => by simp only [py] at e; cases e
theorem no9s_py : ∀ {xs : List Da} {ds : List PyData}, pys xs = some ds → no9s xs = true
  | [], _, _ => rfl
  | x :: r, ds, e => by
    have e' : ((py x).bind fun d => (pys r).map fun ds => d :: ds) = some ds := by simpa only [pys] using e
    obtain ⟨d, h1, e2⟩ := Option.bind_eq_some_iff.mp e'
    obtain ⟨es, h2, rfl⟩ := Option.map_eq_some_iff.mp e2
    show (no9 x && no9s r) = true
    rw [no9_py h1, no9s_py h2]
    rfl
end
section
variable {L : Ly} {f : Addr} {G0 : Hp}
mutual
theorem dv_to {G : Hp} : ∀ {v : V} {d : Da}, Dv L G v d → no9 d = true → Dv (L.lam f G0) G v d
  | _, _, .non, _ => .non
  | _, _, .bl b, _ => .bl b
  | _, _, .int i, _ => .int i
  | _, _, .str x, _ => .str x
  | _, _, .lst h t, e => .lst h (dvs_to t e)
  | _, _, .tup h t, e => .tup h (dvs_to t e)
  | _, _, .obj h t, e => by
    have e' := Bool.and_eq_true_iff.mp e
    exact .obj (.inr ⟨of_decide_eq_true e'.1, h⟩) (dvs_to t e'.2)
theorem dvs_to {G : Hp} : ∀ {vs : List V} {xs : List Da}, DvAll L G vs xs → no9s xs = true → DvAll (L.lam f G0) G vs xs
  | _, _, .nil, _ => .nil
  | _, _, .cons h t, e => by
    have e' := Bool.and_eq_true_iff.mp e
    exact .cons (dv_to h e'.1) (dvs_to t e'.2)
end
mutual
theorem dv_fr {G : Hp} : ∀ {v : V} {d : Da}, Dv (L.lam f G0) G v d → no9 d = true → Dv L G v d
  | _, _, .non, _ => .non
  | _, _, .bl b, _ => .bl b
  | _, _, .int i, _ => .int i
  | _, _, .str x, _ => .str x
  | _, _, .lst h t, e => .lst h (dvs_fr t e)
  | _, _, .tup h t, e => .tup h (dvs_fr t e)
  | _, _, .obj h t, e => by
    have e' := Bool.and_eq_true_iff.mp e
    rcases h with h | h
    · exact absurd h.1 (of_decide_eq_true e'.1)
    · exact .obj h.2 (dvs_fr t e'.2)
theorem dvs_fr {G : Hp} : ∀ {vs : List V} {xs : List Da}, DvAll (L.lam f G0) G vs xs → no9s xs = true → DvAll L G vs xs
  | _, _, .nil, _ => .nil
  | _, _, .cons h t, e => by
    have e' := Bool.and_eq_true_iff.mp e
    exact .cons (dv_fr h e'.1) (dvs_fr t e'.2)
end
end
/-- a lambda's promise: what stood when it was made still stands -/
def spV (L : Ly) (G0 : Hp) (F : Pf) : Sp := fun vs H Q _ => ∃ G ds, Same G0 G ∧ Same G H ∧ DvAll L G vs ds ∧ F.f ds fun d => ∀ v G' H', Grow M0 G H G' H' → Dv L G' v d → Q v H'
def pCV (i : Nat) (g : Pl) (F : Pf) : Px := ⟨fun ρ k => ρ[i]? = some (some (.dat lamD)) ∧ g.f ρ fun xs ρ1 => F.f xs fun z => k z ρ1, fun h ⟨a, q⟩ => ⟨a, g.mono (fun _ _ => F.mono fun _ => h _ _) q⟩⟩
theorem w_callV {X : Cx} {L : Ly} {f : Addr} {G0 : Hp} {k j i : Nat} {x : Str} {p pos : Pos} {e : Expr} {es : List Expr} {g : Pl} {F : Pf} (c : LamG X.prog X.w X.K X.mg X.base C8.CX0 k f (spV (L.lam f G0) G0 F)) (hr : Room j X.A) (hk : k ≤ j) (hgu : X.A.guards = some []) (hN : X.N[i]? = some x) (hv : Vis X.env.scope x)
    (ha : PA X (e :: es) (tWA (L.lam f G0) g)) (hd : (x == ("__debug__" : Str)) = false := by decide) (hcd : (x == ("__classdict__" : Str)) = false := by decide)
    (he : starEach (e :: es) X.env = (false, eval e X.env) :: starEach es X.env := by rfl) (hpl : (backTo pos (starEach es X.env)).any (·.1) = false := by rfl) :
    PE X (.Call (.Name x p) (e :: es) [] pos) (tW (L.lam f G0) (pCV i g F)) := by
  refine PE.imp (pe_v c hr hk hgu hN hv ha hd hcd he hpl) ?_
  rintro σ H Q ⟨B, G, ρ, r, hi, h⟩
  obtain ⟨sv, hs, hv⟩ := paired_get r.env hi
  cases sv with
  | none => exact (reps_none hv).elim
  | some v =>
    obtain ⟨rfl, sG⟩ := dv_lam hv
    refine ⟨hs, B, G, ρ, r, g.mono ?_ h⟩
    intro xs ρ1 h1 vs G1 H1 r1 s1 d1
    refine ⟨G1, xs, sG.trans s1, r1.gh, d1, F.mono ?_ h1⟩
    intro z h3 v G' H' gr dv
    exact h3 v G' H' (r1.go gr) (s1.trans gr.gg) dv
/-- what is known of a lambda that was made -/
structure LamAt (B' : Heap) (G : Hp) (f c : Addr) (qual : Str) (params : Arguments) (body : Expr) (scope : Scope) (cl : List (Str × Addr)) (cs : List Str) (ws : List V) : Prop where
  obj : ∃ pm ctv, B'.get? f = some (PySem.W.kla_obj "<lambda>" qual params body scope cl pm c ctv)
  caps : Caps B' cs cl ws
  code : G c = some (LamX.CodeO c qual)
/-- its promise, by its body -/
theorem calV {P : Program} {w : World} {mg : Str → Option Value} {B' : Heap} {L : Ly} {G0 : Hp} {f c : Addr} {N ps cs : List Str} {qual : Str} {params : Arguments} {body : Expr} {scope : Scope} {cl : List (Str × Addr)} {ws : List V} {cds : List Da} {k n : Nat} {F : Pf}
    (LN : LamN N ps cs scope) (at_ : LamAt B' G0 f c qual params body scope cl cs ws) (hcd : DvAll L G0 ws cds)
    (hbind : ∀ (us : List Value) (pm ctv : Value), us.length = ps.length → bindArgs (PySem.W.kla_fn "<lambda>" qual params body scope cl pm (.ref c) ctv) ⟨us, []⟩ = pure (ps.zip us)) (hlen : ∀ ds k, F.f ds k → ds.length = ps.length)
    (hN : N.length = ps.length + cs.length + n)
    (hbody : ∀ (A : Around) (outer : List Env) (s : Shared) (H : Hp) (E : XK), Room k (A.deeper (PySem.W.envX qual scope s.heap.objs.size f (.ref c) cl)) → A.guards = some [] →
      ∃ g : Px, PE (lamCx C8.CX0 P w L.K mg B' N qual scope cl f c A outer s H E) body (tW L g) ∧ ∀ ds kk, F.f ds kk → g.f (ent (ds ++ cds) n) (fun d _ => kk d)) : LamG P w L.K mg B' C8.CX0 (k + 1) f (spV L G0 F) := by
  obtain ⟨⟨pm, ctv, ho⟩, Cp, hcode⟩ := at_
  refine ⟨⟨_, _, _, _, ho⟩, ?_⟩
  rintro A outer s H us vs Q E hr hgu e0 rv ⟨G, ds, s0, sG, dv, h⟩
  have hl : vs.length = ps.length := (dvs_len dv).trans (hlen ds _ h)
  refine run_lam LN Cp ho (hbind us pm ctv (rv.length.symm.trans hl)) hr e0 hl rv (sG _ _ (s0 _ _ hcode)) fun hr2 => ?_
  obtain ⟨g, hp, hF⟩ := hbody A outer s H E hr2 hgu
  refine ⟨_, hp, ?_⟩
  have hst : L2.start N (vs ++ ws) = (vs ++ ws).map some ++ List.replicate n none := by
    unfold L2.start
    have hl2 : (vs ++ ws).length = ps.length + cs.length := by rw [List.length_append, hl, Cp.len]
    rw [hN, hl2, Nat.add_sub_cancel_left]
  rw [hst]
  refine ⟨⟨M0, G, H, [], []⟩, G, ent (ds ++ cds) n, rep_ent sG (dvs_app dv (dvs_same s0 hcd)), g.mono ?_ (hF ds _ h)⟩
  intro d ρ' q v G' H' r' s' d'
  exact q v G' H' r'.gr d'
end Fw
namespace Fw
open PySem PySem.Spec PyProof.Rows L2 Fr
/-! # x(.., lambda ..: body) -/
def Caught (ρ : En) (is : List Nat) (cds : List Da) : Prop := is.map (fun i => ρ[i]?) = cds.map fun d => some (some (Sl.dat d))
theorem caught_vals {L : Ly} {B : Bs} {G H : Hp} {σ : L2.St} {ρ : En} (r : Rep L B G H σ ρ) : ∀ {is : List Nat} {cds : List Da}, Caught ρ is cds → ∃ ws : List V, ws.length = is.length ∧ DvAll L G ws cds ∧ ∀ (k i : Nat), is[k]? = some i → ∃ v, ws[k]? = some v ∧ σ[i]? = some (some v)
  | [], [], _ => ⟨[], rfl, .nil, fun k i h => by simp at h⟩
  | [], _ :: _, h => by cases h
  | _ :: _, [], h => by cases h
  | i :: is, d :: cds, h => by
    unfold Caught at h
    rw [List.map_cons, List.map_cons] at h
    injection h with h1 h2
    obtain ⟨ws, w1, w2, w3⟩ := caught_vals r (is := is) (cds := cds) h2
    obtain ⟨sv, hs, hv⟩ := paired_get r.env h1
    cases sv with
    | none => exact (reps_none hv).elim
    | some v =>
      refine ⟨v :: ws, by rw [List.length_cons, List.length_cons, w1], .cons hv w2, fun k j hk => ?_⟩
      cases k with
      | zero =>
        simp at hk
        subst hk
        exact ⟨v, rfl, hs⟩
      | succ k =>
        obtain ⟨v', a, b⟩ := w3 k j (by simpa using hk)
        exact ⟨v', by simpa using a, b⟩
section
variable {X : Cx} {L : Ly} {B : Bs} {pins : List (Addr × Obj)} {G H : Hp} {σ : L2.St} {ρ : En} {s : Shared}
/-- what the rule asks of the text: the caller's tables, the lambda's names -/
structure LamT (X : Cx) (T : List (Addr × Str)) (params : Arguments) (scope : Scope) (N ps cs : List Str) (is : List Nat) : Prop where
  tab : ∃ c P, LamX.TabB X.base X.mg c P ∧ X.env.code = .ref c ∧ (P, X.env.qual ++ "<lambda>") ∈ T ∧ ∀ p ∈ T, p.1 = P → p.2 = X.env.qual ++ "<lambda>"
  nm : LamN N ps cs scope
  defs : defaultsOf params X.env = ([], [])
  sc : ∀ y ∈ cs, X.env.scope.names.lookup y = some .cell ∨ X.env.scope.names.lookup y = some .free
  ix : is.map (fun i => X.N[i]?) = cs.map some
  fn : ∀ y, X.fn y = true
theorem map_at {α β γ : Type} {f : α → γ} {g : β → γ} : ∀ {l : List α} {m : List β} {k : Nat} {b : β}, l.map f = m.map g → m[k]? = some b → ∃ a, l[k]? = some a ∧ f a = g b
  | [], [], k, b, _, h => by simp at h
  | [], _ :: _, _, _, h, _ => by cases h
  | _ :: _, [], _, _, h, _ => by cases h
  | a :: l, c :: m, 0, b, h, e => by
    rw [List.map_cons, List.map_cons] at h
    injection h with h1 h2
    simp at e
    subst e
    exact ⟨a, rfl, h1⟩
  | a :: l, c :: m, k + 1, b, h, e => by
    rw [List.map_cons, List.map_cons] at h
    injection h with h1 h2
    obtain ⟨a', p1, p2⟩ := map_at (k := k) h2 (by simpa using e)
    exact ⟨a', by simpa using p1, p2⟩
theorem lam_call {T : List (Addr × Str)} {params : Arguments} {body : Expr} {scope : Scope} {lpos : Pos} {N ps cs : List Str} {is : List Nat} {x : Str} {g : Addr} {kk : Nat} {α : Type} {emb : α → List Da} {C : α → Prop} {FF : α → Pf} {us : List Value} {vs : List V} {ds : List Da} {Q : VK}
    (LT : LamT X T params scope N ps cs is) (hKL : X.K = L.K) (hm : X.mg x = some (.ref g)) (hr : Room kk X.A) (hgu : X.A.guards = some [])
    (hc : ∀ (B' : Heap) (f c : Addr) (G0 : Hp) (ws : List V) (z : α) (cl : List (Str × Addr)), LamAt B' G0 f c (X.env.qual ++ "<lambda>") params body scope cl cs ws → DvAll L G0 ws (emb z) → C z → CalG X.prog X.w X.K X.mg B' C8.CX0 kk x (spF (L.lam f G0) (FF z)))
    (I : Inv X pins σ H s) (r : Rep L B G H σ ρ) (rv : Vals vs us) (dv : DvAll L G vs ds) (hp : no9s ds = true) (hT : some (Sl.tab T) ∈ ρ) {a : α} (hcs : Caught ρ is (emb a)) (hC : C a)
    (hq : (FF a).f (ds ++ [lamD]) fun z => no9 z = true ∧ ∀ v G' H', Rep L B G' H' σ ρ → Same G G' → Dv L G' v z → Q v H') :
    wpAny (model X.prog X.w) X.A (eval (.Lambda params body scope lpos) X.env) (fun uf s2 => X.K.In s2.heap ∧ wpAny (model X.prog X.w) X.A (call (.ref g) (us ++ [uf])) (EP X pins σ Q) X.xe s2) X.xe s := by
  obtain ⟨c, P, TB, hcode, hmT, hu⟩ := LT.tab
  have eT := r.ft T hT
  have hfree : ∀ y ∈ scope.names, y.2 = .free → ∃ c, X.env.cells.lookup y.1 = some c := fun y hy e => I.ok.has _ (LT.sc _ (LT.nm.free y hy e))
  refine lam_make I r TB hcode (by rw [← eT]; exact hmT) (by rw [← eT]; exact hu) LT.defs hfree fun f c' pm ctv G2 H2 s2 I2 R2 s12 hf hfn hfr _ hco => ⟨I2.kIn, ?_⟩
  obtain ⟨B', e0, hB⟩ := base_sw I2
  obtain ⟨ws, w1, w2, w3⟩ := caught_vals R2 hcs
  have hlen : ws.length = cs.length := by
    have := congrArg List.length LT.ix
    rw [List.length_map, List.length_map] at this
    omega
  have Cp := caps_of I2 LT.fn LT.nm LT.sc hlen (fun i y v h1 h2 => by
    obtain ⟨j, j1, j2⟩ := map_at LT.ix h1
    obtain ⟨v', q, b⟩ := w3 i j j1
    rw [h2] at q
    cases q
    exact ⟨j, j2, b⟩) hB
  obtain ⟨g', fd, ps', Fg, hmg, kp, b⟩ := (hc B' f c' G2 ws a _ ⟨⟨pm, ctv, hB f _ hf hfn hfr⟩, Cp, hco⟩ w2 hC).ex
  have hgg : g' = g := by
    have := hmg.symm.trans hm
    injection this with this
    injection this
  subst hgg
  have dv2 : DvAll (L.lam f G2) G2 (vs ++ [.ref f]) (ds ++ [lamD]) := dvs_app (dvs_to (dvs_same s12 dv) hp) (.cons (lam_dv (Same.refl G2)) .nil)
  have rv2 : Vals (vs ++ [V.ref f]) (us ++ [Value.ref f]) := rv.append (.cons rfl .nil)
  have q1 : spF (L.lam f G2) (FF a) (vs ++ [.ref f]) H2 Q C8.E0 := by
    refine ⟨G2, ds ++ [lamD], R2.gh, dv2, (FF a).mono ?_ hq⟩
    rintro z ⟨hy, hz⟩ v G' H' gr dvz
    exact hz v G' H' (R2.go gr) (s12.trans gr.gg) (dv_fr dvz hy)
  have hl : (us ++ [Value.ref f]).length = ps'.length := rv2.length.symm.trans (Fg.len _ _ _ _ q1)
  have hbb := b s2 (us ++ [Value.ref f]) I2.kIn (by simpa using hl)
  rw [List.append_nil] at hbb
  have z := Fg.run X.A X.stack s2 H2 ⟨us ++ [Value.ref f], []⟩ _ _ Q C8.E0 hr hgu e0 hbb rv2 q1
  refine wpAny_call (codeAny_mono z ?_)
  rintro (er | fl) s' hq'
  · exact (show False from hq').elim
  · cases fl with
    | ret u => exact I2.after hq'
    | next => cases hq'
    | brk => cases hq'
    | cont => cases hq'
/-- x(e, lambda ..: body) -/
def pLam1 {α : Type} (emb : α → List Da) (C : α → Prop) (T : List (Addr × Str)) (g1 : Px) (is : List Nat) (FF : α → Pf) : Px := ⟨fun ρ k => g1.f ρ fun d ρ1 => some (.tab T) ∈ ρ1 ∧ no9 d = true ∧ ∃ a, Caught ρ1 is (emb a) ∧ C a ∧ (FF a).f [d, lamD] fun z => no9 z = true ∧ k z ρ1,
  fun h => by
    refine g1.mono ?_
    rintro d ρ1 ⟨a, b, c, e, hC, q⟩
    exact ⟨a, b, c, e, hC, (FF c).mono (fun z ⟨y, w⟩ => ⟨y, h _ _ w⟩) q⟩⟩
theorem w_lam1 {T : List (Addr × Str)} {params : Arguments} {body e1 : Expr} {scope : Scope} {p lpos pos : Pos} {N ps cs : List Str} {is : List Nat} {x : Str} {g : Addr} {kk : Nat} {α : Type} {emb : α → List Da} {C : α → Prop} {FF : α → Pf} {g1 : Px}
    (LT : LamT X T params scope N ps cs is) (hKL : X.K = L.K) (hg : Gl X x) (hm : X.mg x = some (.ref g)) (hk : PySem.W.keepIn X.K (.ref g) = true) (hr : Room kk X.A) (hgu : X.A.guards = some []) (he : PE X e1 (tW L g1))
    (hc : ∀ (B' : Heap) (f c : Addr) (G0 : Hp) (ws : List V) (z : α) (cl : List (Str × Addr)), LamAt B' G0 f c (X.env.qual ++ "<lambda>") params body scope cl cs ws → DvAll L G0 ws (emb z) → C z → CalG X.prog X.w X.K X.mg B' C8.CX0 kk x (spF (L.lam f G0) (FF z)))
    (hdb : (x == ("__debug__" : Str)) = false := by decide) (hst : starEach (e1 :: [.Lambda params body scope lpos]) X.env = (false, eval e1 X.env) :: starEach [.Lambda params body scope lpos] X.env := by rfl) :
    PE X (.Call (.Name x p) [e1, .Lambda params body scope lpos] [] pos) (tW L (pLam1 emb C T g1 is FF)) := by
  refine ⟨?_⟩
  rintro pins s σ H Q I ⟨B, G, ρ, r, h⟩
  refine wpAny_Call_Name_kw (ld_glob I hg hm ?_ hdb)
  refine PySem.W.callWith_K (h₀ := X.base) I.ok.mod.kin hk ?_ hst (by rfl)
  rw [hst]
  show wpAny _ _ (spliced ((false, eval e1 X.env) :: (false, eval (.Lambda params body scope lpos) X.env) :: [])) _ _ s
  refine Calls.spliced_cons (thn (he.run pins s σ H (fun v H1 => ∃ G1 ρ1 d, Rep L B G1 H1 σ ρ1 ∧ Same G G1 ∧ Dv L G1 v d ∧ some (.tab T) ∈ ρ1 ∧ no9 d = true ∧ ∃ a, Caught ρ1 is (emb a) ∧ C a ∧
    (FF a).f [d, lamD] fun z => no9 z = true ∧ ∀ v G' H', Rep L B G' H' σ ρ1 → Same G G' → Dv L G' v z → Q v H') I ⟨B, G, ρ, r, g1.mono ?_ h⟩) ?_)
  · rintro d ρ1 ⟨hT, hy, a, hcs, hC, hq⟩ v G1 H1 r1 s1 d1
    exact ⟨G1, ρ1, d, r1, s1, d1, hT, hy, a, hcs, hC, hq⟩
  · rintro u s1 ⟨v, H1, I1, rv, G1, ρ1, d, r1, s01, d1, hT, hy, a, hcs, hC, hq⟩
    refine Calls.spliced_cons (wpAny_mono (lam_call (Q := Q) (us := [u]) (vs := [v]) (ds := [d]) LT hKL hm hr hgu hc I1 r1 (.cons rv .nil) (.cons d1 .nil) (by simp only [no9s, hy, Bool.and_self]) hT hcs hC ((FF a).mono ?_ hq)) ?_ fun _ _ z => z)
    · rintro z ⟨h1, h2⟩
      exact ⟨h1, fun v G' H' r' s' d' => h2 v G' H' r' (s01.trans s') d'⟩
    · intro uf s2 hq2
      exact Calls.spliced_nil hq2
/-- x(lambda: body) -/
def pLam0 {α : Type} (emb : α → List Da) (C : α → Prop) (T : List (Addr × Str)) (is : List Nat) (FF : α → Pf) : Px := ⟨fun ρ k => some (.tab T) ∈ ρ ∧ ∃ a, Caught ρ is (emb a) ∧ C a ∧ (FF a).f [lamD] fun z => no9 z = true ∧ k z ρ,
  fun h => by
    rintro ⟨a, c, e, hC, q⟩
    exact ⟨a, c, e, hC, (FF c).mono (fun z ⟨y, w⟩ => ⟨y, h _ _ w⟩) q⟩⟩
theorem w_lam0 {T : List (Addr × Str)} {params : Arguments} {body : Expr} {scope : Scope} {p lpos pos : Pos} {N ps cs : List Str} {is : List Nat} {x : Str} {g : Addr} {kk : Nat} {α : Type} {emb : α → List Da} {C : α → Prop} {FF : α → Pf}
    (LT : LamT X T params scope N ps cs is) (hKL : X.K = L.K) (hg : Gl X x) (hm : X.mg x = some (.ref g)) (hk : PySem.W.keepIn X.K (.ref g) = true) (hr : Room kk X.A) (hgu : X.A.guards = some [])
    (hc : ∀ (B' : Heap) (f c : Addr) (G0 : Hp) (ws : List V) (z : α) (cl : List (Str × Addr)), LamAt B' G0 f c (X.env.qual ++ "<lambda>") params body scope cl cs ws → DvAll L G0 ws (emb z) → C z → CalG X.prog X.w X.K X.mg B' C8.CX0 kk x (spF (L.lam f G0) (FF z)))
    (hdb : (x == ("__debug__" : Str)) = false := by decide) :
    PE X (.Call (.Name x p) [.Lambda params body scope lpos] [] pos) (tW L (pLam0 emb C T is FF)) := by
  refine ⟨?_⟩
  rintro pins s σ H Q I ⟨B, G, ρ, r, hT, a, hcs, hC, hq⟩
  refine wpAny_Call_Name_kw (ld_glob I hg hm ?_ hdb)
  refine PySem.W.callWith_K (h₀ := X.base) I.ok.mod.kin hk ?_ (by rfl) (by rfl)
  show wpAny _ _ (spliced ((false, eval (.Lambda params body scope lpos) X.env) :: [])) _ _ s
  refine Calls.spliced_cons (wpAny_mono (lam_call (Q := Q) (us := []) (vs := []) (ds := []) LT hKL hm hr hgu hc I r .nil .nil rfl hT hcs hC hq) ?_ fun _ _ z => z)
  intro uf s2 hq2
  exact Calls.spliced_nil hq2
end
end Fw
namespace Fw
open PySem PySem.Spec PyProof.Rows L2 Fr
/-! # defs by their bodies, the code object told -/
section
variable {P : Program} {w : World} {K : Frag} {mg : Str → Option Value} {base : Heap} {CX : CXT} {k : Nat} {f : Addr} {fd : FuncData} {N ps : List Str} {sp : Sp}
/-- a def by its body -/
theorem mkc {x qual : Str} {st : Stmt} (F : C8.Fun K x qual st f fd) (S : FnScope N ps (C8.fnScope st)) (len : ∀ vs H Q E, sp vs H Q E → vs.length = ps.length)
    (hbody : ∀ (cdv : Value) (A : Around) (outer : List Env) (s : Shared) (H : Hp) (vs : List V) (Q : VK) (E : XK),
      cdv = fd.code → Room k (A.deeper (envOfC qual (C8.fnScope st) s.heap.objs.size f cdv)) → A.guards = some [] → sp vs H Q E →
      ∃ t, PSs (cxOf CX P w K mg base N qual (C8.fnScope st) f cdv A outer s H E) (C8.fnBody st) t ∧
        t { nx := fun _ H' => Q .non H', rt := Q } (start N vs) H) : FnG P w K mg base CX (k + 1) f fd ps sp := by
  obtain ⟨oc, od, dV, kV, doc, pm, an, cdv, ct, osl, rfl, lk, hcd⟩ := F.ex
  refine ⟨len, ?_⟩
  intro A outer s H args us vs Q E hr hgu e0 hb r hsp
  have KX : K.In s.heap := by
    refine e0.mod.kin.keeps ?_
    intro b o e
    exact (e0.bs b o e).1
  have lim : s.heap.NoLimit := by
    refine e0.mod.nolimit.keeps ?_
    intro b o e
    exact (e0.bs b o e).1
  refine codeAny_call_function hr.depth (KX _ _ lk) rfl S.co S.gen rfl
    (PySem.W.codeRec_of KX hcd) (hb _ _ _ _ ?_)
  refine wpAny_newFunctionEnv_cells S.kind ?_ ?_
  · rintro ⟨n, v⟩ hy
    rcases S.par n (List.of_mem_zip hy).1 with q | q
    · exact .inl q
    · refine .inr ⟨q, ?_⟩
      exact PySem.W.cellsFrom_some _ _ _ (.inl q)
  intro env he s1 x
  subst he
  refine ⟨lim.keeps x.toInCall.keep, ?_⟩
  refine codeAny_func ?_
  obtain ⟨t, ht, hq⟩ := hbody cdv A outer s H vs Q E rfl (hr.deeper _) hgu hsp
  have I := inv_start (CX := CX) (E := E) S hr.hd e0 (len _ _ _ _ hsp) r x
  refine wpAny_mono (ht.run [] s1 (start N vs) H _ I hq) ?_ (fun _ _ z => z)
  intro fl s' hs
  cases fl with
  | ret u =>
    obtain ⟨v, σ', H', J, rv, q⟩ := hs
    exact ⟨v, H', J.os, J.bare, J.base, J.hok, rv, q⟩
  | next =>
    obtain ⟨σ', H', J, q⟩ := hs
    exact ⟨.non, H', J.os, J.bare, J.base, J.hok, rfl, q⟩
  | brk =>
    obtain ⟨_, _, _, q⟩ := hs
    cases q
  | cont =>
    obtain ⟨_, _, _, q⟩ := hs
    cases q
end
theorem calGc {P : Program} {w : World} {K : Frag} {mg : Str → Option Value} {base : Heap} {x : Str} {st : Stmt} {f : Addr} {fd : FuncData} {N ps : List Str} {k : Nat} {sp : Sp} (F : C8.Def K mg x st f fd) (b : Binds K fd ps []) (S : FnScope N ps (C8.fnScope st))
    (len : ∀ vs H Q E, sp vs H Q E → vs.length = ps.length)
    (hbody : ∀ (cdv : Value) (A : Around) (outer : List Env) (s : Shared) (H : Hp) (vs : List V) (Q : VK) (E : XK),
      cdv = fd.code → Room k (A.deeper (envOfC x (C8.fnScope st) s.heap.objs.size f cdv)) → A.guards = some [] → sp vs H Q E →
      ∃ t, PSs (cxOf C8.CX0 P w K mg base N x (C8.fnScope st) f cdv A outer s H E).nox (C8.fnBody st) t ∧
        t { nx := fun _ H' => Q .non H', rt := Q } (start N vs) H) : CalG P w K mg base C8.CX0 (k + 1) x sp := by
  refine ⟨f, fd, ps, mkc F.fn S len ?_, F.mgf, F.kp, b⟩
  intro cdv A outer s H vs Q E hcd hr hgu hsp
  obtain ⟨t, h, q⟩ := hbody cdv A outer s H vs Q E hcd hr hgu hsp
  exact ⟨t, h.nox, q⟩
/-! # defs in which lambdas are made -/
def MT (T : List (Addr × Str)) : Addr → Prop := fun b => ∃ p ∈ T, b = p.1
def spT (L : Ly) (T : List (Addr × Str)) (F : Pf) : Sp := fun vs H Q _ => ∃ G ds, Same G H ∧ TabsG T G H ∧ (∀ p ∈ T, G p.1 = none) ∧ DvAll L G vs ds ∧ F.f ds fun d => ∀ v G' H', Grow (MT T) G H G' H' → TabsG T G' H' → Dv L G' v d → Q v H'
def spDT (L : Ly) (T : List (Addr × Str)) (F : Pf) : Sp := fun vs H Q _ => ∃ G d l c us ds, vs = .ref d :: us ∧ Same G H ∧ G d = none ∧ G l = none ∧ Draw d l c H ∧ TabsG T G H ∧ (∀ p ∈ T, G p.1 = none) ∧ DvAll L G us ds ∧
  F.f ds fun x => ∀ v G' H', Grow (fun b => Mdl d l b ∨ MT T b) G H G' H' → Draw d l c H' → TabsG T G' H' → Dv L G' v x → Q v H'
def entT (T : List (Addr × Str)) (ds : List Da) (n : Nat) : En := ent ds n ++ [some (.tab T)]
theorem own_app (a b : En) : own (a ++ b) = own a ++ own b := List.flatMap_append
theorem tab_off {T : List (Addr × Str)} {G H : Hp} {d l c : Addr} (t : TabsG T G H) (D : Draw d l c H) : ∀ p ∈ T, p.1 ∉ [d, l, c] := fun p hp hm => by
  obtain ⟨ps, e, _⟩ := t p hp
  obtain ⟨_, _, _, _, D⟩ := D
  simp only [List.mem_cons, List.not_mem_nil, or_false] at hm
  rcases hm with z | z | z
  · rw [z, D.hd] at e; cases e
  · rw [z, D.hl] at e; cases e
  · rw [z, D.hc] at e; cases e
section
variable {L : Ly} {G H : Hp} {T : List (Addr × Str)}
theorem rep_entT {vs : List V} {ds : List Da} {n : Nat} (s : Same G H) (t : TabsG T G H) (g : ∀ p ∈ T, G p.1 = none) (h : DvAll L G vs ds) : Rep L ⟨MT T, G, H, [], T⟩ G H (vs.map some ++ List.replicate (n + 1) none) (entT T ds n) where
  gr := Grow.refl s
  mh := fun b hb => by
    obtain ⟨p, hp, rfl⟩ := hb
    exact ⟨(t p hp).tk, g p hp⟩
  env := by
    have e : vs.map some ++ List.replicate (n + 1) (none : Option V) = (vs.map some ++ List.replicate n none) ++ [none] := by
      rw [List.replicate_succ', List.append_assoc]
    rw [e]
    exact paired_append (paired_append (env_dat h) (env_none n)) (.cons (by rfl) .nil)
  nd := by
    have e : own (entT T ds n) = [] := by
      unfold entT
      rw [own_app, own_ent]
      rfl
    rw [e]
    exact List.nodup_nil
  fm := fun p es hm => by
    rcases List.mem_append.mp hm with hm | hm
    · exact (rep_ent (n := n) s h).fm p es hm
    · cases List.mem_singleton.mp hm
  fd := fun d l c hm => by
    rcases List.mem_append.mp hm with hm | hm
    · exact ((rep_ent (n := n) s h).fd d l c hm).1.elim
    · cases List.mem_singleton.mp hm
  ks := fun q hq => by cases hq
  tb := t
  tg := fun p hp => ⟨g p hp, by
    have e : own (entT T ds n) = [] := by
      unfold entT
      rw [own_app, own_ent]
      rfl
    rw [e]
    simp, fun q hq => by cases hq⟩
  mt := fun p hp => ⟨p, hp, rfl⟩
  ft := fun T' hm => by
    rcases List.mem_append.mp hm with hm | hm
    · cases (rep_ent (n := n) s h).ft T' hm
      unfold ent at hm
      rcases List.mem_append.mp hm with hm | hm
      · obtain ⟨d, _, e⟩ := List.mem_map.mp hm
        cases e
      · obtain ⟨_, e⟩ := List.mem_replicate.mp hm
        cases e
    · cases List.mem_singleton.mp hm
      rfl
def entDT (T : List (Addr × Str)) (d l c : Addr) (ds : List Da) (n : Nat) : En := some (.drw d l c) :: entT T ds n
theorem rep_entDT {d l c : Addr} {us : List V} {ds : List Da} {n : Nat} (s : Same G H) (gd : G d = none) (gl : G l = none) (D : Draw d l c H) (t : TabsG T G H) (g : ∀ p ∈ T, G p.1 = none) (h : DvAll L G us ds) :
    Rep L ⟨fun b => Mdl d l b ∨ MT T b, G, H, [], T⟩ G H (some (.ref d) :: (us.map some ++ List.replicate (n + 1) none)) (entDT T d l c ds n) where
  gr := Grow.refl s
  mh := fun b hb => by
    obtain ⟨t1, t2, _⟩ := draw_trk D
    rcases hb with (e | e) | ⟨p, hp, rfl⟩
    · rw [e]; exact ⟨t1, gd⟩
    · rw [e]; exact ⟨t2, gl⟩
    · exact ⟨(t p hp).tk, g p hp⟩
  env := .cons ⟨rfl, gd, gl, D⟩ (rep_entT (n := n) s t g h).env
  nd := by
    have e : own (entDT T d l c ds n) = [d, l, c] := by
      show [d, l, c] ++ own (entT T ds n) = _
      unfold entT
      rw [own_app, own_ent]
      rfl
    rw [e]
    exact draw_nd D
  fm := fun p es hm => by
    rcases List.mem_cons.mp hm with hm | hm
    · cases hm
    · exact (rep_entT (n := n) s t g h).fm p es hm
  fd := fun d' l' c' hm => by
    rcases List.mem_cons.mp hm with hm | hm
    · cases hm
      exact ⟨.inl (.inl rfl), .inl (.inr rfl)⟩
    · have := (rep_entT (n := n) s t g h).fd d' l' c' hm
      exact ⟨.inr this.1, .inr this.2⟩
  ks := fun q hq => by cases hq
  tb := t
  tg := fun p hp => ⟨g p hp, by
    have e : own (entDT T d l c ds n) = [d, l, c] := by
      show [d, l, c] ++ own (entT T ds n) = _
      unfold entT
      rw [own_app, own_ent]
      rfl
    rw [e]
    exact tab_off t D p hp, fun q hq => by cases hq⟩
  mt := fun p hp => .inr ⟨p, hp, rfl⟩
  ft := fun T' hm => by
    rcases List.mem_cons.mp hm with hm | hm
    · cases hm
    · exact (rep_entT (n := n) s t g h).ft T' hm
theorem calT {P : Program} {w : World} {mg : Str → Option Value} {base : Heap} {x : Str} {st : Stmt} {f : Addr} {fd : FuncData} {N ps : List Str} {k n : Nat} {F : Pf} (Fd : C8.Def L.K mg x st f fd) (b : Binds L.K fd ps []) (S : FnScope N ps (C8.fnScope st))
    (hlen : ∀ ds k, F.f ds k → ds.length = ps.length) (hN : ∀ vs : List V, vs.length = ps.length → start N vs = vs.map some ++ List.replicate (n + 1) none)
    (hbody : ∀ (cdv : Value) (A : Around) (outer : List Env) (s : Shared) (H : Hp) (E : XK), cdv = fd.code → Room k (A.deeper (envOfC x (C8.fnScope st) s.heap.objs.size f cdv)) → A.guards = some [] →
      ∃ g : Ps, PSs (cxOf C8.CX0 P w L.K mg base N x (C8.fnScope st) f cdv A outer s H E).nox (C8.fnBody st) (tWS L g) ∧
        ∀ ds kk, F.f ds kk → g.f (entT T ds n) (fun _ => kk .non) (fun d _ => kk d) (fun _ => False) (fun _ => False)) : CalG P w L.K mg base C8.CX0 (k + 1) x (spT L T F) := by
  refine calGc Fd b S ?_ ?_
  · rintro vs H Q E ⟨G, ds, s, _, _, dv, h⟩
    exact (dvs_len dv).trans (hlen ds _ h)
  · rintro cdv A outer s H vs Q E hcd hr hgu ⟨G, ds, sg, t, g0, dv, h⟩
    obtain ⟨g, hp, hF⟩ := hbody cdv A outer s H E hcd hr hgu
    refine ⟨_, hp, ?_⟩
    rw [hN vs ((dvs_len dv).trans (hlen ds _ h))]
    refine ⟨⟨MT T, G, H, [], T⟩, G, entT T ds n, rep_entT sg t g0 dv, g.mono ?_ ?_ ?_ ?_ (hF ds _ h)⟩
    · intro ρ' q σ' G' H' r' _
      exact q .non G' H' r'.gr r'.tb .non
    · intro d ρ' q v σ' G' H' r' _ d'
      exact q v G' H' r'.gr r'.tb d'
    · intro _ z
      exact z.elim
    · intro _ z
      exact z.elim
theorem calDT {P : Program} {w : World} {mg : Str → Option Value} {base : Heap} {x p0 : Str} {st : Stmt} {f : Addr} {fd : FuncData} {N ps : List Str} {k n : Nat} {F : Pf} (Fd : C8.Def L.K mg x st f fd) (b : Binds L.K fd (p0 :: ps) []) (S : FnScope N (p0 :: ps) (C8.fnScope st))
    (hlen : ∀ ds k, F.f ds k → ds.length = ps.length) (hN : ∀ (v : V) (vs : List V), vs.length = ps.length → start N (v :: vs) = some v :: (vs.map some ++ List.replicate (n + 1) none))
    (hbody : ∀ (cdv : Value) (A : Around) (outer : List Env) (s : Shared) (H : Hp) (E : XK), cdv = fd.code → Room k (A.deeper (envOfC x (C8.fnScope st) s.heap.objs.size f cdv)) → A.guards = some [] →
      ∃ g : Ps, PSs (cxOf C8.CX0 P w L.K mg base N x (C8.fnScope st) f cdv A outer s H E).nox (C8.fnBody st) (tWS L g) ∧
        ∀ d l c ds kk, F.f ds kk → g.f (entDT T d l c ds n) (fun ρ => some (.drw d l c) ∈ ρ ∧ kk .non) (fun z ρ => some (.drw d l c) ∈ ρ ∧ kk z) (fun _ => False) (fun _ => False)) : CalG P w L.K mg base C8.CX0 (k + 1) x (spDT L T F) := by
  refine calGc Fd b S ?_ ?_
  · rintro vs H Q E ⟨G, d, l, c, us, ds, rfl, s, _, _, _, _, _, dv, h⟩
    show us.length + 1 = ps.length + 1
    rw [dvs_len dv, hlen ds _ h]
  · rintro cdv A outer s H vs Q E hcd hr hgu ⟨G, d, l, c, us, ds, rfl, sg, gd, gl, D, t, g0, dv, h⟩
    obtain ⟨g, hp, hF⟩ := hbody cdv A outer s H E hcd hr hgu
    refine ⟨_, hp, ?_⟩
    rw [hN (.ref d) us ((dvs_len dv).trans (hlen ds _ h))]
    refine ⟨_, G, entDT T d l c ds n, rep_entDT sg gd gl D t g0 dv, g.mono ?_ ?_ ?_ ?_ (hF d l c ds _ h)⟩
    · rintro ρ' ⟨hm, q⟩ σ' G' H' r' _
      exact q .non G' H' r'.gr (draw_mem r' hm).1 r'.tb .non
    · rintro x' ρ' ⟨hm, q⟩ v σ' G' H' r' _ d'
      exact q v G' H' r'.gr (draw_mem r' hm).1 r'.tb d'
    · intro _ z
      exact z.elim
    · intro _ z
      exact z.elim
end
/-! ## their calls -/
section
variable {X : Cx} {L : Ly} {T : List (Addr × Str)} {k j i : Nat} {x : Str} {p pos : Pos} {e : Expr} {es : List Expr}
def pT (T : List (Addr × Str)) (g : Pl) (F : Pf) : Px := ⟨fun ρ k => g.f ρ fun xs ρ1 => some (.tab T) ∈ ρ1 ∧ F.f xs fun z => k z ρ1, fun h => by
  refine g.mono ?_
  rintro xs ρ1 ⟨a, q⟩
  exact ⟨a, F.mono (fun _ => h _ _) q⟩⟩
theorem w_callT {g : Pl} {F : Pf} (c : CalG X.prog X.w X.K X.mg X.base C8.CX0 k x (spT L T F)) (hr : Room j X.A) (hk : k ≤ j) (hgu : X.A.guards = some []) (hg : Gl X x) (ha : PA X (e :: es) (tWA L g))
    (hdb : (x == ("__debug__" : Str)) = false := by decide) (he : starEach (e :: es) X.env = (false, eval e X.env) :: starEach es X.env := by rfl)
    (hpl : (backTo pos (starEach es X.env)).any (·.1) = false := by rfl) : PE X (.Call (.Name x p) (e :: es) [] pos) (tW L (pT T g F)) :=
  PE.imp (pe_cg c hr hk hgu hg ha hdb he hpl) fun σ H Q ⟨B, G, ρ, r0, h⟩ => by
    refine ⟨B, G, ρ, r0, g.mono ?_ h⟩
    rintro xs ρ1 ⟨hT, h1⟩ vs G1 H1 r1 s1 d1
    show spT L T F (vs ++ []) H1 Q C8.E0
    rw [List.append_nil]
    have eT := r1.ft T hT
    subst eT
    refine ⟨G1, xs, r1.gh, r1.tb, fun q hq => (r1.tg q hq).1, d1, F.mono ?_ h1⟩
    intro z h3 v G' H' gr t' dv
    refine h3 v G' H' (r1.step (gr.weak ?_) ?_ t') (s1.trans gr.gg) dv
    · rintro b ⟨q, hq, rfl⟩
      exact r1.mt q hq
    · intro d l c hm
      obtain ⟨q1, q2, q3, q4, D⟩ := (draw_mem r1 hm).1
      have off : ∀ b, b ∈ slA (some (Sl.drw d l c)) → ¬ MT B.T b := fun b hb ⟨q, hq, e⟩ => (r1.tg q hq).2.1 (by rw [← e]; exact own_mem hm hb)
      exact ⟨q1, q2, q3, q4, gr.hh _ _ (off d (by simp [slA])) D.hd, gr.hh _ _ (off l (by simp [slA])) D.hl, gr.hh _ _ (off c (by simp [slA])) D.hc, D.ne⟩
def pDT (T : List (Addr × Str)) (i : Nat) (g : Pl) (F : Pf) : Px := ⟨fun ρ k => ∃ d l c, ρ[i]? = some (some (.drw d l c)) ∧ g.f ρ fun xs ρ1 => some (.drw d l c) ∈ ρ1 ∧ some (.tab T) ∈ ρ1 ∧ F.f xs fun z => k z ρ1,
  fun h => by
    rintro ⟨d, l, c, e, q⟩
    refine ⟨d, l, c, e, g.mono ?_ q⟩
    rintro xs ρ1 ⟨a, b, q⟩
    exact ⟨a, b, F.mono (fun _ => h _ _) q⟩⟩
theorem w_callDT {g : Pl} {F : Pf} (c : CalG X.prog X.w X.K X.mg X.base C8.CX0 k x (spDT L T F)) (hr : Room j X.A) (hk : k ≤ j) (hgu : X.A.guards = some []) (hg : Gl X x) (hd : PE X e (tVar i)) (ha : PA X es (tWA L g))
    (hdb : (x == ("__debug__" : Str)) = false := by decide) (he : starEach (e :: es) X.env = (false, eval e X.env) :: starEach es X.env := by rfl)
    (hpl : (backTo pos (starEach es X.env)).any (·.1) = false := by rfl) : PE X (.Call (.Name x p) (e :: es) [] pos) (tW L (pDT T i g F)) :=
  PE.imp (pe_cg c hr hk hgu hg (pa_cons hd ha he) hdb he hpl) fun σ H Q ⟨B, G, ρ, r0, d, l, cc, hi, h⟩ => by
    obtain ⟨s, hs, hv⟩ := paired_get r0.env hi
    cases s with
    | none => exact (reps_none hv).elim
    | some v =>
      obtain ⟨rfl, _⟩ := hv
      refine ⟨_, hs, B, G, ρ, r0, g.mono ?_ h⟩
      rintro xs ρ1 ⟨hm, hT, h1⟩ vs G1 H1 r1 s1 d1
      show spDT L T F ((.ref d :: vs) ++ []) H1 Q C8.E0
      rw [List.append_nil]
      have eT := r1.ft T hT
      subst eT
      obtain ⟨D, n1, n2⟩ := draw_mem r1 hm
      refine ⟨G1, d, l, cc, vs, xs, rfl, r1.gh, n1, n2, D, r1.tb, fun q hq => (r1.tg q hq).1, d1, F.mono ?_ h1⟩
      intro z h3 v G' H' gr D' t' dv
      refine h3 v G' H' (r1.step (gr.weak ?_) ?_ t') (s1.trans gr.gg) dv
      · rintro b ((z | z) | ⟨q, hq, rfl⟩)
        · rw [z]
          exact (r1.fd _ _ _ hm).1
        · rw [z]
          exact (r1.fd _ _ _ hm).2
        · exact r1.mt q hq
      · intro d' l' c' hm'
        by_cases hs : (some (Sl.drw d' l' c')) = some (Sl.drw d l cc)
        · cases hs
          exact D'
        · have ap := flat_apart r1.nd hm' hm hs
          obtain ⟨q1, q2, q3, q4, D1⟩ := (draw_mem r1 hm').1
          have off : ∀ b, b ∈ slA (some (Sl.drw d' l' c')) → ¬ (Mdl d l b ∨ MT B.T b) := fun b hb z => by
            rcases z with z | ⟨q, hq, e⟩
            · exact ap b hb (by
                rcases z with z | z
                · rw [z]; simp [slA]
                · rw [z]; simp [slA])
            · exact (r1.tg q hq).2.1 (by rw [← e]; exact own_mem hm' hb)
          exact ⟨q1, q2, q3, q4, gr.hh _ _ (off _ (by simp [slA])) D1.hd, gr.hh _ _ (off _ (by simp [slA])) D1.hl, gr.hh _ _ (off _ (by simp [slA])) D1.hc, D1.ne⟩
end
end Fw
namespace Fw
open PySem PySem.Spec PyProof.Rows L2 Fr
section
variable {X : Cx} {L : Ly} {B : Bs} {G H : Hp} {σ : L2.St} {ρ : En} {e : Expr}
/-! # for over range(a, b, -1) -/
def dnD (lo : Int) (n : Nat) : List Da := (List.range n).map fun i : Nat => Da.int (lo - (i : Int))
theorem wk_dn {lo : Int} {n : Nat} : Wk L (Itc lo (-1) n) G (dnD lo n) := fun G' H s s' i hi => by
  have hl : (dnD lo n).length = n := by simp [dnD]
  rw [hl] at hi ⊢
  refine ⟨fun e => Nat.le_of_eq e.symm, fun hlt => ⟨hlt, fun x H' y => ?_⟩⟩
  obtain ⟨e, y⟩ := y
  subst e y
  refine ⟨G', .int (lo + (i : Nat) * -1), Grow.refl s', ?_, .int _⟩
  have : lo + (i : Nat) * -1 = lo - (i : Int) := by omega
  rw [this]
  simp [dnD, hlt]
def pRd (g : Pl) : Pl := ⟨fun ρ k => g.f ρ fun ds ρ1 => ∃ i j : Int, ds = [.int i, .int j, .int (-1)] ∧ (-(2 ^ 62) ≤ i ∧ i < 2 ^ 62 ∧ -(2 ^ 62) ≤ j ∧ j < 2 ^ 62) ∧ k (dnD i (i - j).toNat) ρ1, fun h => g.mono fun _ _ ⟨i, j, a, b, q⟩ => ⟨i, j, a, b, h _ _ q⟩⟩
theorem w_ir3 {tg : Expr} {g : Pl} (p : PI X tg e (iRng3 (tWA L g))) : PI X tg e (tWI L (pRd g)) := PI.imp p fun σ H R ⟨B, G, ρ, r, h⟩ =>
  ⟨B, G, ρ, r, g.mono (fun ds ρ1 ⟨i, j, e, a, h1⟩ vs G1 H1 r1 s1 d1 => by
    subst e
    cases d1 with
    | cons d t =>
      cases t with
      | cons d' t =>
        cases t with
        | cons d'' t =>
          cases t
          rw [dv_int d, dv_int d', dv_int d'']
          exact ⟨i, j, -1, (i - j).toNat, rfl, RgC.neg a.1 a.2.1 a.2.2.1 a.2.2.2, h1 _ G1 H1 r1 s1 wk_dn⟩) h⟩
/-! # len(set(xs)), xs a list of numbers -/
theorem met_nd (f : Nat → Int) : ∀ n, (firstMet f n).Nodup ∧ ∀ x, x ∈ firstMet f n ↔ ∃ i, i < n ∧ f i = x
  | 0 => ⟨by rw [firstMet_zero]; exact List.nodup_nil, fun x => by
    rw [firstMet_zero]
    constructor
    · intro h; cases h
    · rintro ⟨i, hi, _⟩
      omega⟩
  | n + 1 => by
    obtain ⟨h1, h2⟩ := met_nd f n
    rw [firstMet_succ]
    unfold step_dedup
    by_cases hm : (firstMet f n).any (· == f n) = true
    · rw [if_pos hm]
      have hin : f n ∈ firstMet f n := by
        obtain ⟨x, hx, e⟩ := List.any_eq_true.mp hm
        rw [← beq_iff_eq.mp e]
        exact hx
      refine ⟨h1, fun x => ?_⟩
      rw [h2]
      constructor
      · rintro ⟨i, hi, e⟩
        exact ⟨i, by omega, e⟩
      · rintro ⟨i, hi, e⟩
        by_cases hin2 : i = n
        · subst hin2
          obtain ⟨j, hj, e2⟩ := (h2 (f i)).mp hin
          exact ⟨j, hj, e2.trans e⟩
        · exact ⟨i, by omega, e⟩
    · rw [if_neg hm]
      have hno : f n ∉ firstMet f n := fun z => hm (List.any_eq_true.mpr ⟨_, z, beq_self_eq_true _⟩)
      refine ⟨List.nodup_append.mpr ⟨h1, by simp, fun a ha b hb e => hno (by rw [← List.mem_singleton.mp hb, ← e]; exact ha)⟩, fun x => ?_⟩
      rw [List.mem_append, h2, List.mem_singleton]
      constructor
      · rintro (⟨i, hi, e⟩ | e)
        · exact ⟨i, by omega, e⟩
        · exact ⟨n, by omega, e.symm⟩
      · rintro ⟨i, hi, e⟩
        by_cases hin2 : i = n
        · subst hin2
          exact .inr e.symm
        · exact .inl ⟨i, by omega, e⟩
def tLenSetN (K : Frag) (ta : TE) : TE := fun σ H Q => ta σ H fun x H1 => ∃ (l : Addr) (ns : List Int), x = V.ref l ∧ SqL K H1 l (ns.map V.int) ∧ ns.length < 64 ∧ ∀ ms : List Int, ms.Nodup → (∀ x, x ∈ ms ↔ x ∈ ns) → Q (.int ms.length) H1
theorem pe_lenSetN {a : Expr} {ta : TE} {p p2 q pos : Pos} (hc : X.calm = true) (hg : Gl X "len") (hm : X.mg "len" = none) (hg2 : Gl X "set") (hm2 : X.mg "set" = none) (ha : PE X a ta)
    (na : starEach [a] X.env = (false, eval a X.env) :: starEach [] X.env := by rfl) : PE X (.Call (.Name "len" p) [.Call (.Name "set" p2) [a] [] q] [] pos) (tLenSetN X.K ta) := by
  refine ⟨?_⟩
  intro pins s σ H Q I h
  refine Call_ (ld_blt I hg hm PySem.boot_len ?_)
  refine callWith_builtin1 (args_cons ?_ rfl) rfl rfl
  refine Call_ (ld_blt I hg2 hm2 boot_set ?_)
  refine callWith_type1 (args_cons (thn (ha.run pins s σ H _ I h) ?_) na) na rfl
  rintro v s1 ⟨x, H1, I1, r1, l, ns, rfl, hq, h1, q1⟩
  refine args_nil ?_
  cases r1
  obtain ⟨its, r, pl, hz⟩ := I1.list hq
  have hl : its.toArray.size = ns.length := by
    rw [List.size_toArray, ← r.length, List.length_map]
  refine call_set_list (I1.ok.hd hc) pl.isList (ns := ns) (by simpa using r.ints) (by unfold scanBound; omega) ?_
  intro h' tk hS hk
  rw [hl] at hS
  obtain ⟨n1, n2⟩ := met_nd (fun i => ns.getD i 0) ns.length
  have hlen := firstMet_length_le (fun i => ns.getD i 0) ns.length
  refine args_nil ?_
  obtain ⟨o, es, ep, t, ho, hex, hd, _, _, _, hf, hn⟩ := hS
  have I2 : Inv X pins σ H1 { s1 with heap := h', toks := tk } := I1.kept fun b o e => hk b o (Heap.lt_size e) e
  refine call_len_set ho hex hd hf (by rw [hn]; omega) ⟨.int (firstMet (fun i => ns.getD i 0) ns.length).length, H1, I2.tok _, ⟨_, by rw [hn]⟩, q1 _ n1 fun x => ?_⟩
  rw [n2]
  constructor
  · rintro ⟨i, hi, e⟩
    have e' : ns.getD i 0 = x := e
    rw [List.getD_eq_getElem?_getD, List.getElem?_eq_getElem hi] at e'
    rw [← e']
    exact List.getElem_mem hi
  · intro hx
    obtain ⟨i, hi, e⟩ := List.getElem_of_mem hx
    refine ⟨i, hi, ?_⟩
    show ns.getD i 0 = x
    rw [List.getD_eq_getElem?_getD, List.getElem?_eq_getElem hi]
    exact e
def pLenSet (g : Px) : Px := ⟨fun ρ k => g.f ρ fun d ρ1 => ∃ ns : List Int, d = .lst (ns.map Da.int) ∧ ns.length < 64 ∧ ∀ ms : List Int, ms.Nodup → (∀ x, x ∈ ms ↔ x ∈ ns) → k (.int ms.length) ρ1, fun h => g.mono fun _ _ ⟨ns, e, l, q⟩ => ⟨ns, e, l, fun ms a b => h _ _ (q ms a b)⟩⟩
theorem w_lenSet {g : Px} (p : PE X e (tLenSetN L.K (tW L g))) : PE X e (tW L (pLenSet g)) := PE.imp p fun σ H Q ⟨B, G, ρ, r, h⟩ =>
  ⟨B, G, ρ, r, g.mono (fun d ρ1 ⟨ns, e, hl, q⟩ v G1 H1 r1 s1 d1 => by
    subst e
    obtain ⟨a, xs, rfl, hs, ha⟩ := dv_lst d1
    refine ⟨a, ns, rfl, ?_, hl, fun ms m1 m2 => q ms m1 m2 _ G1 H1 r1 s1 (.int _)⟩
    rw [← dvs_intsV ha]
    exact .inl (.inl (r1.gh _ _ hs))) h⟩
end
end Fw
namespace Fv
open PySem PySem.Spec PyProof.Rows L2 Fr Fw
section
variable {P : Program} {w : World} {L : Ly} {mg : Str → Option Value} {base : Heap} {f fl : Addr} {fd : FuncData} {G0 : Hp}
/-! ### _law_longest -/
abbrev s_law_longest : Stmt := topS 48
theorem sc_law_longest : FnScope ["size", "is_free_here", "length", "some", "lot"] ["size", "is_free_here"] (C8.fnScope s_law_longest) := C8.fnScope_by (by decide +kernel)
/-- a lambda that tells of lots of things below n -/
def fFr (n : Nat) (fr : List Int → Bool) : Pf := ⟨fun xs k => ∃ lot : List Int, xs = [ti lot] ∧ lot.length ≤ 8 ∧ (∀ x ∈ lot, 0 ≤ x ∧ x < n) ∧ k (.bl (fr lot)), fun h ⟨lot, e, a, b, q⟩ => ⟨lot, e, a, b, h _ q⟩⟩
def frL (n : Nat) (fr : List Int → Bool) (m : Nat) : List (List Int) := (lotsL (rangeI n) m).filter fr
def fLong (n : Nat) (fr : List Int → Bool) : Pf := ⟨fun xs k => n ≤ 8 ∧ xs = [.int n, lamD] ∧ fr [] = true ∧ ∀ m, m ≤ n → frL n fr m ≠ [] → (∀ m', m < m' → m' ≤ n → frL n fr m' = []) → k (skD n (frL n fr m)),
  fun h ⟨a, e, b, q⟩ => ⟨a, e, b, fun m x y z => h _ (q m x y z)⟩⟩
theorem mem_rangeI {n : Nat} {x : Int} : x ∈ rangeI n ↔ 0 ≤ x ∧ x < n := by
  unfold rangeI
  rw [List.mem_map]
  constructor
  · rintro ⟨i, hi, rfl⟩
    have := List.mem_range.mp hi
    omega
  · intro h
    exact ⟨x.toNat, List.mem_range.mpr (by omega), by omega⟩
theorem len_rangeI (n : Nat) : (rangeI n).length = n := by rw [rangeI, List.length_map, List.length_range]
theorem ok_law_longest {k : Nat} {n : Nat} {fr : List Int → Bool} (Fd : C8.Def L.K mg "_law_longest" s_law_longest f fd) (b : Binds L.K fd ["size", "is_free_here"] []) (B : Bw mg)
    (c_law_lots : CalG P w L.K mg base C8.CX0 1 "_law_lots" (spF (L.lam fl G0) fLots)) (cl : LamG P w L.K mg base C8.CX0 k fl (spV (L.lam fl G0) G0 (fFr n fr))) (hk : 1 ≤ k) :
    CalG P w L.K mg base C8.CX0 (k + 1) "_law_longest" (spF (L.lam fl G0) (fLong n fr)) := by
  have sc := sc_law_longest
  refine calF (L := L.lam fl G0) (n := 3) Fd b sc ?_ (fun vs h => start_eq (by rw [h]; rfl)) fun cdv A outer s H E hr hgu => ?_
  · rintro ds k ⟨_, rfl, _⟩
    rfl
  refine ⟨_, w_seq (w_forI snd_tgN (ps_for PassesOwn.never rfl (w_ir3 (pi_range3 rfl B.range (w_cons (w_v (pv 0)) (w_cons (w_neg (pe_un un_neg (w_int (kd := 0) pe_int))) (w_cons (w_neg (pe_un un_neg (w_int (kd := 0) pe_int))) w_nil))))) (pg_name (i := 2) sc.nd rfl (by first | exact Or.inl rfl | exact Or.inr rfl))
   (w_seq (w_setLc (sndv_N (by decide)) (ps_setLc (i := 3) (own := [("lot", 4)]) (by rfl) sc.nd rfl (by rfl) (sw_true rfl (by rfl) rfl (by decide +kernel)) (w_il (pi_list (w_call c_law_lots hr hk hgu rfl (w_cons (w_listRg (pe_listRg rfl (by rfl) B.list (prg_1 (by rfl) B.range (w_v (pv 0))))) (w_cons (w_v (pv 2)) w_nil))))) (blkOk_by (by kernel_rfl)) (fun _ _ _ _ _ => (pg_name (i := 4) sc.nd rfl (by first | exact Or.inl rfl | exact Or.inr rfl))) (fun _ _ _ _ _ => w_tone (w_val (pt_val (w_callV (i := 1) cl hr (Nat.le_refl _) hgu rfl (by first | exact Or.inl rfl | exact Or.inr (Or.inl rfl) | exact Or.inr (Or.inr rfl)) (w_cons (w_v (pv 4)) w_nil))))) (fun _ _ _ _ _ => (w_v (pv 4)))))
    (w_one (w_if (ps_if (w_cmpT (op_neD hr.units) snd_ne (w_v (pv 3)) (w_lst w_nil) (nomark _))
     (w_one (w_ret (ps_ret (w_tup (w_cons (w_v (pv 0)) (w_cons (w_v (pv 3)) w_nil))))))
     (w_snil pss_nil)))))))
  (w_one (w_ret (ps_ret (w_non pe_non)))), ?_⟩
  rintro ds kk ⟨hn, rfl, h0, kq⟩
  refine ⟨_, rfl, _, rfl, _, rfl, (n : Int), (-1 : Int), rfl, ⟨by omega, by omega, by omega, by omega⟩, ?_⟩
  have hI : (rangeI n).length ≤ 8 := by rw [len_rangeI]; exact hn
  have ecnt : ((n : Int) - -1).toNat = n + 1 := by omega
  rw [ecnt]
  have hlen : (dnD (n : Int) (n + 1)).length = n + 1 := by simp [dnD]
  refine loopF_inv (fun j ρ => (∃ a b, ρ = [some (.dat (.int n)), some (.dat lamD), a, b, none]) ∧ ∀ m', n < m' + j → m' ≤ n → frL n fr m' = []) ⟨⟨_, _, rfl⟩, fun m' h1 h2 => by omega⟩ ?_ ?_
  · rintro j x ρ hj ⟨⟨a, b, rfl⟩, hno⟩
    have hjn : j < n + 1 := by
      have := (List.getElem?_eq_some_iff.mp hj).1
      rwa [hlen] at this
    obtain ⟨j', hj', rfl⟩ := map_get hj
    have ej : j' = j := by
      rw [List.getElem?_range hjn] at hj'
      exact (Option.some.inj hj').symm
    subst ej
    have em : (n : Int) - (j' : Int) = ((n - j' : Nat) : Int) := by omega
    rw [em]
    generalize hm : n - j' = m at *
    have hm8 : m ≤ 8 := by omega
    refine ⟨_, rfl, (n : Int), rfl, by omega, by omega, _, rfl, rangeI n, m, ?_, hI, hm8, _, rfl, ?_⟩
    · show [Da.lst (rgD 0 n), Da.int (m : Int)] = _
      rw [rgD_I]
    have hlots : (lotsL (rangeI n) m).length ≤ sizeLine := Nat.le_trans (lotsL_len _ hI m) (pow8 hm8)
    refine lcP_src ti fr ti (fun lot hlot => ?_) (by simpa using hlots) ?_
    · obtain ⟨l1, l2, l3⟩ := mem_lots.mp hlot
      exact ⟨rfl, _, rfl, lot, rfl, by omega, fun x hx => mem_rangeI.mp (l3 x hx), _, rfl, rfl, fun _ => ⟨_, rfl, rfl, rfl⟩, fun _ => rfl⟩
    · refine ⟨_, rfl, by decide, _, _, py_lti (frL n fr m), rfl, shaped_lti _, shaped_lti [], _, rfl, bite (fun hb => ?_) fun hb => ?_⟩
      · rw [eqv_listN] at hb
        have hne : frL n fr m ≠ [] := fun e => by
          rw [e] at hb
          cases hb
        exact ⟨_, rfl, _, rfl, (by decide : 2 ≤ sizeLine), kq m (by omega) hne fun m' h1 h2 => hno m' (by omega) h2⟩
      · rw [eqv_listN] at hb
        have he : frL n fr m = [] := by
          cases h : frL n fr m with
          | nil => rfl
          | cons a t =>
            rw [h] at hb
            cases hb
        refine ⟨⟨_, _, rfl⟩, fun m' h1 h2 => ?_⟩
        by_cases e : m' = m
        · rw [e]; exact he
        · exact hno m' (by omega) h2
  · rintro ρ ⟨⟨a, b, rfl⟩, hno⟩
    rw [hlen] at hno
    have h1 := hno 0 (by omega) (by omega)
    have h2 : ([] : List Int) ∈ frL n fr 0 := List.mem_filter.mpr ⟨by simp [lotsL], h0⟩
    rw [h1] at h2
    cases h2
end
end Fv
namespace Fv
/-! # sketches: lists of bases in the tuples' order -/
def lexI : List Int → List Int → Bool
  | [], [] => false
  | [], _ :: _ => true
  | _ :: _, [] => false
  | a :: x, b :: y => if a = b then lexI x y else decide (a < b)
theorem lexI_irr : ∀ a : List Int, lexI a a = false
  | [] => rfl
  | a :: x => by
    show (if a = a then lexI x x else _) = false
    rw [if_pos rfl, lexI_irr x]
theorem lexI_tri : ∀ {a b : List Int}, lexI a b = false → lexI b a = false → a = b
  | [], [], _, _ => rfl
  | [], _ :: _, h, _ => by cases h
  | _ :: _, [], _, h => by cases h
  | a :: x, b :: y, h1, h2 => by
    have h1 : (if a = b then lexI x y else decide (a < b)) = false := h1
    have h2 : (if b = a then lexI y x else decide (b < a)) = false := h2
    by_cases e : a = b
    · subst e
      rw [if_pos rfl] at h1 h2
      rw [lexI_tri h1 h2]
    · rw [if_neg e] at h1
      rw [if_neg (fun z => e z.symm)] at h2
      have := of_decide_eq_false h1
      have := of_decide_eq_false h2
      omega
theorem lexI_asym : ∀ {a b : List Int}, lexI a b = true → lexI b a = false
  | [], [], h => by cases h
  | [], _ :: _, _ => rfl
  | _ :: _, [], h => by cases h
  | a :: x, b :: y, h => by
    have h : (if a = b then lexI x y else decide (a < b)) = true := h
    show (if b = a then lexI y x else decide (b < a)) = false
    by_cases e : a = b
    · subst e
      rw [if_pos rfl] at h ⊢
      exact lexI_asym h
    · rw [if_neg e] at h
      rw [if_neg (fun z => e z.symm)]
      have := of_decide_eq_true h
      exact decide_eq_false (by omega)
theorem lexI_trans : ∀ {a b c : List Int}, lexI a b = true → lexI b c = true → lexI a c = true
  | [], [], _, h, _ => by cases h
  | [], _ :: _, [], _, h => by cases h
  | [], _ :: _, _ :: _, _, _ => rfl
  | _ :: _, [], _, h, _ => by cases h
  | _ :: _, _ :: _, [], _, h => by cases h
  | a :: x, b :: y, c :: z, h1, h2 => by
    have h1 : (if a = b then lexI x y else decide (a < b)) = true := h1
    have h2 : (if b = c then lexI y z else decide (b < c)) = true := h2
    show (if a = c then lexI x z else decide (a < c)) = true
    by_cases e1 : a = b
    · subst e1
      rw [if_pos rfl] at h1
      by_cases e2 : a = c
      · subst e2
        rw [if_pos rfl] at h2 ⊢
        exact lexI_trans h1 h2
      · rw [if_neg e2] at h2 ⊢
        exact h2
    · rw [if_neg e1] at h1
      have h1 := of_decide_eq_true h1
      by_cases e2 : b = c
      · subst e2
        rw [if_neg e1]
        exact decide_eq_true h1
      · rw [if_neg e2] at h2
        have h2 := of_decide_eq_true h2
        rw [if_neg (by omega)]
        exact decide_eq_true (by omega)
theorem lexI_app : ∀ {a b : List Int} (x y : List Int), a.length = b.length → lexI a b = true → lexI (a ++ x) (b ++ y) = true
  | [], [], _, _, _, h => by cases h
  | [], _ :: _, _, _, h, _ => by cases h
  | _ :: _, [], _, _, h, _ => by cases h
  | a :: u, b :: v, x, y, hl, h => by
    have h : (if a = b then lexI u v else decide (a < b)) = true := h
    show (if a = b then lexI (u ++ x) (v ++ y) else decide (a < b)) = true
    by_cases e : a = b
    · rw [if_pos e] at h ⊢
      exact lexI_app x y (by simpa using hl) h
    · rw [if_neg e] at h ⊢
      exact h
theorem lexI_last : ∀ (a : List Int) {i j : Int}, i < j → lexI (a ++ [i]) (a ++ [j]) = true
  | [], i, j, h => by
    show (if i = j then _ else decide (i < j)) = true
    rw [if_neg (by omega)]
    exact decide_eq_true h
  | a :: x, i, j, h => by
    show (if a = a then lexI (x ++ [i]) (x ++ [j]) else _) = true
    rw [if_pos rfl]
    exact lexI_last x h
abbrev LexS (bs : List (List Int)) : Prop := bs.Pairwise fun a b => lexI a b = true
theorem lots_srt {ns : List Int} (hn : ns.Pairwise (· < ·)) : ∀ k, LexS (lotsL ns k)
  | 0 => by simp [lotsL]
  | k + 1 => by
    have ih := lots_srt hn k
    have hl : ∀ t ∈ lotsL ns k, t.length = k := fun t h => lotsL_each ns k t h
    show LexS (stepL ns (lotsL ns k))
    generalize lotsL ns k = ts at ih hl
    unfold stepL
    induction ts with
    | nil => simp
    | cons t r ih2 =>
      obtain ⟨h1, h2⟩ := List.pairwise_cons.mp ih
      rw [List.flatMap_cons]
      refine List.pairwise_append.mpr ⟨?_, ih2 h2 fun u hu => hl u (List.mem_cons_of_mem _ hu), ?_⟩
      · exact List.pairwise_map.mpr ((hn.filter _).imp fun h => lexI_last t h)
      · intro a ha b hb
        obtain ⟨i, _, rfl⟩ := List.mem_map.mp ha
        obtain ⟨u, hu, hb⟩ := List.mem_flatMap.mp hb
        obtain ⟨j, _, rfl⟩ := List.mem_map.mp hb
        exact lexI_app _ _ (by rw [hl t List.mem_cons_self, hl u (List.mem_cons_of_mem _ hu)]) (h1 u hu)
theorem rangeI_srt (n : Nat) : (rangeI n).Pairwise (· < ·) := by
  unfold rangeI
  refine List.pairwise_map.mpr (List.pairwise_lt_range.imp fun h => ?_)
  omega
theorem lexS_nd {bs : List (List Int)} (h : LexS bs) : bs.Nodup := h.imp fun {a b} h e => by
  rw [e, lexI_irr] at h
  cases h
/-- two lists in order with the same lots -/
theorem lexS_ext : ∀ {a b : List (List Int)}, LexS a → LexS b → (∀ x, x ∈ a ↔ x ∈ b) → a = b
  | [], [], _, _, _ => rfl
  | [], y :: _, _, _, h => by cases (h y).mpr List.mem_cons_self
  | x :: _, [], _, _, h => by cases (h x).mp List.mem_cons_self
  | x :: a, y :: b, ha, hb, h => by
    obtain ⟨a1, a2⟩ := List.pairwise_cons.mp ha
    obtain ⟨b1, b2⟩ := List.pairwise_cons.mp hb
    have e : x = y := by
      rcases List.mem_cons.mp ((h x).mp List.mem_cons_self) with e | hx
      · exact e
      · rcases List.mem_cons.mp ((h y).mpr List.mem_cons_self) with e | hy
        · exact e.symm
        · have h1 := b1 x hx
          have h2 := a1 y hy
          rw [lexI_asym h1] at h2
          cases h2
    subst e
    rw [lexS_ext a2 b2 fun z => ?_]
    constructor
    · intro hz
      rcases List.mem_cons.mp ((h z).mp (List.mem_cons_of_mem _ hz)) with e | hz'
      · have := a1 z hz
        rw [e, lexI_irr] at this
        cases this
      · exact hz'
    · intro hz
      rcases List.mem_cons.mp ((h z).mpr (List.mem_cons_of_mem _ hz)) with e | hz'
      · have := b1 z hz
        rw [e, lexI_irr] at this
        cases this
      · exact hz'
/-- a sketch of n things and rank m -/
structure Sk (n m : Nat) (bs : List (List Int)) : Prop where
  n8 : n ≤ 8
  le : m ≤ n
  ne : bs ≠ []
  mem : ∀ b ∈ bs, b ∈ lotsL (rangeI n) m
  srt : LexS bs
  ex : CanEx bs
theorem Sk.bases {n m : Nat} {bs : List (List Int)} (h : Sk n m bs) : Bases bs m := ⟨h.ne, fun b hb => (mem_lots.mp (h.mem b hb)).1, fun b hb => (mem_lots.mp (h.mem b hb)).2.1, h.ex⟩
theorem sk_free {r : List Int → Nat} (R : RankFn r) {n m : Nat} (hn : n ≤ 8) (hm : m ≤ n) (hne : freeL r (rangeI n) m ≠ []) : Sk n m (freeL r (rangeI n) m) :=
  ⟨hn, hm, hne, fun b hb => (List.mem_filter.mp hb).1, (lots_srt (rangeI_srt n) m).filter _, canEx_rank R _ _⟩
/-- all lots of a length -/
theorem sk_even {n m : Nat} (hn : n ≤ 8) (hm : m ≤ n) : Sk n m (lotsL (rangeI n) m) := by
  have R : RankFn fun a : List Int => (asc a).length := by
    refine ⟨rfl, fun {a b} h => nd_len (nd_asc a) fun x hx => mem_asc.mpr (h x (mem_asc.mp hx)), fun x a => ?_, fun a t h => ?_⟩
    · have := nd_len (a := asc (x :: a)) (b := x :: asc a) (nd_asc _) fun y hy => by
        rcases List.mem_cons.mp (mem_asc.mp hy) with e | h
        · rw [e]; exact List.mem_cons_self
        · exact List.mem_cons_of_mem _ (mem_asc.mpr h)
      rw [List.length_cons] at this
      exact this
    · have hin : ∀ x ∈ t, x ∈ a := fun x hx => by
        refine Classical.byContradiction fun hn => ?_
        have := nd_len (a := x :: asc a) (b := asc (x :: a)) (List.nodup_cons.mpr ⟨fun z => hn (mem_asc.mp z), nd_asc a⟩) fun y hy => by
          rcases List.mem_cons.mp hy with e | h
          · rw [e]; exact mem_asc.mpr List.mem_cons_self
          · exact mem_asc.mpr (List.mem_cons_of_mem _ (mem_asc.mp h))
        have e : (asc (x :: a)).length = (asc a).length := h x hx
        rw [List.length_cons] at this
        omega
      have e : asc (a ++ t) = asc a := pw_ext (pw_asc _) (pw_asc _) fun k => by
        rw [mem_asc, mem_asc, List.mem_append]
        exact ⟨fun z => z.elim id (hin k), .inl⟩
      show (asc (a ++ t)).length = (asc a).length
      rw [e]
  have e : lotsL (rangeI n) m = freeL (fun a => (asc a).length) (rangeI n) m := by
    unfold freeL
    refine (List.filter_eq_self.mpr fun t ht => ?_).symm
    obtain ⟨t1, _, _⟩ := mem_lots.mp ht
    exact decide_eq_true (by show (asc t).length = t.length; rw [asc_self t1])
  have hne : lotsL (rangeI n) m ≠ [] := by
    have : rangeI m ∈ lotsL (rangeI n) m := mem_lots.mpr ⟨rangeI_srt m, len_rangeI m, fun x hx => by
      have := mem_rangeI.mp hx
      exact mem_rangeI.mpr (by omega)⟩
    intro z
    rw [z] at this
    cases this
  rw [e] at hne ⊢
  exact sk_free R hn hm hne
end Fv
namespace Fv
open PySem PySem.Spec PyProof.Rows L2 Fr Fw
section
variable {P : Program} {w : World} {L : Ly} {mg : Str → Option Value} {base : Heap} {f : Addr} {fd : FuncData}
/-! ### _law_web_pieces -/
abbrev s_law_web_pieces : Stmt := topS 50
theorem sc_law_web_pieces : FnScope ["places_here", "ties", "name", "one", "other", "old", "new", "item"] ["places_here", "ties"] (C8.fnScope s_law_web_pieces) := C8.fnScope_by (by decide +kernel)
def stepN (nm : List Int) (t : Int × Int) : List Int := mrg nm t.1.toNat t.2.toNat
def namesH (p : Nat) (ts : List (Int × Int)) : List Int := ts.foldl stepN (rangeI p)
theorem stepN_len (nm : List Int) (t : Int × Int) : (stepN nm t).length = nm.length := by rw [stepN, mrg, List.length_map]
theorem namesH_len (p : Nat) (ts : List (Int × Int)) : (namesH p ts).length = p := by
  have : ∀ (ts : List (Int × Int)) (nm : List Int), (ts.foldl stepN nm).length = nm.length := by
    intro ts
    induction ts with
    | nil => intro nm; rfl
    | cons t r ih => intro nm; rw [List.foldl_cons, ih, stepN_len]
  rw [namesH, this, len_rangeI]
theorem namesH_more {p j : Nat} {ts : List (Int × Int)} {t : Int × Int} (h : ts[j]? = some t) : namesH p (ts.take (j + 1)) = stepN (namesH p (ts.take j)) t := by
  rw [namesH, take_more h, List.foldl_append]
  rfl
def pieces (p : Nat) (ts : List (Int × Int)) : Nat := (asc (namesH p ts)).length
def TiesOk (p : Nat) (ts : List (Int × Int)) : Prop := ∀ t ∈ ts, 0 ≤ t.1 ∧ t.1 < p ∧ 0 ≤ t.2 ∧ t.2 < p
def fPieces : Pf := ⟨fun xs k => ∃ (p : Nat) (ts : List (Int × Int)), xs = [.int p, .lst (ts.map tieD)] ∧ p ≤ 8 ∧ ts.length ≤ 8 ∧ TiesOk p ts ∧ k (.int (pieces p ts)), fun h ⟨p, ts, e, a, b, c, q⟩ => ⟨p, ts, e, a, b, c, h _ q⟩⟩
theorem ok_law_web_pieces (Fd : C8.Def L.K mg "_law_web_pieces" s_law_web_pieces f fd) (b : Binds L.K fd ["places_here", "ties"] []) (B : Bw mg) : CalG P w L.K mg base C8.CX0 1 "_law_web_pieces" (spF L fPieces) := by
  have sc := sc_law_web_pieces
  refine calF (n := 6) Fd b sc ?_ (fun vs h => start_eq (by rw [h]; rfl)) fun cdv A outer s H E hr hgu => ?_
  · rintro ds k ⟨a, b, rfl, _⟩
    rfl
  refine ⟨_, w_seq (w_set (ps_set (i := 2) sc.nd rfl (by first | exact Or.inl rfl | exact Or.inr rfl) (w_listRg (pe_listRg rfl (by rfl) B.list (prg_1 (by rfl) B.range (w_v (pv 0)))))))
  (w_seq (w_forI (snd_tgTup (n := 2) (snd_tgCons snd_tgN (snd_tgCons snd_tgN snd_tgNil))) (ps_for PassesOwn.never rfl (w_il (pi_list (w_v (pv 1)))) (pg_tup (n := 2) (by rfl) (pgs_cons (pg_name (i := 3) sc.nd rfl (by first | exact Or.inl rfl | exact Or.inr rfl)) (pgs_cons (pg_name (i := 4) sc.nd rfl (by first | exact Or.inl rfl | exact Or.inr rfl)) pgs_nil)))
   (w_seq (w_asg (snd_tgTup (n := 2) (snd_tgCons snd_tgN (snd_tgCons snd_tgN snd_tgNil))) (ps_asg (w_tup (w_cons (w_ix ix_list snd_ix (w_v (pv 2)) (w_v (pv 3)) (fun _ _ => rfl)) (w_cons (w_ix ix_list snd_ix (w_v (pv 2)) (w_v (pv 4)) (fun _ _ => rfl)) w_nil))) (pg_tup (n := 2) (by rfl) (pgs_cons (pg_name (i := 5) sc.nd rfl (by first | exact Or.inl rfl | exact Or.inr rfl)) (pgs_cons (pg_name (i := 6) sc.nd rfl (by first | exact Or.inl rfl | exact Or.inr rfl)) pgs_nil)))))
    (w_one (w_setLc (sndv_N (by decide)) (ps_setLc (i := 2) (own := [("item", 7)]) (by rfl) sc.nd rfl (by rfl) (sw_true rfl (by rfl) rfl (by decide +kernel)) (w_il (pi_list (w_v (pv 2)))) (blkOk_by (by kernel_rfl)) (fun _ _ _ _ _ => (pg_name (i := 7) sc.nd rfl (by first | exact Or.inl rfl | exact Or.inr rfl))) (fun _ _ _ _ _ => w_tnil) (fun _ _ _ _ _ => (w_ifExp (w_cmpT (op_eqD hr.units) snd_eq (w_v (pv 7)) (w_v (pv 5)) (nomark _)) (w_v (pv 6)) (w_v (pv 7))))))))))
  (w_one (w_ret (ps_ret (w_lenSet (pe_lenSetN rfl (by rfl) B.len (by rfl) B.set (w_v (pv 2)))))))), ?_⟩
  rintro ds kk ⟨p, ts, rfl, hp, hl, hb, k⟩
  refine ⟨_, rfl, (p : Int), rfl, by omega, by omega, ?_⟩
  have e0 : Da.lst (rgD 0 (p : Int).toNat) = li (namesH p (ts.take 0)) := by
    show Da.lst (rgD 0 p) = _
    rw [rgD_I]
    rfl
  refine ⟨_, rfl, _, rfl, ?_⟩
  refine loopF_inv (fun j ρ => ∃ a b c d, ρ = [some (.dat (.int p)), some (.dat (.lst (ts.map tieD))), some (.dat (li (namesH p (ts.take j)))), a, b, c, d, none]) ⟨none, none, none, none, by rw [← e0]; rfl⟩ ?_ ?_
  · rintro j x ρ hj ⟨a, b, c, d, rfl⟩
    obtain ⟨t, ht, rfl⟩ := map_get hj
    obtain ⟨t1, t2, t3, t4⟩ := hb t (List.mem_of_getElem? ht)
    rw [namesH_more ht]
    have hnl := namesH_len p (ts.take j)
    generalize namesH p (ts.take j) = nm at hnl
    have hat : ∀ i : Int, 0 ≤ i → i < p → atI (nm.map Da.int) i = some (.int (nm.getD i.toNat 0)) := fun i i0 i1 => by
      have hlt : i.toNat < nm.length := by omega
      have e : i = ((i.toNat : Nat) : Int) := by omega
      rw [e, atI_map, Fw.atI_nat (List.getElem?_eq_getElem hlt), List.getD_eq_getElem?_getD]
      simp only [Int.toNat_natCast]
      rw [List.getElem?_eq_getElem hlt]
      rfl
    refine ⟨_, rfl, rfl, _, _, rfl, _, _, rfl, rfl, ?_⟩
    refine ⟨_, rfl, _, rfl, _, t.1, _, rfl, rfl, hat t.1 t1 t2, _, rfl, _, rfl, _, t.2, _, rfl, rfl, hat t.2 t3 t4, (by decide : 2 ≤ sizeLine), _, rfl, rfl, _, _, rfl, _, _, rfl, rfl, ?_⟩
    refine ⟨_, rfl, nm.map Da.int, rfl, lcP_all Da.int (fun x => Da.int (if x = nm.getD t.1.toNat 0 then nm.getD t.2.toNat 0 else x)) (fun x _ => ?_) ?_ ?_⟩
    · refine ⟨_, rfl, _, rfl, .int x, .int (nm.getD t.1.toNat 0), rfl, rfl, rfl, rfl, _, rfl, bite (fun h => ?_) fun h => ?_⟩
      · have h : x = nm.getD t.1.toNat 0 := by simpa [PyData.eqv] using h
        exact ⟨_, rfl, by rw [if_pos h], rfl⟩
      · have h : ¬ x = nm.getD t.1.toNat 0 := by simpa [PyData.eqv] using h
        exact ⟨_, rfl, by rw [if_neg h], rfl⟩
    · rw [hnl]
      exact Nat.le_trans hp (by decide)
    · have e : Da.lst (nm.map fun x => Da.int (if x = nm.getD t.1.toNat 0 then nm.getD t.2.toNat 0 else x)) = li (stepN nm t) := by
        rw [stepN, mrg, li, List.map_map]
        rfl
      rw [e]
      exact ⟨_, _, _, _, rfl⟩
  · rintro ρ ⟨a, b, c, d, rfl⟩
    rw [List.length_map, List.take_length]
    refine ⟨_, rfl, namesH p ts, rfl, ?_, fun ms m1 m2 => ?_⟩
    · rw [namesH_len]
      omega
    · have e : ms.length = pieces p ts := Nat.le_antisymm (nd_len m1 fun x hx => mem_asc.mpr ((m2 x).mp hx)) (nd_len (nd_asc _) fun x hx => (m2 x).mpr (mem_asc.mp hx))
      rw [e]
      exact k
end
end Fv
namespace Fv
open PySem PySem.Spec PyProof.Rows L2 Fr Fw
theorem nd_tab : (["lot", "field", "rows", "k"] : List Str).Nodup := by decide +kernel
theorem py_sk (n : Nat) (bs : List (List Int)) : py (skD n bs) = some (.tuple [.int n, .list (bs.map pti)]) := by
  simp only [py, pys, pys_tis, lti, Option.bind_some, Option.map_some]
/-- the caller's table of code objects is known -/
def TabIn (base : Heap) (mg : Str → Option Value) (cd : Value) (q : Str) (T : List (Addr × Str)) : Prop := ∃ c P, LamX.TabB base mg c P ∧ cd = .ref c ∧ (P, q) ∈ T ∧ ∀ p ∈ T, p.1 = P → p.2 = q
theorem start_eq1 {N : List Str} {vs : List V} {n : Nat} (h : N.length = vs.length + (n + 1)) : L2.start N vs = vs.map some ++ List.replicate (n + 1) none := start_eq h
section
variable {P : Program} {w : World} {L : Ly} {mg : Str → Option Value} {base : Heap} {f : Addr} {fd : FuncData} {T : List (Addr × Str)}
/-! ### _law_table_sketch -/
abbrev s_law_table_sketch : Stmt := topS 49
theorem sc_law_table_sketch : FnScope ["field", "rows", "~"] ["field", "rows"] (C8.fnScope s_law_table_sketch) := C8.fnScope_by (by decide +kernel)
theorem cl_law_table_sketch : ∀ y ∈ (["field", "rows"] : List Str), (C8.fnScope s_law_table_sketch).names.lookup y = some .cell ∨ (C8.fnScope s_law_table_sketch).names.lookup y = some .free := by decide +kernel
def tbF (n : Nat) (rows : List (List Int)) (i : Int) : List Int := rows.getD i.toNat (zer n)
def frTab (p n : Nat) (rows : List (List Int)) (lot : List Int) : Bool := decide (rowRank p (lot.map (tbF n rows)) = lot.length)
theorem tbF_len {n : Nat} {rows : List (List Int)} (h : ∀ r ∈ rows, r.length = n) (i : Int) : (tbF n rows i).length = n := by
  unfold tbF
  rw [List.getD_eq_getElem?_getD]
  cases e : rows[i.toNat]? with
  | none => exact List.length_replicate ..
  | some r => exact h r (List.mem_of_getElem? e)
abbrev Tz := Nat × Nat × List (List Int)
def TabC (z : Tz) : Prop := Pr z.1 ∧ z.2.2.length ≤ 8 ∧ z.2.1 ≤ 8 ∧ ∀ r ∈ z.2.2, r.length = z.2.1
def tabE (z : Tz) : List Da := [.int z.1, .lst (z.2.2.map li)]
def fTab : Pf := ⟨fun xs k => ∃ z : Tz, xs = tabE z ∧ TabC z ∧ ∀ m bs, Sk z.2.2.length m bs → k (skD z.2.2.length bs), fun h ⟨z, e, a, q⟩ => ⟨z, e, a, fun m bs s => h _ (q m bs s)⟩⟩
theorem pr_le {p : Nat} (h : Pr p) : p ≤ 1000 := by
  rcases h with h | h | h | h <;> omega
theorem ok_law_table_sketch {fL : Addr} {fdL : FuncData} (Fd : C8.Def L.K mg "_law_table_sketch" s_law_table_sketch f fd) (b : Binds L.K fd ["field", "rows"] []) (B : Bw mg) (hT : TabIn base mg fd.code "_law_table_sketch.<locals>.<lambda>" T)
    (FdL : C8.Def L.K mg "_law_longest" s_law_longest fL fdL) (bL : Binds L.K fdL ["size", "is_free_here"] [])
    (c_lots : ∀ (B' : Heap) (fl : Addr) (G0 : Hp), CalG P w L.K mg B' C8.CX0 1 "_law_lots" (spF (L.lam fl G0) fLots))
    (c_rr : ∀ (B' : Heap) (fl : Addr) (G0 : Hp), CalG P w L.K mg B' C8.CX0 2 "_law_row_rank" (spF (L.lam fl G0) fRR)) :
    CalG P w L.K mg base C8.CX0 5 "_law_table_sketch" (spT L T fTab) := by
  have sc := sc_law_table_sketch
  refine calT (n := 0) Fd b sc ?_ (fun vs h => start_eq1 (by rw [h]; rfl)) fun cdv A outer s H E hcd hr hgu => ?_
  · rintro ds k ⟨z, rfl, _⟩
    rfl
  subst hcd
  refine ⟨_, w_one (w_ret (ps_ret (w_lam1 (T := T) (N := ["lot", "field", "rows", "k"]) (ps := ["lot"]) (cs := ["field", "rows"]) (is := [0, 1]) (kk := 4) (emb := tabE) (C := TabC) (FF := fun z => fLong z.2.2.length (frTab z.1 z.2.1 z.2.2))
    ⟨hT, by exact lamN_by (by decide +kernel), by exact rfl, cl_law_table_sketch, rfl, fun _ => rfl⟩ rfl rfl FdL.mgf FdL.kp hr hgu
    (w_tCB snd_len (pe_callB call_len_seq (by rfl) B.len (by decide +kernel) (w_cons (w_v (pv 1)) w_nil)))
    (fun B' fl c G0 ws z cl at_ dcs hC => ?_)))), ?_⟩
  · obtain ⟨p, n, rows⟩ := z
    obtain ⟨hp, hl, hn, hrow⟩ := hC
    have cV : LamG P w L.K mg B' C8.CX0 3 fl (spV (L.lam fl G0) G0 (fFr rows.length (frTab p n rows))) := by
      refine calV (L := L.lam fl G0) (N := ["lot", "field", "rows", "k"]) (ps := ["lot"]) (cs := ["field", "rows"]) (n := 1) (by exact lamN_by (by decide +kernel)) at_ (dvs_to dcs (no9s_py (ds := [.int p, .list (rows.map fun r => .list (r.map PyData.int))]) ?_)) (fun us pm ctv hl => match us, hl with | [_], _ => rfl) ?_ rfl fun A outer s H E hr2 hgu2 => ?_
      · have hpy : ∀ rs : List (List Int), pys (rs.map li) = some (rs.map fun r => PyData.list (r.map PyData.int)) := by
          intro rs
          induction rs with
          | nil => rfl
          | cons r t ih => simp only [List.map_cons, pys, py_li, ih, Option.bind_some, Option.map_some]
        show pys [Da.int p, Da.lst (rows.map li)] = _
        simp only [pys, py, hpy, Option.bind_some, Option.map_some]
      · rintro ds k ⟨lot, rfl, _⟩
        rfl
      refine ⟨_, w_cmp (op_eqD hr2.units) snd_eq (w_call (c_rr B' fl G0) hr2 (by decide) hgu2 rfl (w_cons (w_v (pv 1)) (w_cons (w_lc (sndv_N (by decide)) (pe_lc (own := [("k", 3)]) (by rfl) nd_tab (w_it (pi_tup (w_v (pv 0)))) (blkOk_by (by kernel_rfl)) (fun _ _ _ _ _ => (pg_name (i := 3) nd_tab rfl (by first | exact Or.inl rfl | exact Or.inr rfl))) (fun _ _ _ _ _ => w_tnil) (fun _ _ _ _ _ => (w_ix ix_list snd_ix (w_v (pv 2)) (w_v (pv 3)) (fun _ _ => rfl))))) w_nil)))
        (w_tCB snd_len (pe_callB call_len_seq (by rfl) B.len (by decide +kernel) (w_cons (w_v (pv 0)) w_nil))) (nomark _), ?_⟩
      rintro ds kk ⟨lot, rfl, hl8, hin, k⟩
      refine ⟨_, rfl, _, rfl, lot.map Da.int, rfl, lcP_all Da.int (fun x => li (tbF n rows x)) (fun x hx => ?_) (Nat.le_trans hl8 (by decide)) ?_⟩
      · obtain ⟨x0, x1⟩ := hin x hx
        have hlt : x.toNat < rows.length := by omega
        have e : x = ((x.toNat : Nat) : Int) := by omega
        refine ⟨_, rfl, _, rfl, _, x, li (tbF n rows x), rfl, rfl, ?_, rfl, rfl⟩
        rw [e, atI_map, Fw.atI_nat (List.getElem?_eq_getElem hlt), tbF, Int.toNat_natCast, List.getD_eq_getElem?_getD, List.getElem?_eq_getElem hlt]
        rfl
      · have e : (lot.map fun x => li (tbF n rows x)) = (lot.map (tbF n rows)).map li := by rw [List.map_map]; rfl
        rw [e]
        refine ⟨p, lot.map (tbF n rows), n, rfl, by have := hp.pos; omega, by have := pr_le hp; omega, by rw [List.length_map]; exact hl8, hn, fun r hr => ?_, _, rfl, _, .inr rfl, _, _, rfl, rfl, rfl, rfl, ?_⟩
        · obtain ⟨i, _, rfl⟩ := List.mem_map.mp hr
          exact tbF_len hrow i
        · have e2 : PyData.eqv (.int (rowRank p (lot.map (tbF n rows)))) (.int ((lot.map Da.int).length : Int)) = frTab p n rows lot := by
            rw [List.length_map]
            show ((rowRank p (lot.map (tbF n rows)) : Int) == (lot.length : Int)) = _
            unfold frTab
            by_cases h : rowRank p (lot.map (tbF n rows)) = lot.length
            · simp [h]
            · have h' : ¬ (rowRank p (lot.map (tbF n rows)) : Int) = (lot.length : Int) := by omega
              simp [h, h']
          rw [e2]
          exact k
    exact ok_law_longest (k := 3) FdL bL B (c_lots B' fl G0) cV (by decide)
  · rintro ds kk ⟨⟨p, n, rows⟩, rfl, hC, k⟩
    obtain ⟨hp, hl, hn, hrow⟩ := hC
    refine ⟨_, rfl, _, .inl rfl, List.mem_append.mpr (.inr (List.mem_singleton.mpr rfl)), rfl, (p, n, rows), rfl, ⟨hp, hl, hn, hrow⟩, hl, ?_, ?_, fun m hm hne _ => ⟨no9_py (py_sk _ _), ?_⟩⟩
    · rw [List.length_map]
    · rfl
    · have R := rank_tab hp (tb := tbF n rows) (tbF_len hrow)
      have e : frL rows.length (frTab p n rows) m = freeL (tabR p (tbF n rows)) (rangeI rows.length) m := rfl
      rw [e] at hne ⊢
      exact k m _ (sk_free R hl hm hne)
end
end Fv
namespace Fv
/-! # webs -/
section
open Classical
def tieF (ties : List (Int × Int)) (i : Int) : Int × Int := ties.getD i.toNat (0, 0)
def tieN (ties : List (Int × Int)) (i : Int) : Nat × Nat := ((tieF ties i).1.toNat, (tieF ties i).2.toNat)
theorem tieF_ok {p : Nat} {ties : List (Int × Int)} (hp : 0 < p) (h : TiesOk p ties) (i : Int) : 0 ≤ (tieF ties i).1 ∧ (tieF ties i).1 < p ∧ 0 ≤ (tieF ties i).2 ∧ (tieF ties i).2 < p := by
  unfold tieF
  rw [List.getD_eq_getElem?_getD]
  cases e : ties[i.toNat]? with
  | none =>
    show 0 ≤ (0 : Int) ∧ (0 : Int) < p ∧ 0 ≤ (0 : Int) ∧ (0 : Int) < p
    omega
  | some t => exact h t (List.mem_of_getElem? e)
theorem tieN_ok {p : Nat} {ties : List (Int × Int)} (hp : 0 < p) (h : TiesOk p ties) (i : Int) : (tieN ties i).1 < p ∧ (tieN ties i).2 < p := by
  have := tieF_ok hp h i
  unfold tieN
  constructor <;> simp only <;> omega
theorem nm_fold {p : Nat} {ties : List (Int × Int)} (hp : 0 < p) (h : TiesOk p ties) : ∀ (lot S : List Int) (nm : List Int), Nm (tieN ties) p S nm → Nm (tieN ties) p (lot.reverse ++ S) ((lot.map (tieF ties)).foldl stepN nm)
  | [], S, nm, N => N
  | x :: lot, S, nm, N => by
    have ht := tieN_ok hp h x
    have := nm_fold hp h lot (x :: S) (stepN nm (tieF ties x)) (nm_step N (x := x) ht.1 ht.2)
    rw [List.reverse_cons, List.append_assoc]
    exact this
theorem pieces_rank {p : Nat} {ties : List (Int × Int)} (hp : 0 < p) (h : TiesOk p ties) (lot : List Int) : pieces p (lot.map (tieF ties)) + tieR (tieN ties) p lot = p := by
  have N := nm_fold hp h lot [] _ (nm_start (tie := tieN ties) (p := p))
  rw [List.append_nil] at N
  have e : pieces p (lot.map (tieF ties)) = (reps (tieN ties) p lot.reverse).length := nm_count N
  have h1 := reps_mono (tie := tieN ties) (p := p) (S := lot) (T := lot.reverse) fun i hi => .tie i (List.mem_reverse.mpr hi)
  have h2 := reps_mono (tie := tieN ties) (p := p) (S := lot.reverse) (T := lot) fun i hi => .tie i (List.mem_reverse.mp hi)
  have h3 := reps_le (tie := tieN ties) (p := p) (S := lot)
  unfold tieR
  omega
end
open PySem PySem.Spec PyProof.Rows L2 Fr Fw
section
variable {P : Program} {w : World} {L : Ly} {mg : Str → Option Value} {base : Heap} {f : Addr} {fd : FuncData} {T : List (Addr × Str)}
/-! ### _law_web_sketch -/
abbrev s_law_web_sketch : Stmt := topS 51
theorem sc_law_web_sketch : FnScope ["places_here", "ties", "~"] ["places_here", "ties"] (C8.fnScope s_law_web_sketch) := C8.fnScope_by (by decide +kernel)
theorem cl_law_web_sketch : ∀ y ∈ (["places_here", "ties"] : List Str), (C8.fnScope s_law_web_sketch).names.lookup y = some .cell ∨ (C8.fnScope s_law_web_sketch).names.lookup y = some .free := by decide +kernel
theorem nd_web : (["lot", "places_here", "ties", "k"] : List Str).Nodup := by decide +kernel
def frWeb (p : Nat) (ties : List (Int × Int)) (lot : List Int) : Bool := decide (((pieces p (lot.map (tieF ties)) : Nat) : Int) = (p : Int) - (lot.length : Int))
abbrev Wz := Nat × List (Int × Int)
def WebC (z : Wz) : Prop := 0 < z.1 ∧ z.1 ≤ 8 ∧ z.2.length ≤ 8 ∧ TiesOk z.1 z.2
def webE (z : Wz) : List Da := [.int z.1, .lst (z.2.map tieD)]
def fWeb : Pf := ⟨fun xs k => ∃ z : Wz, xs = webE z ∧ WebC z ∧ ∀ m bs, Sk z.2.length m bs → k (skD z.2.length bs), fun h ⟨z, e, a, q⟩ => ⟨z, e, a, fun m bs s => h _ (q m bs s)⟩⟩
theorem ok_law_web_sketch {fL : Addr} {fdL : FuncData} (Fd : C8.Def L.K mg "_law_web_sketch" s_law_web_sketch f fd) (b : Binds L.K fd ["places_here", "ties"] []) (B : Bw mg) (hT : TabIn base mg fd.code "_law_web_sketch.<locals>.<lambda>" T)
    (FdL : C8.Def L.K mg "_law_longest" s_law_longest fL fdL) (bL : Binds L.K fdL ["size", "is_free_here"] [])
    (c_lots : ∀ (B' : Heap) (fl : Addr) (G0 : Hp), CalG P w L.K mg B' C8.CX0 1 "_law_lots" (spF (L.lam fl G0) fLots))
    (c_pi : ∀ (B' : Heap) (fl : Addr) (G0 : Hp), CalG P w L.K mg B' C8.CX0 1 "_law_web_pieces" (spF (L.lam fl G0) fPieces)) :
    CalG P w L.K mg base C8.CX0 5 "_law_web_sketch" (spT L T fWeb) := by
  have sc := sc_law_web_sketch
  refine calT (n := 0) Fd b sc ?_ (fun vs h => start_eq1 (by rw [h]; rfl)) fun cdv A outer s H E hcd hr hgu => ?_
  · rintro ds k ⟨z, rfl, _⟩
    rfl
  subst hcd
  refine ⟨_, w_one (w_ret (ps_ret (w_lam1 (T := T) (N := ["lot", "places_here", "ties", "k"]) (ps := ["lot"]) (cs := ["places_here", "ties"]) (is := [0, 1]) (kk := 4) (emb := webE) (C := WebC) (FF := fun z => fLong z.2.length (frWeb z.1 z.2))
    ⟨hT, by exact lamN_by (by decide +kernel), by exact rfl, cl_law_web_sketch, rfl, fun _ => rfl⟩ rfl rfl FdL.mgf FdL.kp hr hgu
    (w_tCB snd_len (pe_callB call_len_seq (by rfl) B.len (by decide +kernel) (w_cons (w_v (pv 1)) w_nil)))
    (fun B' fl c G0 ws z cl at_ dcs hC => ?_)))), ?_⟩
  · obtain ⟨p, ties⟩ := z
    obtain ⟨hp, hp8, hl, hok⟩ := hC
    have cV : LamG P w L.K mg B' C8.CX0 3 fl (spV (L.lam fl G0) G0 (fFr ties.length (frWeb p ties))) := by
      refine calV (L := L.lam fl G0) (N := ["lot", "places_here", "ties", "k"]) (ps := ["lot"]) (cs := ["places_here", "ties"]) (n := 1) (by exact lamN_by (by decide +kernel)) at_ (dvs_to dcs (no9s_py (ds := [.int p, .list (ties.map fun t => pti [t.1, t.2])]) ?_)) (fun us pm ctv hl => match us, hl with | [_], _ => rfl) ?_ rfl fun A outer s H E hr2 hgu2 => ?_
      · have hpy : ∀ rs : List (Int × Int), pys (rs.map tieD) = some (rs.map fun t => pti [t.1, t.2]) := by
          intro rs
          induction rs with
          | nil => rfl
          | cons r t ih => simp only [List.map_cons, pys, py_ti, ih, Option.bind_some, Option.map_some]
        show pys [Da.int p, Da.lst (ties.map tieD)] = _
        simp only [pys, py, hpy, Option.bind_some, Option.map_some]
      · rintro ds k ⟨lot, rfl, _⟩
        rfl
      refine ⟨_, w_cmp (op_eqD hr2.units) snd_eq (w_call (c_pi B' fl G0) hr2 (by decide) hgu2 rfl (w_cons (w_v (pv 1)) (w_cons (w_lc (sndv_N (by decide)) (pe_lc (own := [("k", 3)]) (by rfl) nd_web (w_it (pi_tup (w_v (pv 0)))) (blkOk_by (by kernel_rfl)) (fun _ _ _ _ _ => (pg_name (i := 3) nd_web rfl (by first | exact Or.inl rfl | exact Or.inr rfl))) (fun _ _ _ _ _ => w_tnil) (fun _ _ _ _ _ => (w_ix ix_list snd_ix (w_v (pv 2)) (w_v (pv 3)) (fun _ _ => rfl))))) w_nil)))
        (w_op op_sub snd_sub (w_v (pv 1)) (w_tCB snd_len (pe_callB call_len_seq (by rfl) B.len (by decide +kernel) (w_cons (w_v (pv 0)) w_nil)))) (nomark _), ?_⟩
      rintro ds kk ⟨lot, rfl, hl8, hin, k⟩
      refine ⟨_, rfl, _, rfl, lot.map Da.int, rfl, lcP_all Da.int (fun x => tieD (tieF ties x)) (fun x hx => ?_) (Nat.le_trans hl8 (by decide)) ?_⟩
      · obtain ⟨x0, x1⟩ := hin x hx
        have hlt : x.toNat < ties.length := by omega
        have e : x = ((x.toNat : Nat) : Int) := by omega
        refine ⟨_, rfl, _, rfl, _, x, tieD (tieF ties x), rfl, rfl, ?_, rfl, rfl⟩
        rw [e, atI_map, Fw.atI_nat (List.getElem?_eq_getElem hlt), tieF, Int.toNat_natCast, List.getD_eq_getElem?_getD, List.getElem?_eq_getElem hlt]
        rfl
      · have e : (lot.map fun x => tieD (tieF ties x)) = (lot.map (tieF ties)).map tieD := by rw [List.map_map]; rfl
        rw [e]
        refine ⟨p, lot.map (tieF ties), rfl, hp8, by rw [List.length_map]; exact hl8, fun t ht => ?_, _, rfl, _, rfl, _, .inr rfl, _, _, rfl, rfl, trivial, _, _, rfl, rfl, rfl, rfl, ?_⟩
        · obtain ⟨i, _, rfl⟩ := List.mem_map.mp ht
          exact tieF_ok hp hok i
        · have e2 : PyData.eqv (.int (pieces p (lot.map (tieF ties)))) (.int ((p : Int) - ((lot.map Da.int).length : Int))) = frWeb p ties lot := by
            rw [List.length_map]
            show ((pieces p (lot.map (tieF ties)) : Int) == (p : Int) - (lot.length : Int)) = _
            unfold frWeb
            by_cases h : ((pieces p (lot.map (tieF ties)) : Nat) : Int) = (p : Int) - (lot.length : Int) <;> simp [h]
          rw [e2]
          exact k
    exact ok_law_longest (k := 3) FdL bL B (c_lots B' fl G0) cV (by decide)
  · rintro ds kk ⟨⟨p, ties⟩, rfl, hC, k⟩
    obtain ⟨hp, hp8, hl, hok⟩ := hC
    have hp : 0 < p := hp
    have hp8 : p ≤ 8 := hp8
    have hl : ties.length ≤ 8 := hl
    have hok : TiesOk p ties := hok
    have key : ∀ lot : List Int, frWeb p ties lot = decide (tieR (tieN ties) p lot = lot.length) := fun lot => by
      have := pieces_rank hp hok lot
      unfold frWeb
      by_cases h : tieR (tieN ties) p lot = lot.length
      · have h' : ((pieces p (lot.map (tieF ties)) : Nat) : Int) = (p : Int) - (lot.length : Int) := by omega
        simp [h, h']
      · have h' : ¬ ((pieces p (lot.map (tieF ties)) : Nat) : Int) = (p : Int) - (lot.length : Int) := by omega
        simp [h, h']
    have R := rank_ties (tie := tieN ties) (p := p) (tieN_ok hp hok)
    refine ⟨_, rfl, _, .inl rfl, List.mem_append.mpr (.inr (List.mem_singleton.mpr rfl)), rfl, (p, ties), rfl, ⟨hp, hp8, hl, hok⟩, hl, ?_, ?_, fun m hm hne _ => ⟨no9_py (py_sk _ _), ?_⟩⟩
    · rw [List.length_map]
    · rw [key]
      exact decide_eq_true R.nil
    · have e : frL ties.length (frWeb p ties) m = freeL (tieR (tieN ties) p) (rangeI ties.length) m := by
        unfold frL freeL
        congr 1
        funext lot
        exact key lot
      rw [e] at hne ⊢
      exact k m _ (sk_free R hl hm hne)
end
end Fv
namespace Fw
open PySem PySem.Spec PyProof.Rows L2 Fr Fv
/-! # sorted of tuples of numbers, any number of them -/
section
variable {prog : Program} {w : World} {A : Around} {E : Value → Shared → Prop} {s : Shared}
def ltT (h : Heap) (v u : Value) : Bool := lexI (TS.intsOf h v) (TS.intsOf h u)
theorem lexI_tr {x y z : List Int} (h1 : lexI y x = false) (h2 : lexI z y = false) : lexI z x = false := by
  cases h : lexI z x with
  | false => rfl
  | true =>
    cases h3 : lexI x y with
    | true =>
      rw [lexI_trans h h3] at h2
      cases h2
    | false =>
      have e := lexI_tri h3 h1
      subst e
      rw [h] at h2
      cases h2
theorem swo_T (h : Heap) : SrtO.Swo (ltT h) := ⟨fun _ _ => lexI_asym, fun _ _ _ => lexI_tr⟩
theorem kat_ints {Q : Bool → Shared → Prop} : ∀ {us vs : List Value} {ns ms : List Int} (i : Nat), IntsAre us ns → IntsAre vs ms → ns.length = ms.length → Q (lexI ns ms) s → PySem.W.KatLex prog w A true false Q (us.zip vs) i s
  | _, _, [], [], i, .nil, .nil, _, q => PySem.W.kat_nil q
  | _, _, [], _ :: _, _, _, _, h, _ => by cases h
  | _, _, _ :: _, [], _, _, _, h, _ => by cases h
  | _, _, n :: ns, m :: ms, i, .cons _ t r, .cons _ u r', hl, q => by
    have q : Q (if n = m then lexI ns ms else decide (n < m)) s := q
    refine PySem.W.kat_cons (SeqAt.EqAt.int_int n t m u prog w _ _ (PySem.W.kat_go (fun e => ?_) fun e => ?_))
    · have e : n = m := by simpa using e
      rw [if_pos e] at q
      exact PySem.W.kat_yes (kat_ints (i + 1) r r' (by simpa using hl) q)
    · have e : ¬ n = m := by simpa using e
      rw [if_neg e] at q
      refine PySem.W.kat_no ?_
      cases hi : (true && i == 0) with
      | true => exact oneLt_int q
      | false => exact PySem.W.kat_one _ _ (lt_int q)
theorem tups_cmp {vs : List Value} {m : Nat} (hv : ∀ v ∈ vs, ∃ ns, TS.TupInts s.heap v ns ∧ ns.length = m) : SrtO.Cmp prog w A s (tuples' true) (fun p => p.1 ∈ vs) (SrtO.lt2 (ltT s.heap)) := by
  intro p q hp hq
  obtain ⟨ns, t1, l1⟩ := hv _ hp
  obtain ⟨ms, t2, l2⟩ := hv _ hq
  show wpAny (model prog w) A (keyLt' (tuples' true) p.1 q.1) (fun r s' => s' = s ∧ r = lexI (TS.intsOf s.heap p.1) (TS.intsOf s.heap q.1)) (fun _ _ => False) s
  rw [t1.ints, t2.ints]
  obtain ⟨a, xs, e1, ⟨o, ho, hc, n, hd⟩, i1⟩ := t1
  obtain ⟨b, ys, e2, ⟨o2, ho2, hc2, n2, hd2⟩, i2⟩ := t2
  rw [e1, e2]
  refine PySem.W.kat_lt ho hd ho2 hd2 ?_
  have s1 : xs.size = m := by
    have := i1.length
    rw [Array.length_toList] at this
    omega
  have s2 : ys.size = m := by
    have := i2.length
    rw [Array.length_toList] at this
    omega
  have hfin : decide (xs.size < ys.size) = false := decide_eq_false (by omega)
  rw [hfin]
  exact kat_ints 0 i1 i2 (by omega) ⟨rfl, rfl⟩
theorem tups_firsts {h : Heap} {m : Nat} (hm : 1 ≤ m) : ∀ vs : List Value, (∀ v ∈ vs, ∃ ns, TS.TupInts h v ns ∧ ns.length = m) → ∃ fs, PySem.W.KatTups h vs fs ∧ fs.length = vs.length ∧ ∀ f ∈ fs, ∃ n t, f = Value.int n t
  | [], _ => ⟨[], PySem.W.KatTups.nil, rfl, fun f hf => by cases hf⟩
  | v :: vs, hv => by
    obtain ⟨fs, k, hl, hi⟩ := tups_firsts hm vs fun u hu => hv u (List.mem_cons_of_mem _ hu)
    obtain ⟨ns, ⟨a, xs, rfl, ⟨o, ho, hc, n, hd⟩, i⟩, hn⟩ := hv v List.mem_cons_self
    cases ns with
    | nil =>
      rw [List.length_nil] at hn
      omega
    | cons z zs =>
      generalize hxs : xs.toList = l at i
      cases i with
      | cons _ t r =>
        have h0 : xs[0]? = some (Value.int z t) := by
          rw [← Array.getElem?_toList, hxs]
          rfl
        refine ⟨Value.int z t :: fs, PySem.W.KatTups.cons ho hc hd h0 k, by rw [List.length_cons, List.length_cons, hl], fun f hf => ?_⟩
        rcases List.mem_cons.mp hf with e | hf
        · exact ⟨z, t, e⟩
        · exact hi f hf
theorem tups_sortable {a : Addr} {vs : List Value} {m : Nat} (hm : 1 ≤ m) (h2 : 2 ≤ vs.length) (hv : ∀ v ∈ vs, ∃ ns, TS.TupInts s.heap v ns ∧ ns.length = m) (ha : ∀ o, s.heap.get? a = some o → o.cls ≠ .type "tuple") : SrtO.SortableO prog w A s a vs (ltT s.heap) := by
  intro h' keep
  have kp : ∀ b o, s.heap.get? b = some o → o.cls = .type "tuple" → h'.get? b = some o := fun b o e c => keep b o (fun z => ha o (by rw [← z]; exact e) c) e
  have hv' : ∀ v ∈ vs, ∃ ns, TS.TupInts h' v ns ∧ ns.length = m := fun v hm' => by
    obtain ⟨ns, t, l⟩ := hv v hm'
    exact ⟨ns, t.keeps kp, l⟩
  obtain ⟨fs, f1, f2, f3⟩ := tups_firsts hm vs hv'
  refine ⟨tuples' true, fun Q E hq => ?_, ?_⟩
  · refine PySem.W.kat_kind (T := .type "int") f1 (by omega) (fun f hf => ?_) (by rfl) ?_
    · obtain ⟨n, t, rfl⟩ := f3 f hf
      exact PySem.W.Looks.now
    · have e : (Value.type "int" != Value.type "tuple") = true := by first | decide +kernel | rfl | decide
      rw [e]
      exact hq
  · have c := tups_cmp (prog := prog) (w := w) (A := A) (s := { s with heap := h' }) hv'
    intro p q hp hq
    have z := c p q hp hq
    obtain ⟨ns, t1, l1⟩ := hv _ hp
    obtain ⟨ms, t2, l2⟩ := hv _ hq
    have e : SrtO.lt2 (ltT h') p q = SrtO.lt2 (ltT s.heap) p q := by
      show lexI (TS.intsOf h' p.1) (TS.intsOf h' q.1) = lexI (TS.intsOf s.heap p.1) (TS.intsOf s.heap q.1)
      rw [t1.ints, t2.ints, (t1.keeps kp).ints, (t2.keeps kp).ints]
    rw [← e]
    exact z
end
theorem paired_at {α β : Type} {F : α → β → Prop} : ∀ {l : List α} {m : List β} {i : Nat} {a : α}, Paired F l m → l[i]? = some a → ∃ b, m[i]? = some b ∧ F a b
  | _, _, _, _, .nil, e => by simp at e
  | _, _, 0, _, .cons h t, e => by
    simp at e
    subst e
    exact ⟨_, rfl, h⟩
  | _, _, i + 1, _, .cons h t, e => by
    obtain ⟨d, h1, h2⟩ := paired_at (i := i) t (by simpa using e)
    exact ⟨d, by simpa using h1, h2⟩
/-- x is the tuple t -/
abbrev TupV (K : Frag) (H : Hp) (x : V) (t : List Int) : Prop := ∃ p, x = V.ref p ∧ SqT K H p (t.map V.int)
def rSortedTL (K : Frag) : List V → Hp → VK → Prop := fun vs H Q => ∃ (R : V → List Int → Prop) (m : Nat) (a : Addr) (xs : List V) (ts : List (List Int)), vs = [V.ref a] ∧ SqL K H a xs ∧ Paired (fun x t => R x t ∧ TupV K H x t) xs ts ∧ (∀ t ∈ ts, t.length = m) ∧ (2 ≤ ts.length → 1 ≤ m) ∧
  ∀ (zs : List V) (ts' : List (List Int)) (p : Addr), Paired R zs ts' → ts'.Perm ts → ts'.Pairwise (fun a b => lexI b a = false) → H p = none → Q (.ref p) (upd H p (.lst zs))
section
variable {X : Cx}
theorem cr_sortedTL : CallR X (.builtin "sorted") (rSortedTL X.K) := by
  intro pins s σ H vs us Q I r h
  obtain ⟨R, m, a, xs, ts, rfl, hs, hp, hl, hm, q⟩ := h
  obtain ⟨its, rv, hL, hz⟩ := I.list hs
  rw [Vals.ref1 r]
  -- the items' ints
  have hlen : its.length = ts.length := by rw [← rv.length, Paired.length hp]
  have item : ∀ (i : Nat) (u : Value), its[i]? = some u → ∃ (x : V) (t : List Int) (p : Addr), xs[i]? = some x ∧ ts[i]? = some t ∧ R x t ∧ x = V.ref p ∧ u = Value.ref p ∧ TS.TupInts s.heap u t := by
    intro i u hu
    have hi : i < xs.length := by
      rw [rv.length]
      exact (List.getElem?_eq_some_iff.mp hu).1
    have hx := List.getElem?_eq_getElem hi
    obtain ⟨u', hu', ru⟩ := rv.get hx
    rw [hu] at hu'
    cases hu'
    obtain ⟨t, ht, hR, p, e, hS⟩ := paired_at hp hx
    rw [e] at ru
    cases ru
    exact ⟨_, t, p, hx, ht, hR, e, rfl, tupInts_of (P := X.prog) (w := X.w) (I.isT hS)⟩
  have hv : ∀ v ∈ its, ∃ ns, TS.TupInts s.heap v ns ∧ ns.length = m := fun v hm' => by
    obtain ⟨i, hi⟩ := List.mem_iff_getElem?.mp hm'
    obtain ⟨x, t, p, h1, h2, _, _, _, h3⟩ := item i v hi
    exact ⟨t, h3, hl t (List.mem_of_getElem? h2)⟩
  have ets : its.map (TS.intsOf s.heap) = ts := by
    refine List.ext_getElem? fun i => ?_
    rw [List.getElem?_map]
    cases hu : its[i]? with
    | none =>
      have : ¬ i < its.length := fun z => by
        rw [List.getElem?_eq_getElem z] at hu
        cases hu
      rw [List.getElem?_eq_none (by omega)]
      rfl
    | some u =>
      obtain ⟨x, t, p, _, h2, _, _, _, h3⟩ := item i u hu
      rw [h2, Option.map_some, h3.ints]
  refine SrtO.sorted_ord (swo_T s.heap) hL.isList (by rw [← rv.length]; exact hz) (fun h2 h₁ a' ha kk => ?_) fun out o1 o2 => ?_
  · have kp : ∀ b o, s.heap.get? b = some o → o.cls = .type "tuple" → h₁.get? b = some o := fun b o e _ => (kk b o e).2
    have hS := tups_sortable (prog := X.prog) (w := X.w) (A := X.A.in1.in1) (s := { s with heap := h₁ }) (a := a') (hm (by rw [← hlen]; exact h2)) h2 (fun v hm' => by
      obtain ⟨ns, t, l⟩ := hv v hm'
      exact ⟨ns, t.keeps kp, l⟩) fun o e => by
        have e' : some o = some (seqObj "list" its.toArray 0) := e.symm.trans ha
        cases e'
        intro c
        exact absurd (Value.type.inj c) (by decide)
    intro h' keep
    obtain ⟨κ, k1, k2⟩ := hS h' keep
    refine ⟨κ, k1, fun p q hp hq => ?_⟩
    have z := k2 p q hp hq
    obtain ⟨ns, t1, l1⟩ := hv _ hp
    obtain ⟨ms, t2, l2⟩ := hv _ hq
    have e : SrtO.lt2 (ltT h₁) p q = SrtO.lt2 (ltT s.heap) p q := by
      show lexI (TS.intsOf h₁ p.1) (TS.intsOf h₁ q.1) = lexI (TS.intsOf s.heap p.1) (TS.intsOf s.heap q.1)
      rw [t1.ints, t2.ints, (t1.keeps kp).ints, (t2.keeps kp).ints]
    rw [← e]
    exact z
  · obtain ⟨ep, he'⟩ := sortedAll_at s.heap its out.toArray
    have pm := o2.perm
    have refs : ∀ u ∈ out, ∃ p, u = Value.ref p := fun u hu => by
      obtain ⟨i, hi⟩ := List.mem_iff_getElem?.mp (pm.mem_iff.mp hu)
      obtain ⟨x, t, p, _, _, _, _, h3, _⟩ := item i u hi
      exact ⟨p, h3⟩
    have hzl : (out.map bkV).length ≤ sizeLine := by
      rw [List.length_map, pm.length_eq, ← rv.length]
      exact hz
    have hpr : Paired R (out.map bkV) (out.map (TS.intsOf s.heap)) := by
      have : ∀ l : List Value, (∀ u ∈ l, u ∈ its) → Paired R (l.map bkV) (l.map (TS.intsOf s.heap)) := by
        intro l
        induction l with
        | nil => intro _; exact .nil
        | cons u l ih =>
          intro hl
          obtain ⟨i, hi⟩ := List.mem_iff_getElem?.mp (hl u List.mem_cons_self)
          obtain ⟨x, t, p, _, _, hR, e1, e2, h3⟩ := item i u hi
          refine .cons ?_ (ih fun v hv' => hl v (List.mem_cons_of_mem _ hv'))
          rw [h3.ints, e2]
          show R (V.ref p) t
          rw [← e1]
          exact hR
      exact this out fun u hu => pm.mem_iff.mp hu
    refine ⟨.ref _, upd H (s.heap.objs.size + 1) (.lst (out.map bkV)), I.laid (t' := s.toks) (fun _ _ => sortedAll_old) (Nat.le_succ _) ⟨hzl, out, ep, bkV_vals refs, he'⟩, rfl, q _ _ _ hpr ?_ ?_ (I.hok.fresh (Nat.le_succ _))⟩
    · have := pm.map (TS.intsOf s.heap)
      rwa [ets] at this
    · exact List.pairwise_map.mpr o1
end
def pSortT (g : Px) : Px := ⟨fun ρ k => g.f ρ fun d ρ1 => ∃ (m : Nat) (ts : List (List Int)), d = lti ts ∧ (∀ t ∈ ts, t.length = m) ∧ (2 ≤ ts.length → 1 ≤ m) ∧ ∀ ts' : List (List Int), ts'.Perm ts → ts'.Pairwise (fun a b => lexI b a = false) → k (lti ts') ρ1,
  fun h => by
    refine g.mono ?_
    rintro d ρ1 ⟨m, ts, a, b, c, q⟩
    exact ⟨m, ts, a, b, c, fun ts' p1 p2 => h _ _ (q ts' p1 p2)⟩⟩
theorem dvs_lti {L : Ly} {G H : Hp} (s : Same G H) : ∀ {xs : List V} {ts : List (List Int)}, DvAll L G xs (ts.map ti) → Paired (fun x t => Dv L G x (ti t) ∧ TupV L.K H x t) xs ts
  | _, [], .nil => .nil
  | _, t :: ts, .cons h r => by
    refine .cons ⟨h, ?_⟩ (dvs_lti s r)
    obtain ⟨a, ys, rfl, hs, ha⟩ := dv_tup h
    rw [dvs_intsV ha] at hs
    exact ⟨a, rfl, same_sqt s hs⟩
theorem lti_dvs {L : Ly} {G : Hp} : ∀ {xs : List V} {ts : List (List Int)}, Paired (fun x t => Dv L G x (ti t)) xs ts → DvAll L G xs (ts.map ti)
  | _, _, .nil => .nil
  | _, _, .cons h r => .cons h (lti_dvs r)
theorem w_sortT {X : Cx} {L : Ly} {e : Expr} {g : Px} (p : PE X e (tCB (rSortedTL L.K) (tCons (tW L g) tNil))) : PE X e (tW L (pSortT g)) := PE.imp p fun σ H Q ⟨B, G, ρ, r, h⟩ => by
  refine ⟨B, G, ρ, r, g.mono ?_ h⟩
  rintro d ρ1 ⟨m, ts, rfl, h1, h2, q⟩ v G1 H1 r1 s1 d1
  obtain ⟨a, xs, rfl, hs, ha⟩ := dv_lst d1
  refine ⟨fun x t => Dv L G1 x (ti t), m, a, xs, ts, rfl, .inl (.inl (r1.gh _ _ hs)), dvs_lti r1.gh ha, h1, h2, fun zs ts' p hz p1 p2 hp => ?_⟩
  have s2 := same_upd (r1.gh.free hp) (o := .lst zs)
  exact q ts' p1 p2 _ _ _ (r1.lay hp) (s1.trans s2) (.lst upd_same (dvs_same s2 (lti_dvs hz)))
end Fw
namespace Fv
/-! # a sketch made freer -/
theorem lexS_sorted {a b : List (List Int)} (hp : a.Perm b) (hs : a.Pairwise fun x y => lexI y x = false) (hn : b.Nodup) : LexS a := by
  have na : a.Nodup := hp.nodup_iff.mpr hn
  refine List.Pairwise.imp₂ (fun {x y} h1 h2 => ?_) hs na
  cases h : lexI x y with
  | true => rfl
  | false => exact absurd (lexI_tri h h1) h2
theorem sk_freer {n m : Nat} {bs a : List (List Int)} {lot : List Int} (S : Sk n m bs) (hl : lot ∈ freerL n m bs) (hp : a.Perm (bs ++ [lot])) (hs : a.Pairwise fun x y => lexI y x = false) : Sk n m a := by
  obtain ⟨l1, l2⟩ := List.mem_filter.mp hl
  obtain ⟨l3, l4, l5⟩ := mem_lots.mp l1
  have hno : lot ∉ bs := by
    unfold freerOk at l2
    rw [Bool.and_eq_true, Bool.and_eq_true] at l2
    exact of_decide_eq_true l2.1.1
  have hex := freer_ex S.bases (fun b hb => (mem_lots.mp (S.mem b hb)).2.2) l3 l4 l2
  have nd : (bs ++ [lot]).Nodup := List.nodup_append.mpr ⟨lexS_nd S.srt, by simp, fun x hx y hy e => hno (by rw [← List.mem_singleton.mp hy, ← e]; exact hx)⟩
  have hm : ∀ x, x ∈ a ↔ x ∈ bs ++ [lot] := fun x => hp.mem_iff
  refine ⟨S.n8, S.le, fun e => ?_, fun b hb => ?_, lexS_sorted hp hs nd, fun one h1 other h2 item h3 => ?_⟩
  · subst e
    have := (hm lot).mpr (List.mem_append.mpr (.inr (List.mem_singleton.mpr rfl)))
    cases this
  · rcases List.mem_append.mp ((hm b).mp hb) with z | z
    · exact S.mem b z
    · rw [List.mem_singleton.mp z]
      exact l1
  · obtain ⟨t, t1, t2⟩ := hex one ((hm one).mp h1) other ((hm other).mp h2) item h3
    exact ⟨t, t1, (hm _).mpr t2⟩
theorem sk_len {n m : Nat} {bs : List (List Int)} (S : Sk n m bs) : bs.length ≤ 70 := by
  have h := nd_lenA (lexS_nd S.srt) S.mem
  have key : ∀ n ∈ List.range 9, ∀ m ∈ List.range 9, (lotsL (rangeI n) m).length ≤ 70 := by decide +kernel
  have := key n (List.mem_range.mpr (by have := S.n8; omega)) m (List.mem_range.mpr (by have := S.n8; have := S.le; omega))
  omega
open PySem PySem.Spec PyProof.Rows L2 Fr Fw
section
variable {P : Program} {w : World} {L : Ly} {mg : Str → Option Value} {base : Heap} {f : Addr} {fd : FuncData} {T : List (Addr × Str)}
/-! ### _law_drawn_sketch -/
abbrev s_law_drawn_sketch : Stmt := topS 55
theorem sc_law_drawn_sketch : FnScope ["draw", "size", "way", "places_here", "field", "sketch", "some", "~"] ["draw", "size"] (C8.fnScope s_law_drawn_sketch) := C8.fnScope_by (by decide +kernel)
def fDrawn : Pf := ⟨fun xs k => ∃ n : Nat, xs = [.int n] ∧ n ≤ 8 ∧ ∀ m bs, Sk n m bs → k (skD n bs), fun h ⟨n, e, a, q⟩ => ⟨n, e, a, fun m bs s => h _ (q m bs s)⟩⟩
theorem ok_law_drawn_sketch (Fd : C8.Def L.K mg "_law_drawn_sketch" s_law_drawn_sketch f fd) (b : Binds L.K fd ["draw", "size"] []) (B : Bw mg)
    (c_law_take : CalG P w L.K mg base C8.CX0 2 "_law_take" (spD L fTake)) (c_law_pick : CalG P w L.K mg base C8.CX0 3 "_law_pick" (spD L fPick)) (c_law_lots : CalG P w L.K mg base C8.CX0 1 "_law_lots" (spF L fLots))
    (c_law_ties : CalG P w L.K mg base C8.CX0 3 "_law_ties" (spD L fTies)) (c_law_rows : CalG P w L.K mg base C8.CX0 3 "_law_rows" (spD L fRows)) (c_law_can_be_freer : CalG P w L.K mg base C8.CX0 4 "_law_can_be_freer" (spF L fFree))
    (c_law_table_sketch : CalG P w L.K mg base C8.CX0 5 "_law_table_sketch" (spT L T fTab)) (c_law_web_sketch : CalG P w L.K mg base C8.CX0 5 "_law_web_sketch" (spT L T fWeb)) :
    CalG P w L.K mg base C8.CX0 6 "_law_drawn_sketch" (spDT L T fDrawn) := by
  have sc := sc_law_drawn_sketch
  refine calDT (n := 5) Fd b sc ?_ (fun v vs h => ?_) fun cdv A outer s H E hcd hr hgu => ?_
  · rintro ds k ⟨n, rfl, _⟩
    rfl
  · rw [start_eq (n := 6) (by show 8 = (vs.length + 1) + 6; rw [h]; rfl)]
    rfl
  refine ⟨_, w_seq (w_set (ps_set (i := 2) sc.nd rfl (by first | exact Or.inl rfl | exact Or.inr rfl) (w_callD c_law_take hr (by decide) hgu rfl (pv 0) (w_cons (w_int (kd := 0) pe_int) w_nil))))
  (w_seq (w_if (ps_if (w_cmpT (op_eqD hr.units) snd_eq (w_v (pv 2)) (w_int (kd := 0) pe_int) (nomark _))
   (w_one (w_ret (ps_ret (w_tup (w_cons (w_v (pv 1)) (w_cons (w_call c_law_lots hr (by decide) hgu rfl (w_cons (w_listRg (pe_listRg rfl (by rfl) B.list (prg_1 (by rfl) B.range (w_v (pv 1))))) (w_cons (w_callD c_law_take hr (by decide) hgu rfl (pv 0) (w_cons (w_op op_add snd_add (w_v (pv 1)) (w_int (kd := 0) pe_int)) w_nil)) w_nil))) w_nil))))))
   (w_snil pss_nil)))
  (w_seq (w_if (ps_if (w_cmpT (op_eqD hr.units) snd_eq (w_v (pv 2)) (w_int (kd := 0) pe_int) (nomark _))
   (w_seq (w_set (ps_set (i := 3) sc.nd rfl (by first | exact Or.inl rfl | exact Or.inr rfl) (w_op op_add snd_add (w_int (kd := 0) pe_int) (w_callD c_law_take hr (by decide) hgu rfl (pv 0) (w_cons (w_int (kd := 0) pe_int) w_nil)))))
    (w_one (w_ret (ps_ret (w_callT c_law_web_sketch hr (by decide) hgu rfl (w_cons (w_v (pv 3)) (w_cons (w_callD c_law_ties hr (by decide) hgu rfl (pv 0) (w_cons (w_v (pv 3)) (w_cons (w_v (pv 1)) w_nil))) w_nil)))))))
   (w_snil pss_nil)))
  (w_seq (w_set (ps_set (i := 4) sc.nd rfl (by first | exact Or.inl rfl | exact Or.inr rfl) (w_callD c_law_pick hr (by decide) hgu rfl (pv 0) (w_cons (w_lst (w_cons (w_int (kd := 0) pe_int) (w_cons (w_int (kd := 0) pe_int) (w_cons (w_int (kd := 0) pe_int) (w_cons (w_int (kd := 0) pe_int) (w_cons (w_int (kd := 0) pe_int) w_nil)))))) w_nil))))
  (w_seq (w_set (ps_set (i := 5) sc.nd rfl (by first | exact Or.inl rfl | exact Or.inr rfl) (w_callT c_law_table_sketch hr (by decide) hgu rfl (w_cons (w_v (pv 4)) (w_cons (w_callD c_law_rows hr (by decide) hgu rfl (pv 0) (w_cons (w_v (pv 4)) (w_cons (w_v (pv 1)) (w_cons (w_callD c_law_pick hr (by decide) hgu rfl (pv 0) (w_cons (w_lst (w_cons (w_int (kd := 0) pe_int) (w_cons (w_int (kd := 0) pe_int) (w_cons (w_int (kd := 0) pe_int) (w_cons (w_int (kd := 0) pe_int) (w_cons (w_int (kd := 0) pe_int) w_nil)))))) w_nil)) w_nil)))) w_nil)))))
  (w_seq (w_set (ps_set (i := 6) sc.nd rfl (by first | exact Or.inl rfl | exact Or.inr rfl) (w_ifExp (w_cmpT (op_eqD hr.units) snd_eq (w_v (pv 2)) (w_int (kd := 0) pe_int) (nomark _)) (w_call c_law_can_be_freer hr (by decide) hgu rfl (w_cons (w_v (pv 5)) w_nil)) (w_lst w_nil))))
  (w_one (w_ret (ps_ret (w_ifExp (w_cmpT (op_neD hr.units) snd_ne (w_v (pv 6)) (w_lst w_nil) (nomark _))
    (w_tup (w_cons (w_v (pv 1)) (w_cons (w_sortT (pe_callB cr_sortedTL (by rfl) B.sorted (by decide +kernel) (pa_cons (w_op op_cat snd_cat (w_ix ix_tup snd_ixT (w_v (pv 5)) (w_int (kd := 0) pe_int) (fun _ _ => rfl)) (w_lst (w_cons (w_callD c_law_pick hr (by decide) hgu rfl (pv 0) (w_cons (w_v (pv 6)) w_nil)) w_nil))) pa_nil))) w_nil)))
    (w_v (pv 5))))))))))), ?_⟩
  rintro d l c ds kk ⟨n, rfl, hn, k⟩
  have hI : (rangeI n).length ≤ 8 := by rw [len_rangeI]; exact hn
  have hd : ∀ ρ : En, some (Sl.drw d l c) ∈ some (Sl.drw d l c) :: ρ := fun _ => List.mem_cons_self
  refine ⟨d, l, c, rfl, hd _, 5, rfl, by decide, by decide +kernel, fun way w0 w1 => ?_⟩
  refine ⟨_, rfl, .int way, .int 0, rfl, rfl, rfl, rfl, _, rfl, bite (fun h0 => ?_) fun h0 => ?_⟩
  · refine ⟨_, rfl, _, rfl, (n : Int), rfl, by omega, by omega, d, l, c, rfl, _, rfl, _, _, rfl, rfl, trivial, hd _, ((n : Int) + 1), rfl, by omega, log2_1000 (by omega) (by omega), fun r r0 r1 => ?_⟩
    refine ⟨rangeI n, r.toNat, ?_, hI, by omega, (by decide : 2 ≤ sizeLine), hd _, k r.toNat _ (sk_even hn (by omega))⟩
    have e : r = ((r.toNat : Nat) : Int) := by omega
    show [Da.lst (rgD 0 n), Da.int r] = _
    rw [rgD_I, ← e]
  · refine ⟨_, rfl, .int way, .int 1, rfl, rfl, rfl, rfl, _, rfl, bite (fun h1 => ?_) fun h1 => ?_⟩
    · refine ⟨d, l, c, rfl, hd _, 4, rfl, by decide, by decide +kernel, fun r r0 r1 => ⟨_, _, rfl, rfl, trivial, ?_⟩⟩
      refine ⟨_, rfl, d, l, c, rfl, _, rfl, _, rfl, hd _, 2 + r, n, rfl, by omega, by omega, hn, fun ts t1 t2 => ?_⟩
      have e : (2 + r : Int) = (((2 + r).toNat : Nat) : Int) := by omega
      refine ⟨List.mem_of_getElem? (i := 7) rfl, ((2 + r).toNat, ts), ?_, ⟨by show 0 < (2 + r).toNat; omega, by show (2 + r).toNat ≤ 8; omega, by show ts.length ≤ 8; omega, ?_⟩, fun m bs S => ⟨hd _, ?_⟩⟩
      · show [Da.int (2 + r), Da.lst (ts.map tieD)] = [Da.int (((2 + r).toNat : Nat) : Int), Da.lst (ts.map tieD)]
        rw [← e]
      · show TiesOk (2 + r).toNat ts
        intro t ht
        rw [← e]
        exact t2 t ht
      · have S : Sk ts.length m bs := S
        rw [t1] at S
        show kk (skD ts.length bs)
        rw [t1]
        exact k m bs S
    · refine ⟨d, l, c, rfl, (by decide : 5 ≤ sizeLine), hd _, [.int 2, .int 3, .int 5, .int 2, .int 7], rfl, by simp, by decide, fun fld hf => ?_⟩
      obtain ⟨p, hp, rfl⟩ : ∃ p : Nat, Pr p ∧ fld = .int p := by
        simp only [List.mem_cons, List.not_mem_nil, or_false] at hf
        rcases hf with rfl | rfl | rfl | rfl | rfl
        · exact ⟨2, .inl rfl, rfl⟩
        · exact ⟨3, .inr (.inl rfl), rfl⟩
        · exact ⟨5, .inr (.inr (.inl rfl)), rfl⟩
        · exact ⟨2, .inl rfl, rfl⟩
        · exact ⟨7, .inr (.inr (.inr rfl)), rfl⟩
      have hpb := pr_le hp
      have hpp := hp.pos
      refine ⟨_, rfl, d, l, c, rfl, _, rfl, _, rfl, d, l, c, rfl, (by decide : 5 ≤ sizeLine), hd _, [.int 3, .int 2, .int 4, .int 3, .int 3], rfl, by simp, by decide, fun wd hw => ?_⟩
      obtain ⟨q, hq, rfl⟩ : ∃ q : Nat, q ≤ 8 ∧ wd = .int q := by
        simp only [List.mem_cons, List.not_mem_nil, or_false] at hw
        rcases hw with rfl | rfl | rfl | rfl | rfl
        · exact ⟨3, by decide, rfl⟩
        · exact ⟨2, by decide, rfl⟩
        · exact ⟨4, by decide, rfl⟩
        · exact ⟨3, by decide, rfl⟩
        · exact ⟨3, by decide, rfl⟩
      refine ⟨hd _, p, n, q, rfl, by omega, by omega, hn, hq, fun rows r1 r2 => ?_⟩
      refine ⟨List.mem_of_getElem? (i := 7) rfl, (p, q, rows), rfl, ⟨hp, by show rows.length ≤ 8; omega, hq, fun r hr => (r2 r hr).1⟩, fun m bs S => ?_⟩
      have S : Sk rows.length m bs := S
      show (sSeq _ _).f _ _ _ _ _
      rw [r1] at S
      have en : ((p, q, rows) : Tz).2.2.length = n := r1
      rw [en]
      refine ⟨_, rfl, .int way, .int 4, rfl, rfl, rfl, rfl, _, rfl, bite (fun h4 => ?_) fun h4 => ?_⟩
      · have hl := sk_len S
        refine ⟨_, rfl, n, m, bs, rfl, hn, S.ne, by omega, by have := S.le; omega, fun b hb => (mem_lots.mp (S.mem b hb)).2.1, ?_⟩
        refine ⟨_, rfl, by decide, _, _, py_lti (freerL n m bs), rfl, shaped_lti _, shaped_lti [], _, rfl, bite (fun h5 => ?_) fun h5 => ?_⟩
        · rw [eqv_listN] at h5
          have hne : freerL n m bs ≠ [] := fun e => by
            rw [e] at h5
            cases h5
          have hfl : (freerL n m bs).length ≤ 1000000 := by
            have h1 := List.length_filter_le (freerOk n bs) (lotsL (rangeI n) m)
            have h2 := sk_len (sk_even hn S.le)
            have h3 : (freerL n m bs).length = ((lotsL (rangeI n) m).filter (freerOk n bs)).length := rfl
            omega
          refine ⟨_, rfl, _, rfl, [.int n, lti bs], (1 : Int), lti bs, rfl, rfl, Fw.atI_nat (j := 1) rfl, d, l, c, rfl, _, rfl, hd _, (freerL n m bs).map ti, rfl, by simpa using hne, by rw [List.length_map]; exact hfl, fun z hz => ?_⟩
          obtain ⟨lot, hlot, rfl⟩ := List.mem_map.mp hz
          refine ⟨(by decide : 1 ≤ sizeLine), bs.map ti, [ti lot], rfl, rfl, ?_, m, bs ++ [lot], ?_, ?_, ?_, fun ts' p1 p2 => ⟨(by decide : 2 ≤ sizeLine), hd _, k m _ (sk_freer S hlot p1 p2)⟩⟩
          · rw [List.length_map]
            exact Nat.le_trans (by simp only [List.length_singleton]; omega : bs.length + [ti lot].length ≤ 71) (by decide)
          · rw [lti, List.map_append]
            rfl
          · intro t ht
            rcases List.mem_append.mp ht with z | z
            · exact (mem_lots.mp (S.mem t z)).2.1
            · rw [List.mem_singleton.mp z]
              exact (mem_lots.mp (List.mem_filter.mp hlot).1).2.1
          · intro h2
            rcases Nat.eq_zero_or_pos m with e0 | hpos
            · exfalso
              subst e0
              have hno : lot ∉ bs := by
                have l2 := (List.mem_filter.mp hlot).2
                unfold freerOk at l2
                rw [Bool.and_eq_true, Bool.and_eq_true] at l2
                exact of_decide_eq_true l2.1.1
              obtain ⟨b0, hb0⟩ := List.exists_mem_of_ne_nil bs S.ne
              have e1 : b0 = [] := List.eq_nil_of_length_eq_zero (mem_lots.mp (S.mem b0 hb0)).2.1
              have e2 : lot = [] := List.eq_nil_of_length_eq_zero (mem_lots.mp (List.mem_filter.mp hlot).1).2.1
              rw [e2, ← e1] at hno
              exact hno hb0
            · exact hpos
        · exact ⟨_, rfl, hd _, k m bs S⟩
      · refine ⟨by decide, _, rfl, by decide, _, _, rfl, rfl, rfl, rfl, _, rfl, bite (fun h5 => by cases h5) fun h5 => ⟨_, rfl, hd _, k m bs S⟩⟩
end
end Fv
namespace Fv
open PySem PySem.Spec PyProof.Rows L2 Fr Fw
section
variable {P : Program} {w : World} {L : Ly} {mg : Str → Option Value} {base : Heap} {f : Addr} {fd : FuncData} {T : List (Addr × Str)}
/-! ### _law_sketch -/
abbrev s_law_sketch : Stmt := topS 56
theorem sc_law_sketch : FnScope ["draw", "most", "~"] ["draw", "most"] (C8.fnScope s_law_sketch) := C8.fnScope_by (by decide +kernel)
def fSketch : Pf := ⟨fun xs k => ∃ m : Nat, xs = [.int m] ∧ m ≤ 8 ∧ ∀ n j bs, n ≤ m → Sk n j bs → k (skD n bs), fun h ⟨m, e, a, q⟩ => ⟨m, e, a, fun n j bs z s => h _ (q n j bs z s)⟩⟩
theorem ok_law_sketch (Fd : C8.Def L.K mg "_law_sketch" s_law_sketch f fd) (b : Binds L.K fd ["draw", "most"] []) (B : Bw mg)
    (c_law_take : CalG P w L.K mg base C8.CX0 2 "_law_take" (spD L fTake)) (c_law_drawn_sketch : CalG P w L.K mg base C8.CX0 6 "_law_drawn_sketch" (spDT L T fDrawn)) :
    CalG P w L.K mg base C8.CX0 7 "_law_sketch" (spDT L T fSketch) := by
  have sc := sc_law_sketch
  refine calDT (n := 0) Fd b sc ?_ (fun v vs h => ?_) fun cdv A outer s H E hcd hr hgu => ?_
  · rintro ds k ⟨n, rfl, _⟩
    rfl
  · rw [start_eq (n := 1) (by show 3 = (vs.length + 1) + 1; rw [h]; rfl)]
    rfl
  refine ⟨_, w_one (w_ret (ps_ret (w_callDT c_law_drawn_sketch hr (by decide) hgu rfl (pv 0) (w_cons (w_callD c_law_take hr (by decide) hgu rfl (pv 0) (w_cons (w_op op_add snd_add (w_v (pv 1)) (w_int (kd := 0) pe_int)) w_nil)) w_nil)))), ?_⟩
  rintro d l c ds kk ⟨m, rfl, hm, k⟩
  have hd : ∀ ρ : En, some (Sl.drw d l c) ∈ some (Sl.drw d l c) :: ρ := fun _ => List.mem_cons_self
  refine ⟨d, l, c, rfl, d, l, c, rfl, _, rfl, _, _, rfl, rfl, trivial, hd _, ((m : Int) + 1), rfl, by omega, log2_1000 (by omega) (by omega), fun r r0 r1 => ?_⟩
  have e : r = ((r.toNat : Nat) : Int) := by omega
  refine ⟨hd _, List.mem_of_getElem? (i := 2) rfl, r.toNat, ?_, by omega, fun j bs S => ⟨hd _, k _ j bs (by omega) S⟩⟩
  show [Da.int r] = _
  rw [← e]
end
end Fv
namespace Fw
open PySem PySem.Spec PyProof.Rows L2 Fr
/-! # isinstance, `and`, `not` as values, comparisons in a row -/
def kvI (ks : List Int) : List (Key × V) := ks.map fun i => (.inl i, .bl true)
def ObKeys (H : Hp) (v : V) (vs : List V) : Prop := ∃ (a : Addr) (od : Obj) (ks : List Int), v = .ref a ∧ H a = some (.frz od (.dK (kvI ks))) ∧ vs = ks.map V.int
def ObEmp (H : Hp) (v : V) (vs : List V) : Prop := ∃ (a : Addr) (kvs : List (Key × V)), v = .ref a ∧ H a = some (.dK kvs) ∧ vs = []
structure LyK (L : Ly) : Prop where
  keys : ∀ {H v vs}, L.Ob 3 H v vs ↔ ObKeys H v vs
  emp : ∀ {H v vs}, L.Ob 0 H v vs ↔ ObEmp H v vs
def tyD : Da → Option String
  | .non => some "NoneType"
  | .bl _ => some "bool"
  | .int _ => some "int"
  | .str _ => some "str"
  | .lst _ => some "list"
  | .tup _ => some "tuple"
  | .obj 0 _ => some "dict"
  | .obj .. => none
section
variable {X : Cx} {L : Ly} {e a b c : Expr} {es : List Expr} {pos : Pos}
theorem dv_ty (LK : LyK L) {G : Hp} {v : V} {d : Da} {T : String} (h : Dv L G v d) (q : tyD d = some T) : TyX L.K G v (.type T) := by
  cases h with
  | non => cases q; exact .base .non
  | bl b => cases q; exact .base (.bl b)
  | int i => cases q; exact .base (.int i)
  | str x => cases q; exact .base (.str x)
  | lst h t => cases q; exact .base (.lst h)
  | tup h t =>
    cases q
    rcases h with (h | ⟨o, h⟩) | ⟨o, its, n, k, cl, _⟩
    · exact .base (.tup h)
    · exact .fTuple h
    · exact .kTuple k cl
  | @obj n v xs ds h t =>
    cases n with
    | zero =>
      cases q
      obtain ⟨a, kvs, rfl, e, _⟩ := LK.emp.mp h
      exact .base (.dK e)
    | succ n => cases q
def pIsi (A : Da → Bool → Prop) (g : Px) : Px := ⟨fun ρ k => g.f ρ fun d ρ1 => ∃ b, A d b ∧ k (.bl b) ρ1, fun h => g.mono fun _ _ ⟨b, e, q⟩ => ⟨b, e, h _ _ q⟩⟩
/-- what isinstance answers of a class u -/
def IsA (L : Ly) (u : Value) (A : Da → Bool → Prop) : Prop := ∀ {G : Hp} {v : V} {d : Da} {b : Bool}, A d b → Dv L G v d → ∃ t, TyX L.K G v t ∧ PySem.W.kitOne L.K t u = some b
theorem w_isi {cv : V} {u : Value} {A : Da → Bool → Prop} {g : Px} (kc : ClsV cv u) (hA : IsA L u A) (p : PE X e (tCB (rIsi L.K) (tCons (tW L g) (tCons (tC cv) tNil)))) : PE X e (tW L (pIsi A g)) :=
  PE.imp p fun σ H Q ⟨B, G, ρ, r, h⟩ => ⟨B, G, ρ, r, g.mono (fun d ρ1 ⟨b, ha, h1⟩ v G1 H1 r1 s1 d1 => by
    obtain ⟨t, ty, q⟩ := hA ha (dv_same r1.gh d1)
    exact ⟨v, cv, t, u, b, rfl, kc, ty, q, h1 _ _ _ r1 s1 (.bl b)⟩) h⟩
/-- a built-in class T -/
def tyIs (T : String) (d : Da) (b : Bool) : Prop := ∃ t, tyD d = some t ∧ kitB t T = some b
theorem isA_ty (LK : LyK L) {T : String} : IsA L (.type T) (tyIs T) := fun ⟨t, h, q⟩ dv => ⟨.type t, dv_ty LK dv h, kit_ty q⟩
def pIsT (A : Da → Bool → Prop) (g : Px) : Px := pIsi A g
/-- isinstance(x, (A, B)) of built-in classes -/
theorem w_isiT {cs : List V} {us : List Value} {A : Da → Bool → Prop} {g : Px} (kc : Paired ClsV cs us) (hl : cs.length ≤ sizeLine) (hA : ∀ {G : Hp} {v : V} {d : Da} {b : Bool}, A d b → Dv L G v d → ∃ t, TyX L.K G v t ∧ PySem.W.kitAny L.K t us = some b)
    {ta : TA} (hta : ∀ σ H Q, Q cs H → ta σ H Q) (p : PE X e (tCB (rIsiT L.K) (tCons (tW L g) (tCons (tTup ta) tNil)))) : PE X e (tW L (pIsi A g)) :=
  PE.imp p fun σ H Q ⟨B, G, ρ, r, h⟩ => ⟨B, G, ρ, r, g.mono (fun d ρ1 ⟨b, ha, h1⟩ v G1 H1 r1 s1 d1 => by
    refine hta _ _ _ ⟨hl, fun p hp => ?_⟩
    have s2 := same_upd (o := .tup cs) hp
    obtain ⟨t, ty, q⟩ := hA ha (dv_same s2 (dv_same r1.gh d1))
    exact ⟨v, p, cs, t, us, b, rfl, upd_same, kc, ty, q, h1 _ _ _ (r1.lay hp) (s1.trans (same_upd (r1.gh.free hp))) (.bl b)⟩) h⟩
/-! ## and, not -/
def pAndE (g g' : Px) : Px := ⟨fun ρ k => g.f ρ fun d ρ1 => ∃ b, d = .bl b ∧ if b = true then g'.f ρ1 k else k (.bl false) ρ1, fun h => g.mono fun _ _ ⟨b, e, z⟩ => ⟨b, e, by
  cases b with
  | true => exact g'.mono h z
  | false => exact h _ _ z⟩⟩
theorem w_andE {g g' : Px} (p : PE X e (tAndV (tW L g) (tW L g'))) : PE X e (tW L (pAndE g g')) := PE.imp p fun σ H Q ⟨B, G, ρ, r, h⟩ =>
  ⟨B, G, ρ, r, g.mono (fun d ρ1 ⟨b, q, h1⟩ v G1 H1 r1 s1 d1 => by
    subst q
    cases d1
    refine ⟨b, rfl, ?_⟩
    cases b with
    | true => exact ⟨B, G1, ρ1, r1, g'.mono (fun d2 ρ2 h2 v2 G2 H2 r2 s2 d2 => h2 v2 G2 H2 r2 (s1.trans s2) d2) h1⟩
    | false => exact h1 _ _ _ r1 s1 (.bl false)) h⟩
def pNotE (g : Px) : Px := ⟨fun ρ k => g.f ρ fun d ρ1 => ∃ b, d = .bl b ∧ k (.bl (!b)) ρ1, fun h => g.mono fun _ _ ⟨b, e, z⟩ => ⟨b, e, h _ _ z⟩⟩
theorem w_notE {g : Px} (p : PE X e (tNotV (tW L g))) : PE X e (tW L (pNotE g)) := PE.imp p fun σ H Q ⟨B, G, ρ, r, h⟩ =>
  ⟨B, G, ρ, r, g.mono (fun d ρ1 ⟨b, q, h1⟩ v G1 H1 r1 s1 d1 => by
    subst q
    cases d1
    exact ⟨b, rfl, h1 _ _ _ r1 s1 (.bl _)⟩) h⟩
/-! ## a <= b <= c -/
def pCh (r r' : R2p) (ga gb gc : Px) : Px := ⟨fun ρ k => ga.f ρ fun x ρ1 => gb.f ρ1 fun y ρ2 => r.f x y fun z => ∃ t, z = .bl t ∧ if t = true then gc.f ρ2 fun u ρ3 => r'.f y u fun z' => k z' ρ3 else k (.bl false) ρ2,
  fun h => ga.mono fun _ _ => gb.mono fun _ _ => r.mono fun _ ⟨t, e, z⟩ => ⟨t, e, by
    cases t with
    | true => exact gc.mono (fun _ _ => r'.mono fun _ => h _ _) z
    | false => exact h _ _ z⟩⟩
theorem w_chain {R R' : R2} {r r' : R2p} {ga gb gc : Px} (hs : Snd2 L R r) (hs' : Snd2 L R' r') (p : PE X e (tChain R R' (tW L ga) (tW L gb) (tW L gc))) : PE X e (tW L (pCh r r' ga gb gc)) :=
  PE.imp p fun σ H Q ⟨B, G, ρ, r0, h⟩ => ⟨B, G, ρ, r0, ga.mono (fun x ρ1 h1 v G1 H1 r1 s1 d1 => ⟨B, G1, ρ1, r1, gb.mono (fun y ρ2 h2 u G2 H2 r2 s2 d2 => by
    refine hs r2 (dv_same s2 d1) d2 (r.mono (fun z ⟨t, q, h3⟩ w G3 H3 r3 s3 d3 => ?_) h2)
    subst q
    cases d3
    refine ⟨t, rfl, ?_⟩
    cases t with
    | true =>
      refine ⟨B, G3, ρ2, r3, gc.mono (fun u' ρ4 h4 v4 G4 H4 r4 s4 d4 => hs' r4 (dv_same s4 (dv_same s3 d2)) d4 (r'.mono (fun z' h5 w5 G5 H5 r5 s5 d5 => h5 w5 G5 H5 r5 (s1.trans (s2.trans (s3.trans (s4.trans s5)))) d5) h4)) h3⟩
    | false => exact h3 _ _ _ r3 (s1.trans (s2.trans s3)) (.bl false)) h1⟩) h⟩
/-! ## a value at once that is a class's own or the module's number -/
theorem w_glb {x : Str} {d : Da} {v : V} {u : Value} (hd : ∀ H, Dv L H v d) (p : PE X e (tC v)) : PE X e (tW L (pC d)) := tW_C hd p
end
end Fw
namespace Fv
open PySem PySem.Spec PyProof.Rows L2 Fr Fw
/-- more of the built-ins -/
structure Bx (mg : Str → Option Value) : Prop where
  isinstance : mg "isinstance" = none
  bool : mg "bool" = none
  all : mg "all" = none
  repr : mg "repr" = none
  min : mg "min" = none
section
variable {P : Program} {w : World} {L : Ly} {mg : Str → Option Value} {base : Heap} {f : Addr} {fd : FuncData}
/-! # kinds -/
abbrev s_is_number : Stmt := topS 5
theorem sc_is_number : FnScope ["thing"] ["thing"] (C8.fnScope s_is_number) := C8.fnScope_by (by decide +kernel)
def numB : Da → Bool
  | .int _ => true
  | _ => false
def blB : Da → Bool
  | .bl _ => true
  | _ => false
def tpB : Da → Bool
  | .tup _ => true
  | _ => false
/-- what answers b of a value of the kinds of data -/
def fB (n : Nat) (A : List Da → Option Bool) : Pf := ⟨fun xs k => ∃ b, A xs = some b ∧ k (.bl b), fun h ⟨b, e, q⟩ => ⟨b, e, h _ q⟩⟩
def aNum : List Da → Option Bool
  | [d] => (tyD d).map fun _ => numB d
  | _ => none
theorem ty_int {d : Da} {t : String} (h : tyD d = some t) : tyIs "int" d (numB d || blB d) := by
  cases d with
  | non => exact ⟨_, rfl, (by decide +kernel : kitB "NoneType" "int" = some false)⟩
  | bl b => exact ⟨_, rfl, (by decide +kernel : kitB "bool" "int" = some true)⟩
  | int i => exact ⟨_, rfl, (by decide +kernel : kitB "int" "int" = some true)⟩
  | str x => exact ⟨_, rfl, (by decide +kernel : kitB "str" "int" = some false)⟩
  | lst xs => exact ⟨_, rfl, (by decide +kernel : kitB "list" "int" = some false)⟩
  | tup xs => exact ⟨_, rfl, (by decide +kernel : kitB "tuple" "int" = some false)⟩
  | @obj n xs =>
    cases n with
    | zero => exact ⟨_, rfl, (by decide +kernel : kitB "dict" "int" = some false)⟩
    | succ n => cases h
theorem ty_bool {d : Da} {t : String} (h : tyD d = some t) : tyIs "bool" d (blB d) := by
  cases d with
  | non => exact ⟨_, rfl, (by decide +kernel : kitB "NoneType" "bool" = some false)⟩
  | bl b => exact ⟨_, rfl, (by decide +kernel : kitB "bool" "bool" = some true)⟩
  | int i => exact ⟨_, rfl, (by decide +kernel : kitB "int" "bool" = some false)⟩
  | str x => exact ⟨_, rfl, (by decide +kernel : kitB "str" "bool" = some false)⟩
  | lst xs => exact ⟨_, rfl, (by decide +kernel : kitB "list" "bool" = some false)⟩
  | tup xs => exact ⟨_, rfl, (by decide +kernel : kitB "tuple" "bool" = some false)⟩
  | @obj n xs =>
    cases n with
    | zero => exact ⟨_, rfl, (by decide +kernel : kitB "dict" "bool" = some false)⟩
    | succ n => cases h
theorem ty_tup {d : Da} {t : String} (h : tyD d = some t) : tyIs "tuple" d (tpB d) := by
  cases d with
  | non => exact ⟨_, rfl, (by decide +kernel : kitB "NoneType" "tuple" = some false)⟩
  | bl b => exact ⟨_, rfl, (by decide +kernel : kitB "bool" "tuple" = some false)⟩
  | int i => exact ⟨_, rfl, (by decide +kernel : kitB "int" "tuple" = some false)⟩
  | str x => exact ⟨_, rfl, (by decide +kernel : kitB "str" "tuple" = some false)⟩
  | lst xs => exact ⟨_, rfl, (by decide +kernel : kitB "list" "tuple" = some false)⟩
  | tup xs => exact ⟨_, rfl, (by decide +kernel : kitB "tuple" "tuple" = some true)⟩
  | @obj n xs =>
    cases n with
    | zero => exact ⟨_, rfl, (by decide +kernel : kitB "dict" "tuple" = some false)⟩
    | succ n => cases h
theorem ok_is_number (Fd : C8.Def L.K mg "is_number" s_is_number f fd) (b : Binds L.K fd ["thing"] []) (B : Bw mg) (Bx : Bx mg) (LK : LyK L) : CalG P w L.K mg base C8.CX0 1 "is_number" (spF L (fB 1 aNum)) := by
  have sc := sc_is_number
  refine calF (n := 0) Fd b sc ?_ (fun vs h => start_eq (by rw [h]; rfl)) fun cdv A outer s H E hr hgu => ?_
  · rintro ds k ⟨t, e, _⟩
    unfold aNum at e
    split at e
    · rfl
    · cases e
  refine ⟨_, w_one (w_ret (ps_ret (w_andE (pe_and (w_isi (.ty "int") (isA_ty LK) (pe_callB call_isi (by rfl) Bx.isinstance (by decide +kernel) (pa_cons (w_v (pv 0)) (pa_cons (pe_bltn (v := .ty "int") (by rfl) B.int (by decide +kernel) rfl) pa_nil))))
    (pe_one (w_notE (pe_not (w_isi (.ty "bool") (isA_ty LK) (pe_callB call_isi (by rfl) Bx.isinstance (by decide +kernel) (pa_cons (w_v (pv 0)) (pa_cons (pe_bltn (v := .ty "bool") (by rfl) Bx.bool (by decide +kernel) rfl) pa_nil))))))))))), ?_⟩
  rintro ds kk ⟨b, e, k⟩
  unfold aNum at e
  split at e
  · rename_i d
    obtain ⟨t, h1, h2⟩ := Option.map_eq_some_iff.mp e
    subst h2
    refine ⟨d, rfl, _, ty_int h1, _, rfl, ?_⟩
    cases d with
    | obj n xs =>
      cases n with
      | zero => exact k
      | succ n => cases h1
    | bl b => exact ⟨_, rfl, _, ty_bool h1, _, rfl, k⟩
    | int i => exact ⟨_, rfl, _, ty_bool h1, _, rfl, k⟩
    | _ => exact k
  · cases e
end
end Fv
namespace Fw
open PySem PySem.Spec PyProof.Rows L2 Fr
/-! # x op= e, bit_length, tests of numbers; dicts of numbers that stay -/
section
variable {X : Cx} {L : Ly} {e : Expr} {st : Stmt}
def sAug (i : Nat) (g : Px) (r : R2p) : Ps := ⟨fun ρ nx _ _ _ => ∃ d0, ρ[i]? = some (some (.dat d0)) ∧ g.f ρ fun d ρ1 => r.f d0 d fun z => nx (ρ1.set i (some (.dat z))), fun h _ _ _ ⟨d0, a, q⟩ => ⟨d0, a, g.mono (fun _ _ => r.mono fun _ => h _) q⟩⟩
theorem w_aug {i : Nat} {g : Px} {R : R2} {r : R2p} (hs : Snd2 L R r) (p : PS X st (tAug i (tW L g) R)) : PS X st (tWS L (sAug i g r)) := PS.imp p fun D σ H ⟨B, G, ρ, r0, d0, hi, h⟩ => by
  obtain ⟨s, hs0, hv⟩ := paired_get r0.env hi
  cases s with
  | none => exact (reps_none hv).elim
  | some v0 =>
    refine ⟨v0, hs0, B, G, ρ, r0, g.mono (fun d ρ1 h1 v G1 H1 r1 s1 d1 => ?_) h⟩
    exact hs r1 (dv_same s1 hv) d1 (r.mono (fun z h3 w G3 H3 r3 s3 d3 => h3 _ G3 H3 (r3.setD d3) (s1.trans s3)) h1)
def pBits (g : Px) : Px := ⟨fun ρ k => g.f ρ fun d ρ1 => ∃ i, d = .int i ∧ k (.int (Builtin.Int.intBits i : Nat)) ρ1, fun h => g.mono fun _ _ ⟨i, a, q⟩ => ⟨i, a, h _ _ q⟩⟩
theorem w_bits {g : Px} (p : PE X e (tBits (tW L g))) : PE X e (tW L (pBits g)) := PE.imp p fun σ H Q ⟨B, G, ρ, r, h⟩ =>
  ⟨B, G, ρ, r, g.mono (fun d ρ1 ⟨i, a, h1⟩ v G1 H1 r1 s1 d1 => by
    subst a
    cases d1
    exact ⟨i, rfl, h1 _ _ _ r1 s1 (.int _)⟩) h⟩
/-- a number's truth -/
def pTruI (g : Px) : Pt := ⟨fun ρ k => g.f ρ fun d ρ1 => ∃ i, d = .int i ∧ k (i != 0) ρ1, fun h => g.mono fun _ _ ⟨i, a, q⟩ => ⟨i, a, h _ _ q⟩⟩
theorem w_truI {g : Px} (p : PT X e fun σ H Q => tW L g σ H fun x H' => ∃ k, TruV X.K x H' k ∧ Q k H') : PT X e (tWT L (pTruI g)) := PT.imp p fun σ H Q ⟨B, G, ρ, r, h⟩ =>
  ⟨B, G, ρ, r, g.mono (fun d ρ1 ⟨i, a, h1⟩ v G1 H1 r1 s1 d1 => by
    subst a
    cases d1
    exact ⟨_, rfl, h1 _ _ r1 s1⟩) h⟩
/-! ## a dict of numbers: its keys -/
def keD (ks : List Int) : Da := .obj 3 (ks.map Da.int)
theorem dv_ints {G : Hp} : ∀ {ks : List Int}, DvAll L G (ks.map V.int) (ks.map Da.int)
  | [] => .nil
  | _ :: _ => .cons (.int _) dv_ints
theorem dv_intsI {G : Hp} : ∀ {ks : List Int} {vs : List V}, DvAll L G vs (ks.map Da.int) → vs = ks.map V.int
  | [], _, .nil => rfl
  | _ :: _, _, .cons d t => by
    cases d
    rw [dv_intsI t]
    rfl
theorem dv_keys (LK : LyK L) {G : Hp} {v : V} {ks : List Int} (h : Dv L G v (keD ks)) : ∃ (a : Addr) (od : Obj), v = .ref a ∧ G a = some (.frz od (.dK (kvI ks))) := by
  cases h with
  | obj o t =>
    obtain ⟨a, od, ks', rfl, e, q⟩ := LK.keys.mp o
    have := (dv_intsI t).symm.trans q
    have e2 : ks = ks' := by
      have h2 := congrArg (List.map fun v : V => match v with | .int i => i | _ => 0) this
      simpa [List.map_map, Function.comp_def] using h2
    subst e2
    exact ⟨a, od, rfl, e⟩
def putI (acc : List Int) (i : Int) : List Int := if i ∈ acc then acc else acc ++ [i]
theorem put_kvI (acc : List Int) (i : Int) : putK (kvI acc) (.inl i) (.bl true) = kvI (putI acc i) := by
  unfold putK putI
  by_cases h : i ∈ acc
  · rw [if_pos h, if_pos]
    · unfold kvI
      rw [List.map_map]
      refine List.map_congr_left fun x _ => ?_
      simp only [Function.comp]
      split
      · rename_i e
        rw [e]
      · rfl
    · unfold kvI
      rw [List.any_map, List.any_eq_true]
      exact ⟨i, h, by simp⟩
  · rw [if_neg h, if_neg]
    · unfold kvI
      rw [List.map_append]
      rfl
    · unfold kvI
      rw [List.any_map, List.any_eq_true]
      rintro ⟨x, hx, e⟩
      have e' : x = i := by simpa using e
      exact h (e' ▸ hx)
theorem val_kvI (ks : List Int) (i : Int) : (valV (kvI ks) (.inl i)).isSome = decide (i ∈ ks) := by
  induction ks with
  | nil => rfl
  | cons j r ih =>
    by_cases h : j = i
    · subst h
      rw [show kvI (j :: r) = (.inl j, .bl true) :: kvI r from rfl, valV_pos rfl]
      simp
    · rw [show kvI (j :: r) = (.inl j, .bl true) :: kvI r from rfl, valV_neg (by intro z; cases z; exact h rfl), ih]
      simp [List.mem_cons, Ne.symm h]
/-- {key: True for target in iter} -/
def dcP (t : Tg) (el : Px) (vs : List Nat) (k : List Int → En → Prop) : List Da → List Int → En → Prop
  | [], acc, ρ => k acc ρ
  | x :: r, acc, ρ => t.f x ρ fun ρ2 => el.f ρ2 fun y ρ4 => ∃ i, y = .int i ∧ acc.length < sizeLine ∧ dcP t el vs k r (putI acc i) (wipeR ρ4 vs)
theorem dcP_mono {vs : List Nat} {t : Tg} {el : Px} {k k' : List Int → En → Prop} (h : ∀ d r, k d r → k' d r) : ∀ {ds : List Da} {acc : List Int} {ρ : En}, dcP t el vs k ds acc ρ → dcP t el vs k' ds acc ρ
  | [], _, _, q => h _ _ q
  | _ :: r, _, _, q => t.mono (fun _ => el.mono fun _ _ ⟨i, a, b, y⟩ => ⟨i, a, b, dcP_mono h (ds := r) y⟩) q
def pDc (src : Pl) (t : Tg) (el : Px) (vs : List Nat) : Px := ⟨fun ρ k => src.f ρ fun ds ρ1 => dcP t el vs (fun ks => k (keD ks)) ds [] (wipeR ρ1 vs), fun h => src.mono fun _ _ => dcP_mono fun _ _ => h _ _⟩
/-- what e gives, a dict just laid, is locked for good -/
def tFrz (t : TE) : TE := fun σ H Q => t σ H fun v H1 => ∃ d u, H1 d = some u ∧ Mut (some u) ∧ ∀ od, Q v (upd H1 d (.frz od u))
theorem pe_frz {t : TE} (p : PE X e t) : PE X e (tFrz t) := by
  refine ⟨fun pins s σ H Q I h => ?_⟩
  refine thn (p.run pins s σ H _ I h) fun v s1 ⟨x, H1, I1, r1, d, u, hd, mu, q⟩ => ?_
  obtain ⟨od, I2⟩ := I1.lock hd mu
  exact ⟨x, _, I2, r1, q od⟩
theorem imp_dc (LK : LyK L) {vs : List Nat} {src : Pl} {g : TG} {t : Tg} {el : Px} (hg : SndV L g t vs) : ∀ σ H Q, tW L (pDc src t el vs) σ H Q → tFrz (tDc (tWI L src) g (tWT L pYes) (tW L el) (tC (.bl true)) vs) σ H Q := by
  rintro σ H Q ⟨B, G, ρ, r, h⟩
  refine ⟨B, G, ρ, r, src.mono (fun ds ρ1 h1 J G1 H1 r1 s1 wk D nD => ?_) h⟩
  have h0 : B.H0 D = none := r1.h0 nD
  have ne : ∀ q ∈ B.ks, q.1 ≠ D := fun q hq e => by
    have := (r1.ks q hq).1
    rw [e, nD] at this
    cases this
  obtain ⟨Inv, hInv⟩ : ∃ Inv : Nat → Hp → Prop, ∀ i H', Inv i H' ↔ ∃ G' ρ' acc, Rep L (B.kp D (.dK (kvI acc))) G' H' (L2.wipe σ vs) ρ' ∧ WpR vs ρ' ∧ Same G1 G' ∧
      dcP t el vs (fun ks ρ' => ∀ v G' H', Rep L B G' H' σ ρ' → Same G G' → Dv L G' v (keD ks) → Q v H') (ds.drop i) acc ρ' := ⟨_, fun _ _ => Iff.rfl⟩
  refine ⟨fun i m H' => m = ds.length - i ∧ i ≤ ds.length ∧ Inv i H', ⟨ds.length, by simp, Nat.zero_le _, (hInv _ _).mpr ⟨G1, _, [], (r1.wipe vs).kp nD, wpR_wipe _ _, Same.refl _, by simpa using h1⟩⟩, ?_⟩
  rintro i m H' ⟨rfl, hi, q⟩
  obtain ⟨G', ρ', acc, r', w', s', hl⟩ := (hInv _ _).mp q
  have hw := wk G' H' s' r'.gh i hi
  by_cases hlt : i < ds.length
  · refine .inr ⟨(hw.2 hlt).1, Inv (i + 1), fun H2 q2 => ⟨ds.length - (i + 1), by omega, rfl, hlt, q2⟩, fun x H2 y => ?_⟩
    obtain ⟨G2, z, gr, hz, dz⟩ := (hw.2 hlt).2 x H2 y
    rw [drop_at hz] at hl
    refine hg (r'.go gr) dz (t.mono (fun ρ2 h2 σ2 r2 e => ⟨e.trans (wipe_wipe vs), _, G2, ρ2, r2, fun G3 H3 r3 s3 => ?_⟩) hl)
    have ew : L2.wipe σ2 vs = L2.wipe σ vs := e.trans (wipe_wipe vs)
    show if true = true then _ else _
    rw [if_pos rfl]
    refine ⟨_, G3, ρ2, r3, el.mono (fun y ρ4 ⟨n, ey, hlen, h4⟩ v G4 H4 r4 s4 d4 => ?_) h2⟩
    subst ey
    cases d4
    have s5 : Same G' G4 := gr.gg.trans (s3.trans s4)
    refine ⟨kvI acc, .inl n, rfl, r4.kpAt.1, by unfold kvI; rw [List.length_map]; exact hlen, ?_⟩
    rw [put_kvI]
    refine (hInv _ _).mpr ⟨G4, wipeR ρ4 vs, _, ?_, wpR_wipe _ _, s'.trans s5, h4⟩
    rw [← ew]
    exact (r4.wipe vs).kpChg h0 ne
  · have e : i = ds.length := by omega
    subst e
    rw [List.drop_length] at hl
    refine .inl ⟨hw.1 rfl, D, .dK (kvI acc), r'.kpAt.1, True.intro, fun od => ?_⟩
    have r2 := ((r'.unwipe w').kpChg (o' := .frz od (.dK (kvI acc))) h0 ne)
    obtain ⟨_, hG, _, _⟩ := r2.kpAt
    exact hl _ _ _ (r2.kpDone h0 ne) (s1.trans (s'.trans (same_upd hG))) (.obj (LK.keys.mpr ⟨D, od, acc, rfl, upd_same, rfl⟩) dv_ints)
theorem w_dc (LK : LyK L) {vs : List Nat} {src : Pl} {g : TG} {t : Tg} {el : Px} (hg : SndV L g t vs) (p : PE X e (tDc (tWI L src) g (tWT L pYes) (tW L el) (tC (.bl true)) vs)) : PE X e (tW L (pDc src t el vs)) := PE.imp (pe_frz p) (imp_dc LK hg)
/-! ## stored at a name -/
theorem ps_frz {t : TS} (p : PS X st t) : PS X st fun D σ H => t { D with nx := fun σ' H' => ∃ d u, H' d = some u ∧ Mut (some u) ∧ ∀ od, D.nx σ' (upd H' d (.frz od u)) } σ H := by
  refine ⟨fun pins s σ H D I h => ?_⟩
  refine thn (p.run pins s σ H _ I h) fun fl s1 q => ?_
  cases fl with
  | next =>
    obtain ⟨σ', H', I1, d, u, hd, mu, q⟩ := q
    obtain ⟨od, I2⟩ := I1.lock hd mu
    exact ⟨σ', _, I2, q od⟩
  | brk => exact q
  | cont => exact q
  | ret v => exact q
/-- a dict comprehension in a store takes the store's own road -/
theorem sw_dict {kx vx : Expr} {gs : List Comprehension} {sco : Scope} {po pn : Pos} {y : Str} {ln : Nat} {en : Env} (h1 : en.scope.kind = .function) (h2 : en.scope.names.lookup y = some .local) (h3 : (pn.line == po.line) = true)
    (h4 : (sco.names.any fun (n, k) => n == y && (k == .local || k == .cell)) = false) : swapsWith (.DictComp kx vx gs sco po) (some (.Name y pn)) ln en = pure true := by
  have k1 : en.kindOf y = some .local := h2
  have k2 : en.blockKind = .function := (by unfold Env.blockKind; rw [h1] <;> rfl)
  unfold swapsWith
  simp only [k2, k1, h4, Expr.pos, h3]
  rfl
theorem ps_setDc {i : Nat} {y : Str} {kx vx tg iter : Expr} {ifs : List Expr} {sco : Scope} {own : List (Str × Nat)} {po pn ps : Pos} {wi : TI} {g : TG} {tt : TT} {tk tv : TE} (hc : X.calm = true) (nd : X.N.Nodup) (hy : X.N[i]? = some y) (yl : X.env.scope.names.lookup y = some .local)
    (sw : swapsWith (.DictComp kx vx [⟨tg, iter, ifs, 0⟩] sco po) (some (.Name y pn)) ps.line X.env = pure true) (hi : PI X tg iter wi) (bo : BlkOk X.N X.env.scope sco own)
    (pg : ∀ (s : Shared) (H : Hp) (C : Addr) (cl : List (Str × Addr)) (fp : List Addr), PG (X.blk s H sco (compEnvC sco cl C X.env) fp) tg g) (pt : ∀ (s : Shared) (H : Hp) (C : Addr) (cl : List (Str × Addr)) (fp : List Addr), PTs (X.blk s H sco (compEnvC sco cl C X.env) fp) ifs tt)
    (pk : ∀ (s : Shared) (H : Hp) (C : Addr) (cl : List (Str × Addr)) (fp : List Addr), PE (X.blk s H sco (compEnvC sco cl C X.env) fp) kx tk) (pv : ∀ (s : Shared) (H : Hp) (C : Addr) (cl : List (Str × Addr)) (fp : List Addr), PE (X.blk s H sco (compEnvC sco cl C X.env) fp) vx tv)
    (fo : ∀ x, foldedSetIterable iter X.env x = pure x := by intro _; rfl) : PS X (.Assign [.Name y pn] (.DictComp kx vx [⟨tg, iter, ifs, 0⟩] sco po) ps) (tAsg (tDc wi g tt tk tv (own.map (·.2))) (gName i)) := by
  constructor
  intro pins s σ H D I h
  rw [exec_Assign_Name_used (hs := sw)]
  have h' : tDc wi g tt tk tv (own.map (·.2)) σ H (fun x H1 => gName i x σ H1 D.nx) := h
  refine wpAny_bind (wpAny_standAt (wpAny_bind (wpAny_bind (thn (dc_core (use := some (assign (.Name y pn) X.env)) (Qf := fun _ s2 => SP X pins D .next s2) hc nd I hi bo pg pt pk pv fo h' ?_) fun _ s2 q => wpAny_pure (wpAny_pure q)))))
  intro M C s2 m H2 I2 q hn fp
  refine wpAny_assign_Name (store_ok2 (v := V.ref M) I2 nd hy (.inl yl) rfl ?_ (.inr yl))
  rintro s3 I3 ⟨a, sb, ha⟩
  obtain ⟨z0, z1, z2, z3, z4, z5⟩ := fp
  have ne : C ≠ a := ha.elim (fun z => by rw [z]; exact z1) fun z => fun e => z4 y a z e.symm
  exact ⟨m, hn.sameBut sb ne, fun h3 sb3 => ⟨_, H2, I3.turned (t' := s3.toks) (fun b o hb e => (sb3.2 b hb).trans e) z0 z1 z3 z4 z5, q⟩⟩
theorem w_setDc (LK : LyK L) {i : Nat} {vs : List Nat} {src : Pl} {g : TG} {t : Tg} {el : Px} (hg : SndV L g t vs) (p : PS X st (tAsg (tDc (tWI L src) g (tWT L pYes) (tW L el) (tC (.bl true)) vs) (gName i))) : PS X st (tWS L (sSet i (pDc src t el vs))) :=
  PS.imp (ps_frz p) fun D σ H ⟨B, G, ρ, r, h⟩ => imp_dc LK hg σ H (fun v H' => D.nx (σ.set i (some v)) H') ⟨B, G, ρ, r, by
    have h' : (pDc src t el vs).f ρ (fun d ρ1 => ∀ (σ' : L2.St) (G' H' : Hp), Rep L B G' H' σ' (ρ1.set i (some (.dat d))) → Same G G' → D.nx σ' H') := h
    exact (pDc src t el vs).mono (fun d ρ1 h1 v G1 H1 r1 s1 d1 => h1 _ G1 H1 (r1.setD d1) s1) h'⟩
/-! ## the keys walked over; x in d -/
theorem wk_keys {G : Hp} {a : Addr} {od : Obj} {ks : List Int} (h : G a = some (.frz od (.dK (kvI ks)))) : Wk L (Itk a od (kvI ks)) G (ks.map Da.int) := fun G' H s s' i hi => by
  have q := s' _ _ (s _ _ h)
  have hl : (kvI ks).length = ks.length := List.length_map _
  rw [List.length_map] at hi ⊢
  refine ⟨fun e => ⟨q, by omega⟩, fun hlt => ⟨⟨q, by omega⟩, fun x H' y => ?_⟩⟩
  obtain ⟨eH, k, v, hk, ex⟩ := y
  subst eH ex
  unfold kvI at hk
  rw [List.getElem?_map, List.getElem?_eq_getElem hlt] at hk
  cases hk
  exact ⟨G', .int ks[i], Grow.refl s', by rw [List.getElem?_map, List.getElem?_eq_getElem hlt]; rfl, .int _⟩
def pIK (g : Px) : Pl := ⟨fun ρ k => g.f ρ fun d ρ1 => ∃ ks : List Int, d = keD ks ∧ k (ks.map Da.int) ρ1, fun h => g.mono fun _ _ ⟨ks, a, q⟩ => ⟨ks, a, h _ _ q⟩⟩
theorem w_ik (LK : LyK L) {tg : Expr} {g : Px} (p : PI X tg e (iKeys (tW L g))) : PI X tg e (tWI L (pIK g)) := PI.imp p fun σ H R ⟨B, G, ρ, r, h⟩ =>
  ⟨B, G, ρ, r, g.mono (fun d ρ1 ⟨ks, a, h1⟩ v G1 H1 r1 s1 d1 => by
    subst a
    obtain ⟨a, od, rfl, q⟩ := dv_keys LK d1
    exact ⟨a, od, rfl, .inl ⟨kvI ks, r1.gh _ _ q, h1 _ G1 H1 r1 s1 (wk_keys q)⟩⟩) h⟩
def rInK : R2p := ⟨fun x y k => ∃ (i : Int) (ks : List Int), x = .int i ∧ y = keD ks ∧ k (.bl (decide (i ∈ ks))), fun h ⟨i, ks, a, b, q⟩ => ⟨i, ks, a, b, h _ q⟩⟩
theorem w_inK (LK : LyK L) {pos : Pos} {a b : Expr} {ga gb : Px} (hu : X.A.units + 1 < cLine) (ha : PE X a (tW L ga)) (hb : PE X b (tW L gb)) (hm : behindInMarks .In b = false) : PT X (.Compare a [.In] [b] pos) (tWT L (pB (p2 ga gb rInK))) :=
  PT.imp (pt_cmp (pc_din hu ha hb) hm) fun σ H Q ⟨B, G, ρ, r0, h⟩ => ⟨B, G, ρ, r0, ga.mono (fun x ρ1 h1 v G1 H1 r1 s1 d1 => ⟨B, G1, ρ1, r1, gb.mono (fun y ρ2 h2 u G2 H2 r2 s2 d2 => by
    obtain ⟨i, ks, ex, ey, t, et, q⟩ := h2
    subst ex ey
    cases d1
    cases et
    obtain ⟨a, od, rfl, e⟩ := dv_keys LK d2
    refine ⟨a, valV (kvI ks) (.inl i), rfl, .inl ⟨kvI ks, .inl i, .inr ⟨od, r2.gh _ _ e⟩, rfl, rfl⟩, _, rfl, ?_⟩
    rw [val_kvI]
    exact q _ _ r2 (s1.trans s2)) h1⟩) h⟩
end
end Fw
namespace Fv
open PySem PySem.Spec PyProof.Rows L2 Fr Fw
section
variable {P : Program} {w : World} {L : Ly} {mg : Str → Option Value} {base : Heap} {f : Addr} {fd : FuncData}
/-! # is_number_within, is_list, is_lot -/
abbrev s_is_number_within : Stmt := topS 6
theorem sc_is_number_within : FnScope ["thing", "least", "most"] ["thing", "least", "most"] (C8.fnScope s_is_number_within) := C8.fnScope_by (by decide +kernel)
def Kn (d : Da) : Prop := ∃ t, tyD d = some t
def inB (d : Da) (a b : Int) : Bool := match d with
  | .int i => decide (a ≤ i) && decide (i ≤ b)
  | _ => false
def fIn : Pf := ⟨fun xs k => ∃ d a b, xs = [d, .int a, .int b] ∧ Kn d ∧ k (.bl (inB d a b)), fun h ⟨d, a, b, e, n, q⟩ => ⟨d, a, b, e, n, h _ q⟩⟩
theorem num_ans {d : Da} (h : Kn d) : aNum [d] = some (numB d) := by
  obtain ⟨t, e⟩ := h
  show (tyD d).map (fun _ => numB d) = some (numB d)
  rw [e]
  rfl
theorem ok_is_number_within (Fd : C8.Def L.K mg "is_number_within" s_is_number_within f fd) (b : Binds L.K fd ["thing", "least", "most"] []) (B : Bw mg) (c_is_number : CalG P w L.K mg base C8.CX0 1 "is_number" (spF L (fB 1 aNum))) :
    CalG P w L.K mg base C8.CX0 2 "is_number_within" (spF L fIn) := by
  have sc := sc_is_number_within
  refine calF (n := 0) Fd b sc ?_ (fun vs h => start_eq (by rw [h]; rfl)) fun cdv A outer s H E hr hgu => ?_
  · rintro ds k ⟨d, a, b, rfl, _⟩
    rfl
  refine ⟨_, w_one (w_ret (ps_ret (w_andE (pe_and (w_call c_is_number hr (by decide) hgu rfl (w_cons (w_v (pv 0)) w_nil)) (pe_one (w_chain snd_le snd_le (pe_chain op_le op_le (w_v (pv 1)) (w_v (pv 0)) (w_v (pv 2))))))))), ?_⟩
  rintro ds kk ⟨d, lo, hi, rfl, n, k⟩
  refine ⟨d, rfl, _, num_ans n, _, rfl, ?_⟩
  cases d with
  | int i =>
    refine ⟨_, rfl, _, rfl, lo, i, rfl, rfl, trivial, _, rfl, bite (fun h => ?_) fun h => ?_⟩
    · refine ⟨_, rfl, i, hi, rfl, rfl, trivial, ?_⟩
      have e : inB (.int i) lo hi = decide (i ≤ hi) := by
        show (decide (lo ≤ i) && decide (i ≤ hi)) = _
        rw [h]
        rfl
      rw [e] at k
      exact k
    · have e : inB (.int i) lo hi = false := by
        show (decide (lo ≤ i) && decide (i ≤ hi)) = _
        rw [h]
        rfl
      rw [e] at k
      exact k
  | _ => exact k
abbrev s_is_list : Stmt := topS 7
theorem sc_is_list : FnScope ["thing"] ["thing"] (C8.fnScope s_is_list) := C8.fnScope_by (by decide +kernel)
def ltB : Da → Bool
  | .lst _ => true
  | .tup _ => true
  | _ => false
def fIsL : Pf := ⟨fun xs k => ∃ d, xs = [d] ∧ Kn d ∧ k (.bl (ltB d)), fun h ⟨d, e, n, q⟩ => ⟨d, e, n, h _ q⟩⟩
theorem isl_ans (LK : LyK L) {G : Hp} {v : V} {d : Da} {b : Bool} (h : Kn d ∧ b = ltB d) (dv : Dv L G v d) : ∃ t, TyX L.K G v t ∧ PySem.W.kitAny L.K t [.type "list", .type "tuple"] = some b := by
  obtain ⟨⟨t, e⟩, rfl⟩ := h
  refine ⟨.type t, dv_ty LK dv e, ?_⟩
  have key : ∀ {t : String} {a c r : Bool}, kitB t "list" = some a → kitB t "tuple" = some c → (a || c) = r → PySem.W.kitAny L.K (.type t) [.type "list", .type "tuple"] = some r := by
    intro t a c r h1 h2 h3
    subst h3
    refine kitAny_cons (kit_ty h1) (fun ea => ?_) fun ea => by rw [ea]; rfl
    subst ea
    refine kitAny_cons (kit_ty h2) (fun ec => ?_) fun ec => by rw [ec]; rfl
    subst ec
    exact kitAny_nil
  cases d with
  | non => cases e; exact key (a := false) (c := false) (by decide +kernel) (by decide +kernel) rfl
  | bl b => cases e; exact key (a := false) (c := false) (by decide +kernel) (by decide +kernel) rfl
  | int b => cases e; exact key (a := false) (c := false) (by decide +kernel) (by decide +kernel) rfl
  | str b => cases e; exact key (a := false) (c := false) (by decide +kernel) (by decide +kernel) rfl
  | lst b => cases e; exact key (a := true) (c := false) (by decide +kernel) (by decide +kernel) rfl
  | tup b => cases e; exact key (a := false) (c := true) (by decide +kernel) (by decide +kernel) rfl
  | obj n xs =>
    cases n with
    | zero => cases e; exact key (a := false) (c := false) (by decide +kernel) (by decide +kernel) rfl
    | succ n => cases e
theorem ok_is_list (Fd : C8.Def L.K mg "is_list" s_is_list f fd) (b : Binds L.K fd ["thing"] []) (B : Bw mg) (Bx : Bx mg) (LK : LyK L) : CalG P w L.K mg base C8.CX0 1 "is_list" (spF L fIsL) := by
  have sc := sc_is_list
  refine calF (n := 0) Fd b sc ?_ (fun vs h => start_eq (by rw [h]; rfl)) fun cdv A outer s H E hr hgu => ?_
  · rintro ds k ⟨d, rfl, _⟩
    rfl
  refine ⟨_, w_one (w_ret (ps_ret (w_isiT (cs := [.ty "list", .ty "tuple"]) (us := [.type "list", .type "tuple"]) (A := fun d b => Kn d ∧ b = ltB d) (.cons (.ty "list") (.cons (.ty "tuple") .nil)) (by decide) (isl_ans LK) (fun σ H Q q => q)
    (pe_callB call_isiT (by rfl) Bx.isinstance (by decide +kernel) (pa_cons (w_v (pv 0)) (pa_cons (pe_tup (pa_cons (pe_bltn (v := .ty "list") (by rfl) B.list (by decide +kernel) rfl) (pa_cons (pe_bltn (v := .ty "tuple") (by rfl) B.tuple (by decide +kernel) rfl) pa_nil))) pa_nil)))))), ?_⟩
  rintro ds kk ⟨d, rfl, n, k⟩
  exact ⟨d, rfl, _, ⟨n, rfl⟩, k⟩
abbrev s_is_lot : Stmt := topS 8
theorem sc_is_lot : FnScope ["thing", "size", "least", "part"] ["thing", "size"] (C8.fnScope s_is_lot) := C8.fnScope_by (by decide +kernel)
def Kn2 (d : Da) : Prop := Kn d ∧ ∀ xs, d = .tup xs → ∀ x ∈ xs, Kn x
def daI : Da → Int
  | .int i => i
  | _ => 0
def lotGo (n : Int) : Int → List Da → Bool
  | _, [] => true
  | lo, x :: r => inB x lo (n - 1) && lotGo n (daI x + 1) r
def lotB (n : Int) : Da → Bool
  | .tup xs => lotGo n 0 xs
  | _ => false
def fIsLot : Pf := ⟨fun xs k => ∃ (d : Da) (n : Int), xs = [d, .int n] ∧ Kn2 d ∧ k (.bl (lotB n d)), fun h ⟨d, n, e, c, q⟩ => ⟨d, n, e, c, h _ q⟩⟩
theorem ok_is_lot (Fd : C8.Def L.K mg "is_lot" s_is_lot f fd) (b : Binds L.K fd ["thing", "size"] []) (B : Bw mg) (Bx : Bx mg) (LK : LyK L) (c_is_number_within : CalG P w L.K mg base C8.CX0 2 "is_number_within" (spF L fIn)) :
    CalG P w L.K mg base C8.CX0 3 "is_lot" (spF L fIsLot) := by
  have sc := sc_is_lot
  refine calF (n := 2) Fd b sc ?_ (fun vs h => start_eq (by rw [h]; rfl)) fun cdv A outer s H E hr hgu => ?_
  · rintro ds k ⟨d, n, rfl, _⟩
    rfl
  refine ⟨_, w_seq (w_if (ps_if (w_notT (pt_not (w_val (pt_val (w_isi (.ty "tuple") (isA_ty LK) (pe_callB call_isi (by rfl) Bx.isinstance (by decide +kernel) (pa_cons (w_v (pv 0)) (pa_cons (pe_bltn (v := .ty "tuple") (by rfl) B.tuple (by decide +kernel) rfl) pa_nil))))))))
   (w_one (w_ret (ps_ret (w_bl pe_bl))))
   (w_snil pss_nil)))
  (w_seq (w_set (ps_set (i := 2) sc.nd rfl (by first | exact Or.inl rfl | exact Or.inr rfl) (w_int (kd := 0) pe_int)))
  (w_seq (w_forI snd_tgN (ps_for PassesOwn.never rfl (w_it (pi_tup (w_v (pv 0)))) (pg_name (i := 3) sc.nd rfl (by first | exact Or.inl rfl | exact Or.inr rfl))
   (w_seq (w_if (ps_if (w_notT (pt_not (w_val (pt_val (w_call c_is_number_within hr (by decide) hgu rfl (w_cons (w_v (pv 3)) (w_cons (w_v (pv 2)) (w_cons (w_op op_sub snd_sub (w_v (pv 1)) (w_int (kd := 0) pe_int)) w_nil))))))))
     (w_one (w_ret (ps_ret (w_bl pe_bl))))
     (w_snil pss_nil)))
    (w_one (w_set (ps_set (i := 2) sc.nd rfl (by first | exact Or.inl rfl | exact Or.inr rfl) (w_op op_add snd_add (w_v (pv 3)) (w_int (kd := 0) pe_int))))))))
  (w_one (w_ret (ps_ret (w_bl pe_bl)))))), ?_⟩
  rintro ds kk ⟨d, n, rfl, ⟨⟨t, ht⟩, hx⟩, k⟩
  refine ⟨d, rfl, _, ty_tup ht, _, rfl, ?_⟩
  cases d with
  | tup xs =>
    refine ⟨_, rfl, _, rfl, ?_⟩
    refine loopF_inv (fun j ρ => ∃ lo z, ρ = [some (.dat (.tup xs)), some (.dat (.int n)), some (.dat (.int lo)), z] ∧ kk (.bl (lotGo n lo (xs.drop j)))) ⟨0, none, rfl, k⟩ ?_ ?_
    · rintro j x ρ hj ⟨lo, z, rfl, q⟩
      rw [drop_at hj] at q
      refine ⟨_, rfl, _, rfl, _, rfl, n, 1, rfl, rfl, trivial, x, lo, n - 1, rfl, hx xs rfl x (List.mem_of_getElem? hj), _, rfl, bite (fun h => ?_) fun h => ?_⟩
      · have e : inB x lo (n - 1) = false := by simpa using h
        have q' : kk (.bl (inB x lo (n - 1) && lotGo n (daI x + 1) (xs.drop (j + 1)))) := q
        rw [e] at q'
        exact q'
      · have e : inB x lo (n - 1) = true := by simpa using h
        have q' : kk (.bl (inB x lo (n - 1) && lotGo n (daI x + 1) (xs.drop (j + 1)))) := q
        rw [e, Bool.true_and] at q'
        cases x with
        | int i => exact ⟨_, rfl, i, 1, rfl, rfl, trivial, _, _, rfl, q'⟩
        | _ => cases e
    · rintro ρ ⟨lo, z, rfl, q⟩
      rw [List.drop_length] at q
      exact q
  | _ => exact k
end
end Fv
namespace Fv
open PySem PySem.Spec PyProof.Rows L2 Fr Fw
/-! # lots as numbers -/
def maskN (t : List Int) : Nat := t.foldl (fun m i => m ||| 2 ^ i.toNat) 0
def bitsN (m : Nat) : List Nat := ((List.range (Builtin.Int.intBits (m : Int))).filter fun t => m.testBit t).map (2 ^ ·)
def ki (ks : List Nat) : List Int := ks.map fun k : Nat => (k : Int)
def kd (ks : List Nat) : List Da := ks.map fun k : Nat => Da.int (k : Int)
theorem bit_lt {m t : Nat} (h : m.testBit t = true) : t < Builtin.Int.intBits (m : Int) := by
  rcases Nat.lt_or_ge t (Builtin.Int.intBits (m : Int)) with c | c
  · exact c
  · have h1 := PySem.intBits_le_iff.mp c
    have h2 : m < 2 ^ t := by simpa using h1
    rw [Nat.testBit_lt_two_pow h2] at h
    cases h
theorem mem_bits {m x : Nat} : x ∈ bitsN m ↔ ∃ t, m.testBit t = true ∧ x = 2 ^ t := by
  unfold bitsN
  rw [List.mem_map]
  constructor
  · rintro ⟨t, h, rfl⟩
    exact ⟨t, (List.mem_filter.mp h).2, rfl⟩
  · rintro ⟨t, h, rfl⟩
    exact ⟨t, List.mem_filter.mpr ⟨List.mem_range.mpr (bit_lt h), h⟩, rfl⟩
theorem or_int (a b : Nat) : Builtin.bitOr (a : Int) (b : Int) = ((a ||| b : Nat) : Int) := by
  rw [Bits.bitOr_pp (Int.natCast_nonneg a) (Int.natCast_nonneg b), Int.toNat_natCast, Int.toNat_natCast]
theorem xor_int (a b : Nat) : Builtin.bitXor (a : Int) (b : Int) = ((a ^^^ b : Nat) : Int) := by
  rw [Bits.bitXor_pp (Int.natCast_nonneg a) (Int.natCast_nonneg b), Int.toNat_natCast, Int.toNat_natCast]
theorem and_int (a b : Nat) : Builtin.bitAnd (a : Int) (b : Int) = ((a &&& b : Nat) : Int) := PySem.W.os_band a b
theorem shl_int (t : Nat) : (1 : Int) * 2 ^ ((t : Int)).toNat = ((2 ^ t : Nat) : Int) := by
  rw [Int.toNat_natCast, Int.one_mul]
  push_cast
  rfl
/-- the bit 2^t of m, as a test -/
theorem and_bit (m t : Nat) : m &&& 2 ^ t = 0 ↔ m.testBit t = false := by
  constructor
  · intro h
    have : (m &&& 2 ^ t).testBit t = false := by rw [h]; simp
    rw [Nat.testBit_and, Nat.testBit_two_pow_self, Bool.and_true] at this
    exact this
  · intro h
    apply Nat.eq_of_testBit_eq
    intro i
    rw [Nat.testBit_and, Nat.zero_testBit, Nat.testBit_two_pow]
    by_cases e : t = i
    · subst e; simp [h]
    · simp [e]
def swOk (ks : List Nat) (m b o : Nat) : Bool := decide (m &&& o = 0) && decide (((m ^^^ b) ||| o) ∈ ks)
def swGo (ks : List Nat) (m b : Nat) : List Nat → Nat → Nat
  | [], acc => acc
  | o :: r, acc => swGo ks m b r (if swOk ks m b o = true then acc ||| o else acc)
def swN (n : Nat) (ks : List Nat) (m b : Nat) : Nat := swGo ks m b (bitsN (2 ^ n - 1)) 0
def ExN (n : Nat) (ks : List Nat) : Prop := ∀ m ∈ ks, ∀ b ∈ bitsN m, ∀ o ∈ ks, o &&& b ≠ 0 ∨ o &&& swN n ks m b ≠ 0
section
variable {P : Program} {w : World} {L : Ly} {mg : Str → Option Value} {base : Heap} {f : Addr} {fd : FuncData}
abbrev s_mask_of : Stmt := topS 10
theorem sc_mask_of : FnScope ["lot", "mask", "thing"] ["lot"] (C8.fnScope s_mask_of) := C8.fnScope_by (by decide +kernel)
def fMask : Pf := ⟨fun xs k => ∃ t : List Int, xs = [ti t] ∧ (∀ x ∈ t, 0 ≤ x ∧ x < 64) ∧ k (.int (maskN t : Nat)), fun h ⟨t, a, c, q⟩ => ⟨t, a, c, h _ q⟩⟩
theorem fold_at {t : List Int} {j : Nat} {x : Int} (h : t[j]? = some x) (m : Nat) : (t.drop j).foldl (fun m i => m ||| 2 ^ i.toNat) m = (t.drop (j + 1)).foldl (fun m i => m ||| 2 ^ i.toNat) (m ||| 2 ^ x.toNat) := by
  rw [drop_at h]
  rfl
theorem ok_mask_of (Fd : C8.Def L.K mg "mask_of" s_mask_of f fd) (b : Binds L.K fd ["lot"] []) : CalG P w L.K mg base C8.CX0 1 "mask_of" (spF L fMask) := by
  have sc := sc_mask_of
  refine calF (n := 2) Fd b sc ?_ (fun vs h => start_eq (by rw [h]; rfl)) fun cdv A outer s H E hr hgu => ?_
  · rintro ds k ⟨t, rfl, _⟩
    rfl
  refine ⟨_, w_seq (w_set (ps_set (i := 1) sc.nd rfl (by first | exact Or.inl rfl | exact Or.inr rfl) (w_int (kd := 0) pe_int)))
  (w_seq (w_forI snd_tgN (ps_for PassesOwn.never rfl (w_it (pi_tup (w_v (pv 0)))) (pg_name (i := 2) sc.nd rfl (by first | exact Or.inl rfl | exact Or.inr rfl))
   (w_one (w_aug snd_orI (ps_aug (i := 1) sc.nd rfl (by first | exact Or.inl rfl | exact Or.inr rfl) (w_op op_shl snd_shl (w_int (kd := 0) pe_int) (w_v (pv 2))) iop_or)))))
  (w_one (w_ret (ps_ret (w_v (pv 1)))))), ?_⟩
  rintro ds kk ⟨t, rfl, hx, k⟩
  refine ⟨_, rfl, _, rfl, ?_⟩
  refine loopF_inv (fun j ρ => ∃ (m : Nat) (z : Option Sl), ρ = [some (.dat (ti t)), some (.dat (.int (m : Int))), z] ∧ (t.drop j).foldl (fun m i => m ||| 2 ^ i.toNat) m = maskN t) ⟨0, none, rfl, rfl⟩ ?_ ?_
  · rintro j x ρ hj ⟨m, z, rfl, q⟩
    obtain ⟨i, hi, rfl⟩ := map_get hj
    obtain ⟨i0, i1⟩ := hx i (List.mem_of_getElem? hi)
    obtain ⟨u, rfl⟩ := Int.eq_ofNat_of_zero_le i0
    refine ⟨_, rfl, _, rfl, 1, (u : Int), rfl, rfl, ⟨by omega, by omega, by decide⟩, (m : Int), _, rfl, rfl, trivial, m ||| 2 ^ u, some (.dat (.int (u : Int))), ?_, ?_⟩
    · have e : Builtin.bitOr (m : Int) (1 * 2 ^ ((u : Int)).toNat) = ((m ||| 2 ^ u : Nat) : Int) := by rw [shl_int, or_int]
      rw [← e]
      rfl
    · rw [← q, fold_at hi]
      simp
  · rintro ρ ⟨m, z, rfl, q⟩
    have hd : (t.drop ((t.map Da.int).length)) = [] := by rw [List.length_map, List.drop_length]
    rw [hd] at q
    refine ⟨_, rfl, ?_⟩
    have q' : m = maskN t := q
    rw [q']
    exact k
abbrev s_bits_of : Stmt := topS 12
theorem sc_bits_of : FnScope ["mask", "thing"] ["mask"] (C8.fnScope s_bits_of) := C8.fnScope_by (by decide +kernel)
def fBits : Pf := ⟨fun xs k => ∃ m : Nat, xs = [.int (m : Int)] ∧ m < 2 ^ 64 ∧ k (.lst (kd (bitsN m))), fun h ⟨t, a, c, q⟩ => ⟨t, a, c, h _ q⟩⟩
theorem bits_le {m : Nat} (h : m < 2 ^ 64) : Builtin.Int.intBits (m : Int) ≤ 64 := PySem.intBits_le_iff.mpr (by simpa using h)
theorem shr_bit (m t : Nat) : (Builtin.bitAnd ((m : Int) / 2 ^ ((t : Int)).toNat) 1 != 0) = m.testBit t := by
  have e : (m : Int) / 2 ^ ((t : Int)).toNat = ((m / 2 ^ t : Nat) : Int) := by
    rw [Int.toNat_natCast]
    push_cast
    rfl
  have e1 : (1 : Int) = ((1 : Nat) : Int) := rfl
  rw [e, e1, and_int, Nat.and_one_is_mod, Nat.testBit_eq_decide_div_mod_eq]
  have h2 : m / 2 ^ t % 2 = 0 ∨ m / 2 ^ t % 2 = 1 := by omega
  rcases h2 with h | h <;> rw [h] <;> rfl
theorem ok_bits_of (Fd : C8.Def L.K mg "bits_of" s_bits_of f fd) (b : Binds L.K fd ["mask"] []) (B : Bw mg) : CalG P w L.K mg base C8.CX0 1 "bits_of" (spF L fBits) := by
  have sc := sc_bits_of
  refine calF (n := 1) Fd b sc ?_ (fun vs h => start_eq (by rw [h]; rfl)) fun cdv A outer s H E hr hgu => ?_
  · rintro ds k ⟨t, rfl, _⟩
    rfl
  refine ⟨_, w_one (w_ret (ps_ret (w_lc (sndv_N (by decide)) (pe_lc (own := [("thing", 1)]) (by rfl) sc.nd (w_ir1 (pi_range1 rfl B.range (w_cons (w_bits (pe_bits (w_v (pv 0)) (by rfl))) w_nil))) (blkOk_by (by kernel_rfl)) (fun _ _ _ _ _ => (pg_name (i := 1) sc.nd rfl (by first | exact Or.inl rfl | exact Or.inr rfl)))
    (fun _ _ _ _ _ => w_tone (w_truI (pt_truth (w_op op_and snd_andI (w_op op_shr snd_shr (w_v (pv 0)) (w_v (pv 1))) (w_int (kd := 0) pe_int)) (fun _ => rfl)))) (fun _ _ _ _ _ => (w_op op_shl snd_shl (w_int (kd := 0) pe_int) (w_v (pv 1)))))))), ?_⟩
  rintro ds kk ⟨m, rfl, hm, k⟩
  have hb := bits_le hm
  refine ⟨_, rfl, (m : Int), rfl, _, rfl, by omega, by omega, ?_⟩
  rw [Int.toNat_natCast]
  refine lcP_src (fun i : Nat => Da.int (0 + (i : Nat))) (fun t => m.testBit t) (fun t => Da.int ((2 ^ t : Nat) : Int)) (fun t ht => ?_) (by simp only [List.length_nil, Nat.zero_add, List.length_range]; exact Nat.le_trans hb (by decide)) ?_
  · have ht' : t < 64 := Nat.lt_of_lt_of_le (List.mem_range.mp ht) hb
    rw [Int.zero_add]
    refine ⟨_, rfl, _, rfl, (m : Int), (t : Int), rfl, rfl, by omega, _, 1, rfl, rfl, trivial, _, rfl, shr_bit m t, fun _ => ⟨_, rfl, 1, (t : Int), rfl, rfl, ⟨by omega, by omega, by decide⟩, ?_, rfl⟩, fun _ => rfl⟩
    rw [← shl_int]
  · have e : ((List.range (Builtin.Int.intBits (m : Int))).filter fun t => m.testBit t).map (fun t => Da.int ((2 ^ t : Nat) : Int)) = kd (bitsN m) := by
      unfold kd bitsN
      rw [List.map_map]
      rfl
    rw [List.nil_append, e]
    exact k
abbrev s_swaps : Stmt := topS 23
theorem sc_swaps : FnScope ["size", "known", "mask", "bit", "swaps", "other"] ["size", "known", "mask", "bit"] (C8.fnScope s_swaps) := C8.fnScope_by (by decide +kernel)
def fSwaps : Pf := ⟨fun xs k => ∃ (n : Nat) (ks : List Nat) (m b : Nat), xs = [.int (n : Int), keD (ki ks), .int (m : Int), .int (b : Int)] ∧ n ≤ 8 ∧ k (.int (swN n ks m b : Nat)), fun h ⟨n, ks, m, b, a, c, q⟩ => ⟨n, ks, m, b, a, c, h _ q⟩⟩
theorem mem_ki {k : Nat} {ks : List Nat} : (k : Int) ∈ ki ks ↔ k ∈ ks := by
  unfold ki
  rw [List.mem_map]
  constructor
  · rintro ⟨x, h, e⟩
    have : x = k := by omega
    rw [← this]
    exact h
  · exact fun h => ⟨k, h, rfl⟩
theorem units2 {k : Nat} {A : Around} (r : Room k A) : A.units + 1 < cLine := by
  have := r.un
  omega
theorem pow_lt64 {a : Nat} (h : a ≤ 2 ^ 8) : a - 1 < 2 ^ 64 := Nat.lt_of_le_of_lt (Nat.sub_le a 1) (Nat.lt_of_le_of_lt h (by decide))
theorem ok_swaps (Fd : C8.Def L.K mg "_swaps" s_swaps f fd) (b : Binds L.K fd ["size", "known", "mask", "bit"] []) (LK : LyK L) (c_bits_of : CalG P w L.K mg base C8.CX0 1 "bits_of" (spF L fBits)) :
    CalG P w L.K mg base C8.CX0 2 "_swaps" (spF L fSwaps) := by
  have sc := sc_swaps
  refine calF (n := 2) Fd b sc ?_ (fun vs h => start_eq (by rw [h]; rfl)) fun cdv A outer s H E hr hgu => ?_
  · rintro ds k ⟨n, ks, m, b, rfl, _⟩
    rfl
  refine ⟨_, w_seq (w_set (ps_set (i := 4) sc.nd rfl (by first | exact Or.inl rfl | exact Or.inr rfl) (w_int (kd := 0) pe_int)))
  (w_seq (w_forI snd_tgN (ps_for PassesOwn.never rfl (w_il (pi_list (w_call c_bits_of hr (by decide) hgu rfl (w_cons (w_op op_sub snd_sub (w_op op_shl snd_shl (w_int (kd := 0) pe_int) (w_v (pv 0))) (w_int (kd := 0) pe_int)) w_nil)))) (pg_name (i := 5) sc.nd rfl (by first | exact Or.inl rfl | exact Or.inr rfl))
   (w_one (w_if (ps_if (w_pt (w_and (pw_and (w_notT (pt_not (w_truI (pt_truth (w_op op_and snd_andI (w_v (pv 2)) (w_v (pv 5))) (fun _ => rfl))))) (pw_and1 (w_inK LK (units2 hr) (w_op op_or snd_orI (w_op op_xor snd_xorI (w_v (pv 2)) (w_v (pv 3))) (w_v (pv 5))) (w_v (pv 1)) (by rfl))))))
     (w_one (w_aug snd_orI (ps_aug (i := 4) sc.nd rfl (by first | exact Or.inl rfl | exact Or.inr rfl) (w_v (pv 5)) iop_or)))
     (w_snil pss_nil))))))
  (w_one (w_ret (ps_ret (w_v (pv 4)))))), ?_⟩
  rintro ds kk ⟨n, ks, m, b, rfl, hn, k⟩
  have hp : (2 : Nat) ^ n ≤ 2 ^ 8 := Nat.pow_le_pow_right (by decide) hn
  have hp1 : 1 ≤ (2 : Nat) ^ n := Nat.one_le_two_pow
  refine ⟨_, rfl, 1, (n : Int), rfl, rfl, ⟨by omega, by omega, by decide⟩, _, 1, rfl, rfl, trivial, 2 ^ n - 1, ?_, pow_lt64 hp, _, rfl, ?_⟩
  · have e : ((2 ^ n : Nat) : Int) - 1 = ((2 ^ n - 1 : Nat) : Int) := by omega
    rw [← e, ← shl_int]
  refine loopF_inv (fun j ρ => ∃ (acc : Nat) (z : Option Sl), ρ = [some (.dat (.int (n : Int))), some (.dat (keD (ki ks))), some (.dat (.int (m : Int))), some (.dat (.int (b : Int))), some (.dat (.int (acc : Int))), z] ∧ swGo ks m b ((bitsN (2 ^ n - 1)).drop j) acc = swN n ks m b) ⟨0, none, rfl, rfl⟩ ?_ ?_
  · rintro j x ρ hj ⟨acc, z, rfl, q⟩
    obtain ⟨o, ho, rfl⟩ := map_get hj
    rw [drop_at ho] at q
    have q' : swGo ks m b ((bitsN (2 ^ n - 1)).drop (j + 1)) (if swOk ks m b o = true then acc ||| o else acc) = swN n ks m b := q
    refine ⟨_, rfl, _, rfl, (m : Int), (o : Int), rfl, rfl, trivial, _, rfl, ?_⟩
    have e1 : (!(Builtin.bitAnd (m : Int) (o : Int) != 0)) = decide (m &&& o = 0) := by
      rw [and_int]
      by_cases h : m &&& o = 0
      · simp [h]
      · have h' : ((m &&& o : Nat) : Int) ≠ 0 := by omega
        simp only [h, decide_false, Bool.not_eq_false', bne_iff_ne, ne_eq]
        exact h'
    refine bite (fun h0 => ?_) fun h0 => ?_
    · have h : decide (m &&& o = 0) = true := e1.symm.trans h0
      refine ⟨_, rfl, _, rfl, (m : Int), (b : Int), rfl, rfl, trivial, _, rfl, _, (o : Int), rfl, rfl, trivial, _, rfl, _, ki ks, rfl, rfl, _, rfl, ?_⟩
      have e2 : decide (Builtin.bitOr (Builtin.bitXor (m : Int) (b : Int)) (o : Int) ∈ ki ks) = decide (((m ^^^ b) ||| o) ∈ ks) := by
        rw [xor_int, or_int]
        exact decide_eq_decide.mpr mem_ki
      have e3 : swOk ks m b o = decide (((m ^^^ b) ||| o) ∈ ks) := by
        unfold swOk
        rw [h, Bool.true_and]
      rw [e3] at q'
      refine bite (fun h1 => ?_) fun h1 => ?_
      · have h2 : decide (((m ^^^ b) ||| o) ∈ ks) = true := e2.symm.trans h1
        rw [if_pos h2] at q'
        refine ⟨_, rfl, _, rfl, (acc : Int), (o : Int), rfl, rfl, trivial, acc ||| o, some (.dat (.int (o : Int))), ?_, q'⟩
        rw [← or_int]
        rfl
      · have h2 : decide (((m ^^^ b) ||| o) ∈ ks) = false := e2.symm.trans h1
        rw [h2, if_neg Bool.false_ne_true] at q'
        exact ⟨acc, _, rfl, q'⟩
    · have h : decide (m &&& o = 0) = false := e1.symm.trans h0
      have e3 : swOk ks m b o = false := by
        unfold swOk
        rw [h, Bool.false_and]
      rw [e3, if_neg Bool.false_ne_true] at q'
      exact ⟨acc, _, rfl, q'⟩
  · rintro ρ ⟨acc, z, rfl, q⟩
    have hd : (bitsN (2 ^ n - 1)).drop ((kd (bitsN (2 ^ n - 1))).length) = [] := by
      unfold kd
      rw [List.length_map, List.drop_length]
    rw [hd] at q
    refine ⟨_, rfl, ?_⟩
    have q' : acc = swN n ks m b := q
    rw [q']
    exact k
end
end Fv
namespace Fw
open PySem PySem.Spec PyProof.Rows L2 Fr
/-! # lists or tuples; all([..]) -/
section
variable {X : Cx} {L : Ly} {e a b : Expr} {pos : Pos}
/-- a name's list or tuple, walked over -/
def pILT (i : Nat) : Pl := ⟨fun ρ k => ∃ ds, (ρ[i]? = some (some (.dat (.lst ds))) ∨ ρ[i]? = some (some (.dat (.tup ds)))) ∧ k ds ρ, fun h ⟨ds, a, q⟩ => ⟨ds, a, h _ _ q⟩⟩
theorem w_ilt {tg : Expr} {i : Nat} (p1 : PI X tg e (iList L.K (tVar i))) (p2 : PI X tg e (iTup L.K (tVar i))) : PI X tg e (tWI L (pILT i)) := by
  refine ⟨fun pins s σ H R I ⟨B, G, ρ, r, ds, h, k⟩ => ?_⟩
  rcases h with h | h
  · obtain ⟨v0, hs0, hv⟩ := paired_get r.env h
    cases v0 with
    | none => exact (reps_none hv).elim
    | some v =>
      have hv' : Dv L G v (.lst ds) := hv
      cases hv' with
      | @lst q xs _ hq ha => exact p1.run pins s σ H R I ⟨_, hs0, q, rfl, ⟨xs, .inl (.inl (r.gh _ _ hq))⟩, k _ G H r (Same.refl _) (wk_list hq ha)⟩
  · obtain ⟨v0, hs0, hv⟩ := paired_get r.env h
    cases v0 with
    | none => exact (reps_none hv).elim
    | some v =>
      have hv' : Dv L G v (.tup ds) := hv
      cases hv' with
      | @tup q xs _ hq ha => exact p2.run pins s σ H R I ⟨_, hs0, q, rfl, ⟨xs, same_sqt r.gh hq⟩, k _ G H r (Same.refl _) (wk_tup hq ha)⟩
theorem ix_or {R R' : R2} (h1 : IxR X R) (h2 : IxR X R') : IxR X (fun x y H Q => R x y H Q ∨ R' x y H Q) := by
  intro value slice pins s σ H x y v u Q I rx ry h hs
  rcases h with h | h
  · exact h1 value slice pins s σ H x y v u Q I rx ry h hs
  · exact h2 value slice pins s σ H x y v u Q I rx ry h hs
def rIx2 : R2p := ⟨fun x y k => rIxP.f x y k ∨ rIxTP.f x y k, fun h z => z.imp (rIxP.mono h) (rIxTP.mono h)⟩
theorem snd_ix2 : Snd2 L (fun x y H Q => rIxL L.K x y H Q ∨ rIxT L.K x y H Q) rIx2 := by
  rintro B G H σ ρ v u x y Q r d1 d2 z
  exact z.imp (snd_ix r d1 d2) (snd_ixT r d1 d2)
def rAllB : R1p := ⟨fun xs k => ∃ bs : List Bool, xs = [.lst (bs.map Da.bl)] ∧ k (.bl (bs.all id)), fun h ⟨bs, e, q⟩ => ⟨bs, e, h _ q⟩⟩
theorem dv_bls {G : Hp} : ∀ {bs : List Bool} {vs : List V}, DvAll L G vs (bs.map Da.bl) → vs = bs.map V.bl
  | [], _, .nil => rfl
  | _ :: _, _, .cons d t => by
    cases d
    rw [dv_bls t]
    rfl
theorem snd_all : Snd1 L (rAll L.K) rAllB := by
  rintro B G H σ ρ vs xs Q r dv ⟨bs, rfl, k⟩
  cases dv with
  | cons d t =>
    cases t
    cases d with
    | @lst a ys _ hs ha =>
      have e := dv_bls ha
      subst e
      exact ⟨a, bs, rfl, .inl (.inl (r.gh _ _ hs)), k _ G H r (Same.refl _) (.bl _)⟩
end
end Fw
namespace Fv
open PySem PySem.Spec PyProof.Rows L2 Fr Fw
section
variable {P : Program} {w : World} {L : Ly} {mg : Str → Option Value} {base : Heap} {f : Addr} {fd : FuncData}
/-! ### are_exchanged -/
theorem dcP_ints {α : Type} {t : Tg} {el : Px} {vs : List Nat} {k : List Int → En → Prop} {ρ : En} (emb : α → Da) (out : α → Int) : ∀ {src : List α} {acc : List Int},
    (∀ a ∈ src, t.f (emb a) ρ fun ρ2 => el.f ρ2 fun y ρ4 => y = .int (out a) ∧ wipeR ρ4 vs = ρ) → acc.length + src.length ≤ sizeLine → k ((src.map out).foldl putI acc) ρ → dcP t el vs k (src.map emb) acc ρ
  | [], acc, _, _, h => h
  | x :: r, acc, hx, hl, h => t.mono (fun ρ2 h2 => el.mono (fun y ρ4 ⟨e, q⟩ => by
      have hl' : acc.length + (r.length + 1) ≤ sizeLine := hl
      refine ⟨out x, e, by omega, ?_⟩
      rw [q]
      refine dcP_ints emb out (fun a ha => hx a (List.mem_cons_of_mem _ ha)) ?_ h
      have h3 : (putI acc (out x)).length ≤ acc.length + 1 := by
        unfold putI
        split
        · omega
        · simp
      omega) h2) (hx x List.mem_cons_self)
theorem mem_foldPut {x : Int} : ∀ {l acc : List Int}, x ∈ l.foldl putI acc ↔ x ∈ acc ∨ x ∈ l
  | [], acc => by simp
  | y :: l, acc => by
    rw [List.foldl_cons, mem_foldPut]
    have h : x ∈ putI acc y ↔ x ∈ acc ∨ x = y := by
      unfold putI
      split
      · rename_i hy
        constructor
        · exact .inl
        · rintro (z | z)
          · exact z
          · rw [z]; exact hy
      · simp
    rw [h, List.mem_cons, or_assoc]
theorem ki_toNat : ∀ {l : List Int}, (∀ x ∈ l, 0 ≤ x) → ki (l.map Int.toNat) = l
  | [], _ => rfl
  | x :: l, h => by
    have h1 := h x List.mem_cons_self
    have ih := ki_toNat (l := l) fun y hy => h y (List.mem_cons_of_mem _ hy)
    show ((x.toNat : Nat) : Int) :: ki (l.map Int.toNat) = _
    rw [ih, Int.toNat_of_nonneg h1]
theorem swGo_congr {ks ks' : List Nat} (h : ∀ x, x ∈ ks ↔ x ∈ ks') (m b : Nat) : ∀ (l : List Nat) (acc : Nat), swGo ks m b l acc = swGo ks' m b l acc
  | [], _ => rfl
  | o :: r, acc => by
    have e : swOk ks m b o = swOk ks' m b o := by
      unfold swOk
      rw [decide_eq_decide.mpr (h _)]
    show swGo ks m b r _ = swGo ks' m b r _
    rw [e]
    exact swGo_congr h m b r _
theorem exN_congr {n : Nat} {ks ks' : List Nat} (h : ∀ x, x ∈ ks ↔ x ∈ ks') : ExN n ks ↔ ExN n ks' := by
  have e : ∀ m b, swN n ks m b = swN n ks' m b := fun m b => swGo_congr h m b _ _
  unfold ExN
  constructor
  · intro q m hm b hb o ho
    rw [← e]
    exact q m ((h m).mpr hm) b hb o ((h o).mpr ho)
  · intro q m hm b hb o ho
    rw [e]
    exact q m ((h m).mp hm) b hb o ((h o).mp ho)
abbrev s_are_exchanged : Stmt := topS 22
theorem sc_are_exchanged : FnScope ["size", "masks", "known", "mask", "bit", "swaps", "other"] ["size", "masks"] (C8.fnScope s_are_exchanged) := C8.fnScope_by (by decide +kernel)
def fExch : Pf := ⟨fun xs k => ∃ (n : Nat) (ks : List Nat), xs = [.int (n : Int), .lst (kd ks)] ∧ n ≤ 8 ∧ (∀ m ∈ ks, m < 2 ^ 64) ∧ ks.length ≤ 1000 ∧ ∀ r, (r = true ↔ ExN n ks) → k (.bl r), fun h ⟨n, ks, a, c, e, l, q⟩ => ⟨n, ks, a, c, e, l, fun r p => h _ (q r p)⟩⟩
theorem and_test (a b : Nat) : (!(Builtin.bitAnd (a : Int) (b : Int) != 0)) = decide (a &&& b = 0) := by
  rw [and_int]
  by_cases h : a &&& b = 0
  · simp [h]
  · have h' : ((a &&& b : Nat) : Int) ≠ 0 := by omega
    simp only [h, decide_false, Bool.not_eq_false', bne_iff_ne, ne_eq]
    exact h'
theorem ok_are_exchanged (Fd : C8.Def L.K mg "are_exchanged" s_are_exchanged f fd) (b : Binds L.K fd ["size", "masks"] []) (LK : LyK L) (c_bits_of : CalG P w L.K mg base C8.CX0 1 "bits_of" (spF L fBits)) (c_swaps : CalG P w L.K mg base C8.CX0 2 "_swaps" (spF L fSwaps)) :
    CalG P w L.K mg base C8.CX0 3 "are_exchanged" (spF L fExch) := by
  have sc := sc_are_exchanged
  refine calF (n := 5) Fd b sc ?_ (fun vs h => start_eq (by rw [h]; rfl)) fun cdv A outer s H E hr hgu => ?_
  · rintro ds k ⟨n, ks, rfl, _⟩
    rfl
  refine ⟨_, w_seq (w_setDc LK (sndv_N (by decide)) (ps_setDc (i := 2) (own := [("mask", 3)]) (by rfl) sc.nd rfl (by rfl) (sw_dict rfl (by rfl) rfl (by decide +kernel)) (w_il (pi_list (w_v (pv 1)))) (blkOk_by (by kernel_rfl)) (fun _ _ _ _ _ => (pg_name (i := 3) sc.nd rfl (by first | exact Or.inl rfl | exact Or.inr rfl))) (fun _ _ _ _ _ => w_tnil) (fun _ _ _ _ _ => w_v (pv 3)) (fun _ _ _ _ _ => pe_bl)))
  (w_seq (w_forI snd_tgN (ps_for PassesOwn.never rfl (w_ik LK (pi_keys (w_v (pv 2)))) (pg_name (i := 3) sc.nd rfl (by first | exact Or.inl rfl | exact Or.inr rfl))
   (w_one (w_forI snd_tgN (ps_for PassesOwn.never rfl (w_il (pi_list (w_call c_bits_of hr (by decide) hgu rfl (w_cons (w_v (pv 3)) w_nil)))) (pg_name (i := 4) sc.nd rfl (by first | exact Or.inl rfl | exact Or.inr rfl))
     (w_seq (w_set (ps_set (i := 5) sc.nd rfl (by first | exact Or.inl rfl | exact Or.inr rfl) (w_call c_swaps hr (by decide) hgu rfl (w_cons (w_v (pv 0)) (w_cons (w_v (pv 2)) (w_cons (w_v (pv 3)) (w_cons (w_v (pv 4)) w_nil)))))))
      (w_one (w_forI snd_tgN (ps_for PassesOwn.never rfl (w_ik LK (pi_keys (w_v (pv 2)))) (pg_name (i := 6) sc.nd rfl (by first | exact Or.inl rfl | exact Or.inr rfl))
       (w_one (w_if (ps_if (w_pt (w_and (pw_and (w_notT (pt_not (w_truI (pt_truth (w_op op_and snd_andI (w_v (pv 6)) (w_v (pv 4))) (fun _ => rfl))))) (pw_and1 (w_notT (pt_not (w_truI (pt_truth (w_op op_and snd_andI (w_v (pv 6)) (w_v (pv 5))) (fun _ => rfl)))))))))
         (w_one (w_ret (ps_ret (w_bl pe_bl))))
         (w_snil pss_nil)))))))))))))
  (w_one (w_ret (ps_ret (w_bl pe_bl))))), ?_⟩
  rintro ds kk ⟨n, ks, rfl, hn, hks, hl, k⟩
  refine ⟨_, rfl, _, rfl, dcP_ints (fun k : Nat => Da.int (k : Int)) (fun k : Nat => (k : Int)) (fun m _ => ⟨_, rfl, rfl, rfl⟩) (by simp only [List.length_nil, Nat.zero_add]; exact Nat.le_trans hl (by decide)) ?_⟩
  have hmem : ∀ x : Int, x ∈ ((ks.map fun k : Nat => (k : Int)).foldl putI []) ↔ x ∈ ki ks := fun x => by
    rw [mem_foldPut]
    show (x ∈ [] ∨ x ∈ ki ks) ↔ x ∈ ki ks
    simp
  obtain ⟨kn, hkn⟩ : ∃ kn : List Nat, (ks.map fun k : Nat => (k : Int)).foldl putI [] = ki kn := by
    refine ⟨_, (ki_toNat fun x hx => ?_).symm⟩
    obtain ⟨u, _, e⟩ := List.mem_map.mp ((hmem x).mp hx)
    omega
  rw [hkn] at hmem ⊢
  have hm2 : ∀ x : Nat, x ∈ kn ↔ x ∈ ks := fun x => by rw [← mem_ki, ← mem_ki]; exact hmem x
  have k' : ∀ r, (r = true ↔ ExN n kn) → kk (.bl r) := fun r h => k r (h.trans (exN_congr hm2))
  have hbd : ∀ m ∈ kn, m < 2 ^ 64 := fun m hm => hks m ((hm2 m).mp hm)
  clear hmem hkn k hm2 hks hl
  have edk : (ki kn).map Da.int = kd kn := by
    unfold ki kd
    rw [List.map_map]
    rfl
  refine ⟨_, rfl, ki kn, rfl, ?_⟩
  rw [edk]
  have lkd : ∀ l : List Nat, (kd l).length = l.length := fun l => by unfold kd; rw [List.length_map]
  refine loopF_inv (fun j ρ => (∃ a b c d, ρ = [some (.dat (.int (n : Int))), some (.dat (.lst (kd ks))), some (.dat (keD (ki kn))), a, b, c, d]) ∧ ∀ m ∈ kn.take j, ∀ b ∈ bitsN m, ∀ o ∈ kn, o &&& b ≠ 0 ∨ o &&& swN n kn m b ≠ 0) ⟨⟨_, _, _, _, rfl⟩, fun _ h => by simp at h⟩ ?_ ?_
  · rintro j x ρ hj ⟨⟨a1, a2, a3, a4, rfl⟩, h1⟩
    obtain ⟨m, hm, rfl⟩ := map_get hj
    have mm := List.mem_of_getElem? hm
    refine ⟨_, rfl, m, rfl, hbd m mm, _, rfl, ?_⟩
    refine loopF_inv (fun j ρ => (∃ b c d, ρ = [some (.dat (.int (n : Int))), some (.dat (.lst (kd ks))), some (.dat (keD (ki kn))), some (.dat (.int (m : Int))), b, c, d]) ∧ ∀ b ∈ (bitsN m).take j, ∀ o ∈ kn, o &&& b ≠ 0 ∨ o &&& swN n kn m b ≠ 0) ⟨⟨_, _, _, rfl⟩, fun _ h => by simp at h⟩ ?_ ?_
    · rintro i y ρ hi ⟨⟨b2, b3, b4, rfl⟩, h2⟩
      obtain ⟨t, ht, rfl⟩ := map_get hi
      refine ⟨_, rfl, _, rfl, _, rfl, _, rfl, n, kn, m, t, rfl, hn, _, rfl, ki kn, rfl, ?_⟩
      rw [edk]
      refine loopF_inv (fun j ρ => (∃ d, ρ = [some (.dat (.int (n : Int))), some (.dat (.lst (kd ks))), some (.dat (keD (ki kn))), some (.dat (.int (m : Int))), some (.dat (.int (t : Int))), some (.dat (.int (swN n kn m t : Nat))), d]) ∧ ∀ o ∈ kn.take j, o &&& t ≠ 0 ∨ o &&& swN n kn m t ≠ 0) ⟨⟨_, rfl⟩, fun _ h => by simp at h⟩ ?_ ?_
      · rintro p z ρ hp ⟨⟨c4, rfl⟩, h3⟩
        obtain ⟨o, ho, rfl⟩ := map_get hp
        refine ⟨_, rfl, _, rfl, (o : Int), (t : Int), rfl, rfl, trivial, _, rfl, bite (fun q0 => ?_) fun q0 => ?_⟩
        · have q : o &&& t = 0 := of_decide_eq_true ((and_test o t).symm.trans q0)
          refine ⟨_, rfl, _, rfl, (o : Int), ((swN n kn m t : Nat) : Int), rfl, rfl, trivial, _, rfl, bite (fun q1 => ?_) fun q1 => ?_⟩
          · have q2 : o &&& swN n kn m t = 0 := of_decide_eq_true ((and_test o (swN n kn m t)).symm.trans q1)
            refine k' false ⟨fun z => (by cases z), fun z => ?_⟩
            rcases z m mm t (List.mem_of_getElem? ht) o (List.mem_of_getElem? ho) with y | y
            · exact absurd q y
            · exact absurd q2 y
          · have q2 : ¬ o &&& swN n kn m t = 0 := of_decide_eq_false ((and_test o (swN n kn m t)).symm.trans q1)
            exact ⟨⟨_, rfl⟩, take_all ho h3 (.inr q2)⟩
        · have q : ¬ o &&& t = 0 := of_decide_eq_false ((and_test o t).symm.trans q0)
          exact ⟨⟨_, rfl⟩, take_all ho h3 (.inl q)⟩
      · rintro ρ ⟨⟨c4, rfl⟩, h3⟩
        rw [lkd, List.take_length] at h3
        exact ⟨⟨_, _, _, rfl⟩, take_all ht h2 h3⟩
    · rintro ρ ⟨⟨b2, b3, b4, rfl⟩, h2⟩
      rw [lkd, List.take_length] at h2
      exact ⟨⟨_, _, _, _, rfl⟩, take_all hm h1 h2⟩
  · rintro ρ ⟨⟨a1, a2, a3, a4, rfl⟩, h1⟩
    rw [lkd, List.take_length] at h1
    exact k' true ⟨fun _ => h1, fun _ => rfl⟩
end
end Fv
namespace Fv
open PySem PySem.Spec PyProof.Rows L2 Fr Fw
/-! # lists of lots of one length -/
def LotOk (n : Int) (t : List Int) : Prop := t.Pairwise (· < ·) ∧ ∀ x ∈ t, 0 ≤ x ∧ x < n
theorem lotGo_iff (n : Int) : ∀ (xs : List Da) (lo : Int), lotGo n lo xs = true ↔ ∃ t : List Int, xs = t.map Da.int ∧ t.Pairwise (· < ·) ∧ ∀ y ∈ t, lo ≤ y ∧ y < n
  | [], lo => ⟨fun _ => ⟨[], rfl, .nil, by simp⟩, fun _ => rfl⟩
  | x :: r, lo => by
    have h : lotGo n lo (x :: r) = (inB x lo (n - 1) && lotGo n (daI x + 1) r) := rfl
    rw [h, Bool.and_eq_true, lotGo_iff n r]
    constructor
    · rintro ⟨h1, t, rfl, h2, h3⟩
      cases x with
      | int i =>
        have h1' : (decide (lo ≤ i) && decide (i ≤ n - 1)) = true := h1
        rw [Bool.and_eq_true, decide_eq_true_eq, decide_eq_true_eq] at h1'
        have h3' : ∀ y ∈ t, i + 1 ≤ y ∧ y < n := h3
        refine ⟨i :: t, rfl, List.pairwise_cons.mpr ⟨fun y hy => by have := h3' y hy; omega, h2⟩, fun y hy => ?_⟩
        rcases List.mem_cons.mp hy with rfl | hy
        · omega
        · have := h3' y hy
          omega
      | _ => cases h1
    · rintro ⟨t, e, h2, h3⟩
      cases t with
      | nil => cases e
      | cons i t =>
        cases e
        obtain ⟨h4, h5⟩ := List.pairwise_cons.mp h2
        have h6 := h3 i List.mem_cons_self
        refine ⟨?_, t, rfl, h5, fun y hy => ⟨?_, (h3 y (List.mem_cons_of_mem _ hy)).2⟩⟩
        · show (decide (lo ≤ i) && decide (i ≤ n - 1)) = true
          rw [Bool.and_eq_true, decide_eq_true_eq, decide_eq_true_eq]
          omega
        · have := h4 y hy
          show i + 1 ≤ y
          omega
theorem lotB_iff {n : Int} {d : Da} : lotB n d = true ↔ ∃ t, d = ti t ∧ LotOk n t := by
  cases d with
  | tup xs =>
    show lotGo n 0 xs = true ↔ _
    rw [lotGo_iff]
    constructor
    · rintro ⟨t, rfl, h⟩
      exact ⟨t, rfl, h⟩
    · rintro ⟨t, e, h⟩
      cases e
      exact ⟨t, rfl, h⟩
  | _ =>
    refine ⟨fun h => (by cases h), ?_⟩
    rintro ⟨t, e, _⟩
    cases e
def LotsP (n : Int) (d : Da) : Prop := ∃ bs : List (List Int), (d = lti bs ∨ d = .tup (bs.map ti)) ∧ bs ≠ [] ∧ ∃ m, ∀ b ∈ bs, LotOk n b ∧ b.length = m
def Kn3 (d : Da) : Prop := Kn d ∧ ∀ xs, (d = .lst xs ∨ d = .tup xs) → xs.length ≤ 1000 ∧ ∀ x ∈ xs, Kn2 x
theorem lcP_id {t : Tg} {el : Px} {vs : List Nat} {k : List Da → En → Prop} {ρ : En} (out : Da → Da) {src : List Da} (hx : ∀ a ∈ src, t.f a ρ fun ρ2 => el.f ρ2 fun y ρ4 => y = out a ∧ wipeR ρ4 vs = ρ) (hl : src.length ≤ sizeLine)
    (h : k (src.map out) ρ) : lcP t pYes el vs k src [] ρ := by
  have q := lcP_all (vs := vs) (k := k) (ρ := ρ) (t := t) (el := el) (fun x : Da => x) out hx hl h
  have e : src.map (fun x : Da => x) = src := List.map_id' src
  rwa [e] at q
section
variable {P : Program} {w : World} {L : Ly} {mg : Str → Option Value} {base : Heap} {f : Addr} {fd : FuncData}
abbrev s_are_lots_of_one_length : Stmt := topS 21
theorem sc_are_lots_of_one_length : FnScope ["size", "bases", "base"] ["size", "bases"] (C8.fnScope s_are_lots_of_one_length) := C8.fnScope_by (by decide +kernel)
def fLots1 : Pf := ⟨fun xs k => ∃ (n : Int) (d : Da), xs = [.int n, d] ∧ Kn3 d ∧ ∀ r, (r = true ↔ LotsP n d) → k (.bl r), fun h ⟨n, d, a, c, q⟩ => ⟨n, d, a, c, fun r p => h _ (q r p)⟩⟩
theorem ok_are_lots (Fd : C8.Def L.K mg "_are_lots_of_one_length" s_are_lots_of_one_length f fd) (b : Binds L.K fd ["size", "bases"] []) (B : Bw mg) (Bx : Bx mg) (c_is_list : CalG P w L.K mg base C8.CX0 1 "is_list" (spF L fIsL))
    (c_is_lot : CalG P w L.K mg base C8.CX0 3 "is_lot" (spF L fIsLot)) : CalG P w L.K mg base C8.CX0 4 "_are_lots_of_one_length" (spF L fLots1) := by
  have sc := sc_are_lots_of_one_length
  refine calF (n := 1) Fd b sc ?_ (fun vs h => start_eq (by rw [h]; rfl)) fun cdv A outer s H E hr hgu => ?_
  · rintro ds k ⟨n, d, rfl, _⟩
    rfl
  refine ⟨_, w_seq (w_if (ps_if (w_pt (w_or (pw_or (w_notT (pt_not (w_val (pt_val (w_call c_is_list hr (by decide) hgu rfl (w_cons (w_v (pv 1)) w_nil)))))) (pw_or1 (w_cmpT (op_eqD hr.units) snd_eq (w_tCB snd_len (pe_callB call_len_seq (by rfl) B.len (by decide +kernel) (w_cons (w_v (pv 1)) w_nil))) (w_int (kd := 0) pe_int) (nomark _))))))
   (w_one (w_ret (ps_ret (w_bl pe_bl))))
   (w_snil pss_nil)))
  (w_seq (w_if (ps_if (w_notT (pt_not (w_val (pt_val (w_tCB snd_all (pe_callB (cr_all rfl) (by rfl) Bx.all (by decide +kernel) (w_cons (w_lc (sndv_N (by decide)) (pe_lc (own := [("base", 2)]) (by rfl) sc.nd (w_ilt (pi_list (pv 1)) (pi_tup (pv 1))) (blkOk_by (by kernel_rfl)) (fun _ _ _ _ _ => (pg_name (i := 2) sc.nd rfl (by first | exact Or.inl rfl | exact Or.inr rfl))) (fun _ _ _ _ _ => w_tnil) (fun _ _ _ _ _ => w_call c_is_lot hr (by decide) hgu rfl (w_cons (w_v (pv 2)) (w_cons (w_v (pv 0)) w_nil))))) w_nil)))))))
   (w_one (w_ret (ps_ret (w_bl pe_bl))))
   (w_snil pss_nil)))
  (w_one (w_ret (ps_ret (w_tCB snd_all (pe_callB (cr_all rfl) (by rfl) Bx.all (by decide +kernel) (w_cons (w_lc (sndv_N (by decide)) (pe_lc (own := [("base", 2)]) (by rfl) sc.nd (w_ilt (pi_list (pv 1)) (pi_tup (pv 1))) (blkOk_by (by kernel_rfl)) (fun _ _ _ _ _ => (pg_name (i := 2) sc.nd rfl (by first | exact Or.inl rfl | exact Or.inr rfl))) (fun _ _ _ _ _ => w_tnil)
    (fun _ _ _ _ _ => w_cmp (op_eqD hr.units) snd_eq (w_tCB snd_len (pe_callB call_len_seq (by rfl) B.len (by decide +kernel) (w_cons (w_v (pv 2)) w_nil))) (w_tCB snd_len (pe_callB call_len_seq (by rfl) B.len (by decide +kernel) (w_cons (w_ix (ix_or ix_list ix_tup) snd_ix2 (w_v (pv 1)) (w_int (kd := 0) pe_int) (fun _ _ => rfl)) w_nil))) (nomark _)))) w_nil))))))), ?_⟩
  rintro ds kk ⟨n, d, rfl, ⟨hk, hx⟩, k⟩
  refine ⟨d, rfl, _, rfl, hk, _, rfl, bite (fun h => ?_) fun h => ?_⟩
  · refine k false ⟨fun z => (by cases z), fun z => ?_⟩
    obtain ⟨bs, e, _⟩ := z
    rcases e with e | e <;> subst e <;> cases h
  obtain ⟨xs, hd⟩ : ∃ xs, d = .lst xs ∨ d = .tup xs := by
    cases d with
    | lst xs => exact ⟨xs, .inl rfl⟩
    | tup xs => exact ⟨xs, .inr rfl⟩
    | _ => cases h
  obtain ⟨hlen, hall⟩ := hx xs hd
  have hρ : [some (Sl.dat (.int n)), some (Sl.dat d), (none : Option Sl)][1]? = some (some (.dat (.lst xs))) ∨ [some (Sl.dat (.int n)), some (Sl.dat d), (none : Option Sl)][1]? = some (some (.dat (.tup xs))) := by
    rcases hd with e | e <;> subst e
    · exact .inl rfl
    · exact .inr rfl
  refine ⟨d, rfl, xs, hd.imp (fun e => by rw [e]) (fun e => by rw [e]), _, _, rfl, rfl, rfl, rfl, _, rfl, bite (fun h0 => ?_) fun h0 => ?_⟩
  · refine k false ⟨fun z => (by cases z), fun z => ?_⟩
    obtain ⟨bs, e, ne, _⟩ := z
    have e0 : ((xs.length : Nat) : Int) = 0 := by simpa [PyData.eqv] using h0
    have e1 : xs = [] := List.eq_nil_of_length_eq_zero (by omega)
    subst e1
    rcases hd with q | q <;> subst q <;> rcases e with e | e
    · exact (ne (List.map_eq_nil_iff.mp (Da.lst.inj e).symm)).elim
    · cases e
    · cases e
    · exact (ne (List.map_eq_nil_iff.mp (Da.tup.inj e).symm)).elim
  have hne : xs ≠ [] := fun e => by
    subst e
    cases h0
  refine ⟨xs, hρ, lcP_id (fun x => .bl (lotB n x)) (fun x m => ⟨_, rfl, _, rfl, x, n, rfl, hall x m, rfl, rfl⟩) (Nat.le_trans hlen (by decide)) ?_⟩
  refine ⟨xs.map (lotB n), ?_, _, rfl, bite (fun h1 => ?_) fun h1 => ?_⟩
  · rw [List.map_map]
    rfl
  · have h2 : ¬ ∀ x ∈ xs, lotB n x = true := fun z => by
      have : ((xs.map (lotB n)).all id) = true := by
        rw [List.all_map, List.all_eq_true]
        exact z
      rw [this] at h1
      cases h1
    refine k false ⟨fun z => (by cases z), fun z => (h2 ?_).elim⟩
    obtain ⟨bs, e, _, m, hb⟩ := z
    have e2 : xs = bs.map ti := by
      rcases hd with q | q <;> subst q <;> rcases e with e | e
      · exact Da.lst.inj e
      · cases e
      · cases e
      · exact Da.tup.inj e
    intro x hx
    rw [e2] at hx
    obtain ⟨b, hb1, rfl⟩ := List.mem_map.mp hx
    exact lotB_iff.mpr ⟨b, rfl, (hb b hb1).1⟩
  have h2 : ∀ x ∈ xs, lotB n x = true := by
    have h3 : ((xs.map (lotB n)).all id) = true := by simpa using h1
    rw [List.all_map, List.all_eq_true] at h3
    exact h3
  obtain ⟨bs, hbs, hok⟩ : ∃ bs : List (List Int), xs = bs.map ti ∧ ∀ b ∈ bs, LotOk n b := by
    clear hρ hd hx hall hlen h0 hne h1
    induction xs with
    | nil => exact ⟨[], rfl, by simp⟩
    | cons x r ih =>
      obtain ⟨t, e, ho⟩ := lotB_iff.mp (h2 x List.mem_cons_self)
      obtain ⟨bs, e2, ho2⟩ := ih fun y hy => h2 y (List.mem_cons_of_mem _ hy)
      refine ⟨t :: bs, by rw [e, e2]; rfl, fun b hb => ?_⟩
      rcases List.mem_cons.mp hb with rfl | hb
      · exact ho
      · exact ho2 b hb
  subst hbs
  cases bs with
  | nil => exact absurd rfl hne
  | cons b0 r =>
    refine ⟨_, hρ, lcP_all ti (fun b => .bl (decide (b.length = b0.length))) (fun b m => ?_) (by rw [List.length_map] at hlen; exact Nat.le_trans hlen (by decide)) ?_⟩
    · refine ⟨_, rfl, _, .inr rfl, ⟨d, rfl, ?_⟩⟩
      have fin : ∀ y : Da, y = .bl (PyData.eqv (.int ((b.map Da.int).length : Nat)) (.int ((b0.map Da.int).length : Nat))) → y = .bl (decide (b.length = b0.length)) := by
        rintro y rfl
        rw [List.length_map, List.length_map]
        congr 1
        show (((b.length : Nat) : Int) == ((b0.length : Nat) : Int)) = _
        by_cases z : b.length = b0.length
        · simp [z]
        · have z' : ((b.length : Nat) : Int) ≠ ((b0.length : Nat) : Int) := by omega
          simp [z, beq_eq_false_iff_ne.mpr z']
      rcases hd with q | q <;> subst q
      · exact .inl ⟨_, 0, ti b0, rfl, rfl, Fw.atI_nat (j := 0) rfl, _, .inr rfl, _, _, rfl, rfl, rfl, rfl, fin _ rfl, rfl⟩
      · exact .inr ⟨_, 0, ti b0, rfl, rfl, Fw.atI_nat (j := 0) rfl, _, .inr rfl, _, _, rfl, rfl, rfl, rfl, fin _ rfl, rfl⟩
    · refine ⟨(b0 :: r).map fun b => decide (b.length = b0.length), by rw [List.map_map]; rfl, k _ ?_⟩
      rw [List.all_map, List.all_eq_true]
      constructor
      · intro z
        exact ⟨b0 :: r, hd, by simp, b0.length, fun b hb => ⟨hok b hb, of_decide_eq_true (z b hb)⟩⟩
      · rintro ⟨bs, e, _, m, hb⟩ b hbm
        have e2 : (b0 :: r).map ti = bs.map ti := by
          rcases hd with q | q <;> subst q <;> rcases e with e | e
          · exact Da.lst.inj e
          · cases e
          · cases e
          · exact Da.tup.inj e
        have e3 : ∀ x ∈ b0 :: r, x.length = m := fun x hx => by
          have : ti x ∈ bs.map ti := by rw [← e2]; exact List.mem_map.mpr ⟨x, hx, rfl⟩
          obtain ⟨y, hy, q⟩ := List.mem_map.mp this
          have q' := Da.tup.inj q
          have := congrArg List.length q'
          rw [List.length_map, List.length_map] at this
          rw [← this]
          exact (hb y hy).2
        show decide (b.length = b0.length) = true
        rw [decide_eq_true_eq, e3 b hbm, e3 b0 List.mem_cons_self]
end
end Fv
namespace Fr
open PySem PySem.Spec PyProof.Rows L2
/-! # a caught exception that is kept behind its suite -/
section
variable {X : Cx} {pins : List (Addr × Obj)} {σ : L2.St} {H : Hp} {s : Shared}
/-- what was only pinned is tracked from now on -/
theorem track {a : Addr} {oe : Obj} {o : HO} (I : Inv X ((a, oe) :: pins) σ H s) (h0 : X.s_0.heap.get? a = none) (hp : ∀ p ∈ X.pn ++ pins, p.1 ≠ a) (new : ObjOk X.prog X.w (upd H a o) s.heap a o) : Inv X pins σ (upd H a o) s := by
  obtain ⟨ea, na, nl, nf, nc⟩ := I.pin (a, oe) (List.mem_append_right _ List.mem_cons_self)
  have off : ∀ {b : Addr} {u : HO}, H b = some u → upd H a o b = some u := fun {b u} e => by
    rw [upd_ne (ne_of_none e na)]
    exact e
  refine ⟨I.ok, I.os, I.bare, ⟨I.base.keep, I.base.slot, fun b ob e n hx => ?_, I.base.there, fun b xs e => off (I.base.tups b xs e), fun b ob u e => off (I.base.frzs b ob u e), fun b ps e => ?_⟩, I.loc, I.cell, ?_, fun x c e => ?_, fun p hm => ?_, fun b u e => ?_, I.len⟩
  · rw [upd_ne (fun z => by rw [z, h0] at e; cases e)]
    exact I.base.free b ob e n hx
  · obtain ⟨more, q⟩ := I.base.tbls b ps e
    exact ⟨more, off q⟩
  · rw [upd_ne (Ne.symm nl)]
    exact I.free
  · obtain ⟨v, oc, ec, hc⟩ := I.cell x c e
    rw [upd_ne (fun z => by rw [z, ea] at ec; cases ec; exact nc _ hc)]
    exact I.freeC x c e
  · have hm' : p ∈ X.pn ++ ((a, oe) :: pins) := by
      rcases List.mem_append.mp hm with z | z
      · exact List.mem_append_left _ z
      · exact List.mem_append_right _ (List.mem_cons_of_mem _ z)
    obtain ⟨e1, e2, e3, e4, e5⟩ := I.pin p hm'
    refine ⟨e1, ?_, e3, e4, e5⟩
    rw [upd_ne (hp p hm)]
    exact e2
  · by_cases hb : b = a
    · subst hb
      rw [upd_same] at e
      cases e
      exact new
    · rw [upd_ne hb] at e
      exact (I.hok b u e).stay (fun _ _ _ q => q) (fun _ q => off q) fun _ _ q => off q
/-- .. of a suite's own inside -/
theorem keepPin {a : Addr} {q : Addr × Obj} {pn' : List (Addr × Obj)} (I : Inv (X.suite a (q :: (X.pn ++ pins))) pn' σ H s) (ok : X.Ok) : Inv X (q :: pins) σ H s :=
  { I.unsuite ok with pin := fun p hp => I.pin p (List.mem_append_left _ (by
      rcases List.mem_append.mp hp with z | z
      · exact List.mem_cons_of_mem _ (List.mem_append_left _ z)
      · rcases List.mem_cons.mp z with z | z
        · rw [z]
          exact List.mem_cons_self
        · exact List.mem_cons_of_mem _ (List.mem_append_right _ z))) }
end
/-- what such a clause wishes -/
def wKp (K : PySem.W.Frag) (c : Value) (i : Nat) (ts : Addr → Value → Option Addr → TS) (Wout : WX) (D : Ends) : WX := fun cls d σ H =>
  ∃ b, PySem.W.exmOne K cls c = some b ∧ (b = true → ∃ C, cls = .ref C ∧ ∀ a, H a = none → ts a cls d { nx := fun σ' H' => D.nx (σ'.set i none) (upd H' a (exv a C d)), rt := fun _ _ => False, bk := fun _ _ => False, ct := fun _ _ => False } (σ.set i (some (.ref a))) H) ∧
    (b = false → Wout cls d σ H)
theorem ps_try_keep {X : Cx} {x n : Str} {c : Value} {i : Nat} {body suite : List Stmt} {b0 : Stmt} {np po ph : Pos} {tb : WX → TS} {ts : Addr → Value → Option Addr → TS} {Wout : WX} (stk : X.stack = X.env :: X.outer) (frm : X.env.frame = some X.env.locals) (hex : X.ex = []) (nd : X.N.Nodup)
    (hi : X.N[i]? = some n) (kn : X.env.kindOf n = some .local) (nam : Names X x c) (tk : Takes X Wout)
    (hbody : ∀ (W : WX) (pn : List (Addr × Obj)) (xe : Value → Shared → Prop), Takes (X.tr pn xe) W → PassesOwn (model X.prog X.w) X.A X.env xe → PSs (X.tr pn xe) body (tb W))
    (hsuite : ∀ (a : Addr) (oe : Obj) (cls : Value) (d : Option Addr) (pn : List (Addr × Obj)), Zc cls d oe → (∃ vs, oe.data = .fields vs) → PSs (X.suite a ((a, oe) :: pn)) (b0 :: suite) (ts a cls d)) :
    PS X (.Try body [.ExceptHandler (some (.Name x np)) (some n) (b0 :: suite) ph] [] [] po) (fun D σ H => tb (wKp X.K c i ts Wout D) D σ H) := by
  constructor
  intro pins s σ H D I h
  have ok := I.ok
  have frs0 : X.A.frames = some (X.env :: X.outer) := ok.frames.trans (congrArg some stk)
  refine wpAny_Try_except (wpAny_mono ((hbody (wKp X.K c i ts Wout D) (X.pn ++ pins) (fun u sa => wpAny (model X.prog X.w) X.A (noteFrame u X.env) (fun _ sb => wpAny (model X.prog X.w) X.A (setFlight u none) (fun _ sc =>
    wpAny (model X.prog X.w) X.A (handleBy u X.env [.ExceptHandler (some (.Name x np)) (some n) (b0 :: suite) ph]) (SP X pins D) X.xe sc) X.xe sb) X.xe sa) (fun u s1 xx => ?_) PassesOwn.looking).run [] s σ H D (I.toTry _) h) (fun fl s1 hq => ?_) (fun _ _ z => z))
  · obtain ⟨a, B, sJ, pins1, σ1, H1, cls, d, eu, J0, nb, up, sky, na, os, ag, b, hm, hy, hn⟩ := xx
    subst eu
    have J : Inv X pins σ1 H1 sJ := J0.ofTry ok
    have sky1 : Sky B (X.env :: X.outer) a (Zc cls d) X.env.locals s1.heap := stk ▸ sky
    refine (show wpAny (model X.prog X.w) X.A (noteFrame (.ref a) X.env) _ _ _ from Sky.land Zc.steady frs0 frm sky1 fun h3 fl3 up3 => ?_)
    have J3 : Inv X pins σ1 H1 { s1 with heap := h3 } := J.landed nb fl3.1 (up.trans up3) os ag
    obtain ⟨o3, v3, g3, z3, q3⟩ := fl3.there
    have nfr : a ∉ frs (X.env :: X.outer) := fun hx => by
      obtain ⟨_, o', e', nn⟩ := fl3.2.2.1.mem hx
      rw [g3] at e'
      cases e'
      exact nn _ q3
    have nl : a ≠ X.env.locals := fun z => nfr (List.mem_filterMap.mpr ⟨X.env, List.mem_cons_self, by rw [frm, z]⟩)
    have nf : a ∉ X.fs := fun hx => by
      obtain ⟨u, hu, q⟩ := List.mem_filterMap.mp hx
      exact nfr (List.mem_filterMap.mpr ⟨u, List.mem_cons_of_mem _ hu, q⟩)
    have nB : B.get? a = none := fl3.2.1
    have nS : ∀ o, sJ.heap.get? a ≠ some o := fun o e => by
      have := nb a o e (by rw [stk]; exact nfr)
      rw [nB] at this
      cases this
    have n0 : X.s_0.heap.get? a = none := by
      cases e : X.s_0.heap.get? a with
      | none => rfl
      | some o =>
        obtain ⟨o', e'⟩ := J.base.there a o e (by rw [hex]; simp)
        exact absurd e' (nS o')
    have np1 : ∀ p ∈ X.pn ++ pins, p.1 ≠ a := fun p hp z => nS p.2 (by rw [← z]; exact (J.pin p hp).1)
    have S3 := J3.suite g3 q3 na nl nf
    refine wpAny_handleBy_cons (codeAny_handlers_test ?_) (by intro q; cases q)
    have lt : PySem.W.Looks (model X.prog X.w) h3 (typeOf (.ref a)) cls := fun A Q E s k q => wpAny_typeOf_ref (k _ _ g3) (by rw [z3.1]; exact q)
    have lm := PySem.W.exm_one (M := model X.prog X.w) (J3.kIn) lt hm
    have tst : ∀ {Q : Value → Shared → Prop} {E : Value → Shared → Prop}, Q c { s1 with heap := h3 } → wpAny (model X.prog X.w) (X.A.mark (some (.ref a))) (eval (.Name x np) X.env) Q E { s1 with heap := h3 } := by
      intro Q E q
      obtain ⟨hg, hdb, hh | ⟨hh, hv, hw⟩⟩ := nam
      · exact ld_glob (X := X.suite a ((a, o3) :: (X.pn ++ pins))) S3 hg hh q hdb
      · exact ld_blt (X := X.suite a ((a, o3) :: (X.pn ++ pins))) S3 hg hh hv q hw hdb
    refine tst (lm.here ?_)
    cases b with
    | true =>
      refine codeAny_handlers_suite_as (HandSPX.lands_againZ fl3 fun h4 fl4 up4 => ?_)
      have J4 : Inv X pins σ1 H1 { s1 with heap := h4 } := J.landed nb fl4.1 ((up.trans up3).trans up4) os ag
      obtain ⟨o4, v4, g4, z4, q4⟩ := fl4.there
      obtain ⟨C, ec, hy⟩ := hy rfl
      subst ec
      refine store_ok (X := X.suite a ((a, o4) :: (X.pn ++ pins))) (v := .ref a) (J4.suite g4 q4 na nl nf) nd hi (.inl kn) rfl (fun s5 S5 => ?_) (.inr kn)
      refine wpAny_mono ((hsuite a o4 (.ref C) d (X.pn ++ pins) z4 ⟨_, q4⟩).run [] s5 _ H1 _ S5 (hy a na)) (fun fl s6 hq => ?_) (fun _ _ z => False.elim z)
      cases fl with
      | next =>
        obtain ⟨σ6, H6, S6, q6⟩ := hq
        refine gone_ok (keepPin S6 ok) nd hi kn fun s7 J7 => ?_
        have pa := (J7.pin (a, o4) (List.mem_append_right _ List.mem_cons_self)).1
        exact ⟨_, _, track J7 n0 np1 (exv_ok pa z4.1 z4.2 q4), q6⟩
      | brk =>
        obtain ⟨_, _, _, q6⟩ := hq
        exact q6.elim
      | cont =>
        obtain ⟨_, _, _, q6⟩ := hq
        exact q6.elim
      | ret u =>
        obtain ⟨_, _, _, _, _, q6⟩ := hq
        exact q6.elim
    | false =>
      refine (show wpAny _ X.A (handleBy (.ref a) X.env []) _ _ _ from wpAny_handleBy_nil ?_)
      obtain ⟨w1, w2, w3, oe, vs, T, oT, tt, he, hz, hd, h1, hr⟩ := id fl3
      unfold PySem.passOn
      refine wpAny_bind (wpAny_field he hd h1 ?_)
      rw [if_neg (by simp : ¬ ((Value.ref T == Value.none) = true))]
      have out : wpAny (model X.prog X.w) X.A (setFlight (.ref a) X.env.frame) (fun _ sz => wpAny (model X.prog X.w) X.A (throw (.ref a) : Sem Flow) (SP X pins D) X.xe sz) X.xe { s1 with heap := h3 } := by
        rw [frm]
        refine HandSPX.setFlight_upZ fl3 fun h4 hh up4 => wpAny_throw (tk _ _ ⟨a, B, sJ, pins, σ1, H1, cls, d, rfl, J, nb, (up.trans up3).trans up4, .inr (.inr (stk.symm ▸ hh)), na, os, ag, hn rfl⟩)
      first
        | exact wpAny_bind (wpAny_pure (wpAny_bind out))
        | exact wpAny_bind out
  · cases fl with
    | next =>
      obtain ⟨σ1, H1, J, q⟩ := hq
      exact wpAny_execs_nil ⟨σ1, H1, J.ofTry ok, q⟩
    | brk =>
      obtain ⟨σ1, H1, J, q⟩ := hq
      exact ⟨σ1, H1, J.ofTry ok, q⟩
    | cont =>
      obtain ⟨σ1, H1, J, q⟩ := hq
      exact ⟨σ1, H1, J.ofTry ok, q⟩
    | ret u =>
      obtain ⟨v, σ1, H1, J, r, q⟩ := hq
      exact ⟨v, σ1, H1, J.ofTry ok, r, q⟩
end Fr
namespace Fr
open PySem PySem.Spec PyProof.Rows L2
/-! # an own class of errors with one field -/
def spIni (C : Addr) (n : Str) : Sp := fun vs H Q _ => ∃ (a : Addr) (v : V), vs = [.ref a, v] ∧ H a = some (exo a C none) ∧ ∀ dx, H dx = none → dx ≠ a → Q .non (upd (upd H dx (exd dx [(n, v)])) a (exo a C (some dx)))
/-- the class at C, named x, of the field n -/
structure ExB (P : Program) (w : World) (K : Frag) (mg : Str → Option Value) (base : Heap) (x n : Str) (C : Addr) : Prop where
  g : mg x = some (.ref C)
  own : OexC K C
  xf : XfC K C
  exc : ExcC K C
  no : PySem.W.findIn K (.ref C) n = some none
  ini : ∃ (f : Addr) (fd : FuncData) (self : Str), PySem.W.findIn K (.ref C) "__init__" = some (some (.ref f)) ∧ PySem.W.typeIn K (.ref f) = some (.type "function") ∧ FnOk P w K mg base C8.CX0 1 f fd [self, n] (spIni C n) ∧ Binds K fd [self, n] []
theorem raised {H : Hp} {a dx : Addr} {x y z u : HO} (na : H a = none) (ne : dx ≠ a) : upd (del (upd (upd (upd H a x) dx y) a z) a) dx u = upd H dx u := by
  funext b
  by_cases h1 : b = dx
  · subst h1
    rw [upd_same, upd_same]
  · rw [upd_ne h1, upd_ne h1]
    by_cases h2 : b = a
    · subst h2
      rw [del_same, na]
    · rw [del_ne h2, upd_ne h2, upd_ne h1, upd_ne h2]
theorem ps_bad {X : Cx} {W : WX} {x n : Str} {C : Addr} {v0 : V} {e : Expr} {p po ph : Pos} (T : ExB X.prog X.w X.K X.mg X.base x n C) (hc : X.calm = true) (tk : Takes X W) (hr : Room 2 X.A) (hg : Gl X x) (he : PE X e (tC v0))
    (hdb : (x == ("__debug__" : Str)) = false := by decide) (hs : starEach [e] X.env = (false, eval e X.env) :: starEach [] X.env := by rfl) (hpl : (backTo po (starEach [] X.env)).any (·.1) = false := by rfl) :
    PS X (.Raise (some (.Call (.Name x p) [e] [] po)) none ph) (fun _ σ H => ∀ dx, H dx = none → W (.ref C) (some dx) σ (upd H dx (.xd [(n, v0)]))) := by
  obtain ⟨f, fd, self, h1, h2, F, b⟩ := T.ini
  have q := ps_raise (pos := ph) hc tk (pmk_oex (x := x) (p := p) (pos := po) T.own h1 h2 F hr b .nil (fun _ _ _ _ _ _ _ z => z.elim) hg T.g (pa_cons he pa_nil hs) hdb hs hpl)
  refine ⟨fun pins s σ H D I h => q.run pins s σ H D I ?_⟩
  have fin : ∀ (v : V) (H1 : Hp), (∀ dx, H1 dx = none → W (.ref C) (some dx) σ (upd H1 dx (.xd [(n, v)]))) → [v].length ≤ 1000 ∧ ∀ a, H1 a = none → spIni C n (.ref a :: ([v] ++ [])) (upd H1 a (exo a C none))
      (fun u H2 => u = .non ∧ ∃ (d : Addr) (fs : List (Str × V)), H2 a = some (exo a C (some d)) ∧ H2 d = some (exd d fs) ∧ H1 d = none ∧ W (.ref C) (some d) σ (upd (del H2 a) d (.xd fs))) (fun _ _ _ => False) := by
    intro v H1 k
    refine ⟨by simp, fun a na => ⟨a, v, rfl, upd_same, fun dx hd ne => ⟨rfl, dx, [(n, v)], upd_same, ?_, ?_, ?_⟩⟩⟩
    · rw [upd_ne ne, upd_same]
    · rwa [upd_ne ne] at hd
    · rw [raised na ne]
      rw [upd_ne ne] at hd
      exact k dx hd
  exact fin v0 H h
end Fr
namespace Fv
open PySem PySem.Spec PyProof.Rows L2 Fr Fw
section
variable {P : Program} {w : World} {L : Ly} {mg : Str → Option Value} {base : Heap} {f : Addr} {fd : FuncData} {cE : Addr}
/-! ### need_size -/
/-- what lets an error of the class at C out, of the part x -/
def OutB (G H : Hp) (C : Addr) (x : Str) (E : XK) : Prop := ∀ dx G' H', Grow M0 G H G' H' → G' dx = some (.xd [("part", .str x)]) → E (.ref C) (some dx) H'
def spNeed (L : Ly) (C : Addr) : L2.Sp := fun vs H Q E => ∃ G v d, vs = [v] ∧ Same G H ∧ Dv L G v d ∧ Kn d ∧ (inB d 0 8 = true → ∀ G' H', Grow M0 G H G' H' → Q .non H') ∧ (inB d 0 8 = false → OutB G H C "size" E)
abbrev s_need_size : Stmt := topS 19
theorem sc_need_size : FnScope ["size"] ["size"] (C8.fnScope s_need_size) := C8.fnScope_by (by decide +kernel)
theorem ok_need_size (Fd : C8.Def L.K mg "need_size" s_need_size f fd) (b : Binds L.K fd ["size"] []) {tk8 : Tok} (g8 : mg "MOST" = some (.int 8 tk8)) (T : ExB P w L.K mg base "BadBook" "part" cE) (c_is_number_within : CalG P w L.K mg base C8.CX0 2 "is_number_within" (spF L fIn)) :
    CalG P w L.K mg base (L2.CX P w) 3 "need_size" (spNeed L cE) := by
  have sc := sc_need_size
  refine ⟨f, fd, ["size"], mkc Fd.fn sc ?_ ?_, Fd.mgf, Fd.kp, b⟩
  · rintro vs H Q E ⟨G, v, d, rfl, _⟩
    rfl
  · rintro cdv A outer s H vs Q E hcd hr hgu ⟨G, v, d, rfl, sg, dv, kn, k1, k2⟩
    refine ⟨_, pss_one (ps_if (w_notT (pt_not (w_val (pt_val (w_call c_is_number_within hr (by decide) hgu rfl (w_cons (w_v (pv 0)) (w_cons (w_int (kd := 0) pe_int) (w_cons (tW_C (fun _ => .int 8) (pe_glob (v := .int 8) rfl g8 ⟨_, rfl⟩)) w_nil))))))))
      (pss_one (ps_bad T rfl (takes_of rfl rfl rfl rfl) hr rfl pe_str)) pss_nil), ?_⟩
    refine ⟨⟨M0, G, H, [], []⟩, G, ent [d] 0, rep_ent (n := 0) sg (.cons dv .nil), d, rfl, d, 0, 8, rfl, kn, _, rfl, fun G' H' r' _ => ?_⟩
    show if (!inB d 0 8) = true then _ else _
    cases hb : inB d 0 8 with
    | true => exact k1 hb G' H' r'.gr
    | false =>
      intro dx hd
      exact k2 hb dx _ _ (r'.lay hd).gr upd_same
end
end Fv
namespace Fs
open PySem PySem.Spec PyProof.Rows L2
/-! # sets of up to 76 tuples of numbers -/
/-- the set at a holds the tuples of M, in the sequence of its entries -/
structure SetW (P : Program) (w : World) (h : Heap) (a : Addr) (M : List (Addr × List Int)) (en : Array (Int × Value)) (ep : Nat) (t : SetTable) : Prop where
  at_ : ∃ o, o.ExactSet ∧ o.data = .set en ep t ∧ h.get? a = some o
  row : en.toList = rowsOf P w M
  tab : TabOk t (M.map fun q => thash P w q.2)
  nd : (M.map (·.2)).Nodup
  tups : ∀ q ∈ M, IsT P w h q.2 q.1
  plain : t.plain = true
  ledg : w.params.followText "set-order" = true ∨ t.led = true
  room : M.length * 5 < t.mask * 3
section
variable {P : Program} {w : World} {A : Around} {E : Value → Shared → Prop} {s : Shared} {a : Addr} {M : List (Addr × List Int)} {en : Array (Int × Value)} {ep : Nat} {t : SetTable}
theorem SetW.of {h : Heap} (R : SetTR P w h a M en ep t) : SetW P w h a M en ep t := by
  obtain ⟨o, e1, e2, e3⟩ := R.ob
  exact ⟨⟨o, e2, e3, e1⟩, R.rows, R.tab, R.nd, R.tup, R.plain, R.led, R.room⟩
theorem SetW.to {h : Heap} (S : SetW P w h a M en ep t) (few : M.length < 64) : SetTR P w h a M en ep t := by
  obtain ⟨o, e2, e3, e1⟩ := S.at_
  exact ⟨⟨o, e1, e2, e3⟩, S.row, S.tab, S.nd, S.tups, S.plain, S.ledg, S.room, few⟩
theorem SetW.size {h : Heap} (S : SetW P w h a M en ep t) : en.size = M.length := by
  have e := congrArg List.length S.row
  rw [Array.length_toList] at e
  rw [e]
  unfold rowsOf
  rw [List.length_map]
theorem SetW.fits {h : Heap} (S : SetW P w h a M en ep t) : t.fits en.size = true := by
  have e1 := S.tab.sz
  have e2 := S.size
  have e3 := S.room
  rw [List.length_map] at e1
  unfold SetTable.fits SetTable.fill
  rw [S.tab.dm, Bool.and_eq_true, beq_iff_eq, decide_eq_true_eq]
  exact ⟨by omega, by show t.place.size + 0 ≤ t.mask; omega⟩
theorem SetW.entry {h : Heap} (S : SetW P w h a M en ep t) {i : Nat} {q : Addr × List Int} (e : M[i]? = some q) : en[i]? = some (thash P w q.2, Value.ref q.1) := by
  have z : en.toList[i]? = some (thash P w q.2, Value.ref q.1) := by
    rw [S.row]
    unfold rowsOf
    rw [List.getElem?_map, e]
    rfl
  rwa [Array.getElem?_toList] at z
/-- the probe at the c-th step -/
abbrev stp (t : SetTable) (v : Int) (c : Nat) : SetTable.Probe := nth t.mask (runAt t.mask (SetTable.bits v % (t.mask + 1)) (SetTable.bits v)) c
theorem stp_dm (t : SetTable) (v : Int) (c : Nat) : (stp t v c).dummy = none := by
  have key : ∀ (n : Nat) (p : SetTable.Probe), p.dummy = none → (nth t.mask p n).dummy = none := by
    intro n
    induction n with
    | zero => exact fun p h => h
    | succ n ih => exact fun p h => ih (adv t.mask p) (by unfold adv; split <;> exact h)
  exact key c _ rfl
theorem stp_add (t : SetTable) (v : Int) (c q : Nat) : nth t.mask (stp t v c) q = stp t v (c + q) := (nth_add t.mask c _ q).symm
theorem seek (S : SetW P w s.heap a M en ep t) {x : Addr} {k : List Int} (kx : IsT P w s.heap k x) (hu : A.units < cLine) {N : Nat} (big : N < 10 * SetTable.turns t.mask) (fre : way t.mask (thash P w k) N ∉ t.place.toList)
    (bus : ∀ c, c < N → way t.mask (thash P w k) c ∈ t.place.toList) {Q : SetFound → Shared → Prop} (yes : k ∈ M.map (·.2) → Q (.there none) s) (no : k ∉ M.map (·.2) → Q (.free (way t.mask (thash P w k) N) false) s) :
    ∀ (f c : Nat) (st : Option SetTable.Probe), st.getD (t.probeStart (thash P w k)) = stp t (thash P w k) c → c ≤ N → N - c < f →
      (∀ (i : Nat) q, M[i]? = some q → q.2 = k → ∃ c', c ≤ c' ∧ c' < N ∧ t.place.toList[i]? = some (way t.mask (thash P w k) c')) → wpAny (model P w) A (setSearchFrom a (.ref x) (thash P w k) true f st) Q E s := by
  intro f
  induction f with
  | zero => intro c st _ _ hf _; omega
  | succ f ih =>
    intro c st hst hc hf hre
    obtain ⟨o, hex, hd, ho⟩ := S.at_
    have odd : ¬ t.gaveWay = true := by
      unfold SetTable.gaveWay
      rw [mask_odd S.tab.mok]
      decide
    rw [setSearchFrom_succ]
    refine wpAny_bind (wpAny_setState_of ho hd S.fits ?_)
    dsimp only
    refine wp_if_neg odd ?_
    try refine wpAny_bind (wpAny_pure ?_)
    have ej : ∀ q, (nth t.mask (stp t (thash P w k) c) q).j = way t.mask (thash P w k) (c + q) := fun q => congrArg SetTable.Probe.j (stp_add t _ c q)
    have hat : ∀ (i : Nat) q, M[i]? = some q → (fun i => (en[i]?.map (·.1)).getD 0) i = thash P w q.2 := by
      intro i q e
      show (en[i]?.map (·.1)).getD 0 = _
      rw [S.entry e]
      rfl
    have N' : c + (N - c) = N := by omega
    rcases go_spec t S.tab.ris S.tab.dm (fun i => (en[i]?.map (·.1)).getD 0) (thash P w k) (10 * SetTable.turns t.mask) (N - c) (stp t (thash P w k) c) (stp_dm t _ c) (by omega) (fun q hq => by rw [ej]; exact bus _ (by omega)) (by rw [ej, N']; exact fre) with ⟨q, i, hq, hi, hh, hno, hpr⟩ | ⟨hno, hpr⟩
    · have pr : t.probe (fun i => (en[i]?.map (·.1)).getD 0) (thash P w k) (st.getD (t.probeStart (thash P w k))) = some (.candidate (way t.mask (thash P w k) (c + q)) i (stp t (thash P w k) (c + (q + 1)))) := by
        rw [hst, ← ej, ← stp_add]
        exact hpr
      rw [pr]
      dsimp only
      rw [ej] at hi
      have il : i < M.length := by
        obtain ⟨h1, _⟩ := List.getElem?_eq_some_iff.mp hi
        have h2 := S.tab.sz
        rw [List.length_map] at h2
        rw [Array.length_toList] at h1
        omega
      obtain ⟨m, hm⟩ : ∃ m, M[i]? = some m := ⟨M[i], List.getElem?_eq_getElem il⟩
      have mm : m ∈ M := List.mem_of_getElem? hm
      have sl : t.slot (way t.mask (thash P w k) (c + q)) = .live i := slot_live S.tab.ris hi
      have rest : wpAny (model P w) A (searchRest a (.ref x) (thash P w k) true f en t (way t.mask (thash P w k) (c + q)) i (stp t (thash P w k) (c + (q + 1)))) Q E s := by
        unfold searchRest
        rw [S.entry hm]
        dsimp only
        refine wpAny_bind (wpAny_holding (wpAny_eqBool_tuple hu (S.tups m mm) kx (wpAny_bind (wpAny_setState_of ho hd S.fits ?_))))
        dsimp only
        by_cases same : m.2 = k
        · exact wp_if_pos (by simp [same]) (wpAny_pure (yes (List.mem_map.mpr ⟨m, mm, same⟩)))
        · refine wp_if_neg (by simp [same]) ?_
          try refine wpAny_bind (wpAny_pure ?_)
          rw [sameMem]
          dsimp only
          simp only [if_true, sl, S.entry hm]
          refine wpAny_bind (wpAny_isSame_ref_self (wpAny_bind (wpAny_pure ?_)))
          simp only [if_true]
          refine wp_if_neg (by simp [same]) (ih (c + (q + 1)) _ rfl (by omega) (by omega) ?_)
          intro i0 q0 e0 k0
          obtain ⟨c', a1, a2, a3⟩ := hre i0 q0 e0 k0
          have hz := (hat i0 q0 e0).trans (congrArg (thash P w) k0)
          refine ⟨c', ?_, a2, a3⟩
          by_cases z1 : c' < c + q
          · exact (hno (c' - c) i0 (by omega) (by rw [ej, show c + (c' - c) = c' by omega]; exact a3) hz).elim
          · by_cases z2 : c' = c + q
            · rw [z2] at a3
              have s0 := slot_live S.tab.ris a3
              rw [sl] at s0
              cases s0
              rw [hm] at e0
              cases e0
              exact absurd k0 same
            · omega
      by_cases hl : t.led = true
      · refine wp_if_neg (by simp [hl]) ?_
        try refine wpAny_bind (wpAny_pure ?_)
        exact rest
      · refine wp_if_pos (by simp [hl]) (wpAny_bind (seen_tup kx (fun y hy => ?_) (wp_if_neg (by decide) ?_)))
        · obtain ⟨e, he, rfl⟩ := List.mem_map.mp hy
          have he1 : e ∈ en ∧ e.1 = thash P w k := by simpa using he
          have he2 : e ∈ rowsOf P w M := by
            rw [← S.row]
            simpa using he1.1
          obtain ⟨p2, hp2, rfl⟩ := List.mem_map.mp he2
          exact ⟨p2.2, p2.1, rfl, S.tups p2 hp2⟩
        · try refine wpAny_bind (wpAny_pure ?_)
          exact rest
    · have pr : t.probe (fun i => (en[i]?.map (·.1)).getD 0) (thash P w k) (st.getD (t.probeStart (thash P w k))) = some (.empty (way t.mask (thash P w k) N) none) := by
        have e2 : way t.mask (thash P w k) N = (nth t.mask (stp t (thash P w k) c) (N - c)).j := by rw [ej, N']
        rw [hst, e2]
        exact hpr
      rw [pr]
      dsimp only
      refine wpAny_pure (no fun hm => ?_)
      obtain ⟨q0, h0, k0⟩ := List.mem_map.mp hm
      obtain ⟨i0, h00⟩ := List.getElem?_of_mem h0
      obtain ⟨c', a1, a2, a3⟩ := hre i0 q0 h00 k0
      exact hno (c' - c) i0 (by omega) (by rw [ej, show c + (c' - c) = c' by omega]; exact a3) ((hat i0 q0 h00).trans (congrArg (thash P w) k0))
theorem seekAll (S : SetW P w s.heap a M en ep t) {x : Addr} {k : List Int} (kx : IsT P w s.heap k x) (hu : A.units < cLine) {Q : SetFound → Shared → Prop} (yes : k ∈ M.map (·.2) → Q (.there none) s)
    (no : ∀ N, k ∉ M.map (·.2) → way t.mask (thash P w k) N ∉ t.place.toList → (∀ c, c < N → way t.mask (thash P w k) c ∈ t.place.toList) → Q (.free (way t.mask (thash P w k) N) false) s) : wpAny (model P w) A (setSearch a (.ref x) (thash P w k) true) Q E s := by
  have hr := S.room
  obtain ⟨N, b1, b2, b3⟩ := S.tab.first (by rw [List.length_map]; omega) (thash P w k)
  have lim : 10 * SetTable.turns t.mask ≤ 1420 := by
    unfold SetTable.turns
    rcases S.tab.mok with e | e | e <;> omega
  unfold setSearch
  refine seek S kx hu b1 b2 b3 yes (fun z => no N z b2 b3) 100000 0 none rfl (Nat.zero_le _) (by omega) fun i q hq hk => ?_
  have hi : (M.map fun q => thash P w q.2)[i]? = some (thash P w k) := by
    rw [List.getElem?_map, hq, ← hk]
    rfl
  have il : i < t.place.toList.length := by
    obtain ⟨h1, _⟩ := List.getElem?_eq_some_iff.mp hq
    have h2 := S.tab.sz
    rw [List.length_map] at h2
    rw [Array.length_toList]
    omega
  have hj := List.getElem?_eq_getElem il
  obtain ⟨c, hc, e⟩ := S.tab.before b2 hi hj
  exact ⟨c, Nat.zero_le _, hc, by rw [hj, e]⟩
/-- one more, up to 76 -/
theorem addW (S : SetW P w s.heap a M en ep t) {x : Addr} {k : List Int} (kx : IsT P w s.heap k x) (hu : A.units < cLine) (few : M.length < 76) {Q : Bool → Shared → Prop}
    (fin : ∀ b h' M' en' ep' t', Heap.SameBut a s.heap h' → SetW P w h' a M' en' ep' t' → (k ∈ M.map (·.2) → M' = M) → (k ∉ M.map (·.2) → M'.Perm ((x, k) :: M)) → Q b { s with heap := h' }) : wpAny (model P w) A (setAddHashed a (.ref x) (thash P w k)) Q E s := by
  by_cases small : M.length + 1 < 64
  · exact add_at (S.to (by omega)) kx hu small fun b h' M' en' ep' t' s1 R c1 c2 => fin b h' M' en' ep' t' s1 (SetW.of R) c1 c2
  · obtain ⟨o, hex, hd, ho⟩ := S.at_
    have hr := S.room
    have m127 : t.mask = 127 := by
      rcases S.tab.mok with e | e | e
      · rw [e] at hr; omega
      · rw [e] at hr; omega
      · exact e
    unfold setAddHashed
    refine wpAny_holding ?_
    rw [(by rfl : (100000 : Nat) = 99999 + 1), setAddHashedIn_succ]
    refine wpAny_bind (wpAny_setState_of ho hd S.fits ?_)
    dsimp only
    refine wp_if_neg (by simp [byScan, Value.scannable]) ?_
    try refine wpAny_bind (wpAny_pure ?_)
    refine wpAny_bind (seekAll S kx hu (fun hm => ?_) fun N hm hN hb => ?_)
    · dsimp only
      exact wpAny_pure (fin false s.heap M en ep t (Heap.SameBut.refl a s.heap) S (fun _ => rfl) fun z => absurd hm z)
    · dsimp only
      refine wpAny_bind (wpAny_setState_of ho hd S.fits ?_)
      dsimp only
      obtain ⟨r1, r2, r3, r4, r5, r6, r7, r8, r9⟩ := S.tab.put hN hb
      generalize hput : t.put (way t.mask (thash P w k) N) = pt at r1 r3 r4 r5 r6 r7 r8 r9 ⊢
      obtain ⟨u, p⟩ := pt
      dsimp only at r1 r3 r4 r5 r6 r7 r8 r9 ⊢
      subst r1
      have pl : u.plain = true := r6.trans S.plain
      first
        | (refine wpAny_bind ?_; refine wp_if_pos pl ?_; refine hashBy_tup kx ?_)
        | refine wp_if_pos pl (wpAny_bind (hashBy_tup kx ?_))
      simp only [if_true]
      generalize hp : SetTable.below t.place (way t.mask (thash P w k) N) = p at r2 r3 ⊢
      have pm := put_perm M p (x, k)
      have ln : (M.take p ++ (x, k) :: M.drop p).length = M.length + 1 := pm.length_eq
      have rw1 : (SetTable.insertAt en p (thash P w k, Value.ref x)).toList = rowsOf P w (M.take p ++ (x, k) :: M.drop p) := by
        rw [SetTable.toList_insertAt, S.row]
        exact (rows_put M p x k).symm
      have hs1 : (M.take p ++ (x, k) :: M.drop p).map (fun q => thash P w q.2) = (M.map fun q => thash P w q.2).take p ++ thash P w k :: (M.map fun q => thash P w q.2).drop p := by
        rw [List.map_append, List.map_cons, List.map_take, List.map_drop]
      rw [← hs1] at r3
      have nd1 : ((M.take p ++ (x, k) :: M.drop p).map (·.2)).Nodup := (pm.map (·.2)).nodup_iff.mpr (by rw [List.map_cons]; exact List.nodup_cons.mpr ⟨hm, S.nd⟩)
      generalize SetTable.insertAt en p (thash P w k, Value.ref x) = en1 at rw1 ⊢
      generalize M.take p ++ (x, k) :: M.drop p = M1 at pm ln r3 nd1 rw1
      have sz : en1.size = M.length + 1 := by
        have e := congrArg List.length rw1
        unfold rowsOf at e
        rw [Array.length_toList, List.length_map, ln] at e
        exact e
      refine wpAny_bind (wpAny_storeSet_of ho hd ?_ (by rw [sz, sizeLine_eq]; omega))
      have sb : Heap.SameBut a s.heap (s.heap.update a (Obj.putSet en1 u)) := Heap.SameBut.update ..
      have ho1 := store_at (es' := en1) (t' := u) ho hd
      generalize s.heap.update a (Obj.putSet en1 u) = h1 at sb ho1 ⊢
      have notFull : ¬ u.tooFull = true := by
        unfold SetTable.tooFull
        rw [decide_eq_true_eq, r9, List.length_map, r4, m127]
        omega
      first
        | refine wp_if_neg (by simp [notFull]) ?_
        | (refine wpAny_bind ?_; refine wp_if_neg (by simp [notFull]) ?_; refine wpAny_pure ?_)
      refine wpAny_pure (fin true h1 M1 en1 (ep + 1) u sb ⟨⟨{ cls := o.cls, dict := o.dict, data := .set en1 (ep + 1) u, slots := o.slots }, ⟨hex.1, hex.2.1, hex.2.2⟩, rfl, ho1⟩, rw1, r3, nd1, fun q hq => ?_, pl, ?_, ?_⟩ (fun z => absurd z hm) fun _ => pm)
      · rcases List.mem_cons.mp (pm.mem_iff.mp hq) with e | z
        · rw [e]
          exact isT_same kx ho hd sb
        · exact isT_same (S.tups q z) ho hd sb
      · rw [r5]
        exact S.ledg
      · rw [ln, r4, m127]
        omega
end
end Fs
namespace Fs
open PySem PySem.Spec PyProof.Rows L2
/-! # set(xs), xs a list or a tuple of tuples of numbers -/
section
variable {P : Program} {w : World} {A : Around} {E : Value → Shared → Prop} {s : Shared}
theorem SetW.keep {h h' : Heap} {a : Addr} {M : List (Addr × List Int)} {en : Array (Int × Value)} {ep : Nat} {t : SetTable} (S : SetW P w h a M en ep t) (ka : ∀ o, h.get? a = some o → h'.get? a = some o) (kt : ∀ q ∈ M, IsT P w h' q.2 q.1) : SetW P w h' a M en ep t := by
  obtain ⟨o, e1, e2, e3⟩ := S.at_
  exact { S with at_ := ⟨o, e1, e2, ka o e3⟩, tups := kt }
abbrev newS (w : World) : Obj := { cls := .type "set", dict := none, data := .set #[] 0 (.fresh 0 0 (!w.params.followText "set-order")) }
/-- what the first i items have left: at most 76 -/
structure Has (ks : List (Addr × List Int)) (i : Nat) (M : List (Addr × List Int)) : Prop where
  got : Got ks i M
  few : ∀ N : List (List Int), N.Nodup → (∀ k ∈ N, k ∈ ks.map (·.2)) → N.length ≤ 76
theorem Has.room {ks M : List (Addr × List Int)} {i : Nat} {x : Addr × List Int} (g : Has ks i M) (nd : (M.map (·.2)).Nodup) (hx : ks[i]? = some x) (new : x.2 ∉ M.map (·.2)) : M.length < 76 := by
  have h := g.few (x.2 :: M.map (·.2)) (List.nodup_cons.mpr ⟨new, nd⟩) fun k hk => by
    rcases List.mem_cons.mp hk with e | z
    · rw [e]
      exact List.mem_map.mpr ⟨x, List.mem_of_getElem? hx, rfl⟩
    · obtain ⟨q, hq, e⟩ := List.mem_map.mp z
      exact List.mem_map.mpr ⟨q, List.mem_of_mem_take (g.got.sub q hq), e⟩
  rw [List.length_cons, List.length_map] at h
  omega
/-- one more tuple, be it there or not -/
theorem addAny {a : Addr} {M : List (Addr × List Int)} {en : Array (Int × Value)} {ep : Nat} {t : SetTable} (S : SetW P w s.heap a M en ep t) {x : Addr} {k : List Int} (kx : IsT P w s.heap k x) (hu : A.units < cLine) (few : k ∉ M.map (·.2) → M.length < 76) {Q : Bool → Shared → Prop}
    (fin : ∀ b h' M' en' ep' t', Heap.SameBut a s.heap h' → SetW P w h' a M' en' ep' t' → (k ∈ M.map (·.2) → M' = M) → (k ∉ M.map (·.2) → M'.Perm ((x, k) :: M)) → Q b { s with heap := h' }) : wpAny (model P w) A (setAddHashed a (.ref x) (thash P w k)) Q E s := by
  rcases Classical.em (k ∈ M.map (·.2)) with hm | hm
  · obtain ⟨o, hex, hd, ho⟩ := S.at_
    unfold setAddHashed
    refine wpAny_holding ?_
    rw [(by rfl : (100000 : Nat) = 99999 + 1), setAddHashedIn_succ]
    refine wpAny_bind (wpAny_setState_of ho hd S.fits ?_)
    dsimp only
    refine wp_if_neg (by simp [byScan, Value.scannable]) ?_
    try refine wpAny_bind (wpAny_pure ?_)
    refine wpAny_bind (seekAll S kx hu (fun _ => ?_) fun N hn _ _ => absurd hm hn)
    dsimp only
    exact wpAny_pure (fin false s.heap M en ep t (Heap.SameBut.refl a s.heap) S (fun _ => rfl) fun z => absurd hm z)
  · exact addW S kx hu (few hm) fin
theorem updW {I : Addr} {fp wr : List Addr} {G : Array GenState → Array GenState → Prop} {n : Nat} {Pv : Nat → Value → Prop} {St : Nat → Shared → Prop} {R : Result → Shared → Prop} (Wk : WalksS P w A.in1 I fp wr G n Pv St) (S : Addr) (off : S ∉ fp) (ks : List (Addr × List Int)) (hn : n = ks.length)
    (val : ∀ i v, Pv i v → ∃ q, ks[i]? = some q ∧ v = .ref q.1) (h0 : Heap) (kt : ∀ q ∈ ks, IsT P w h0 q.2 q.1) (new : h0.get? S = none) (hw : ∀ b ∈ wr, h0.get? b = none) (hu : A.in1.units < cLine) :
    ∀ (k i : Nat) (s : Shared), n - i = k → i ≤ n → St i s → (∀ b o, h0.get? b = some o → s.heap.get? b = some o) → (∃ M en ep t, SetW P w s.heap S M en ep t ∧ Has ks i M) →
      (∀ s' M en ep t, Moved (S :: wr) G s s' → SetW P w s'.heap S M en ep t → Has ks n M → (∀ b o, h0.get? b = some o → s'.heap.get? b = some o) → R (.ok (.ret .none)) s') → codeAny (model P w) A (.builtin "set.update.loop" ⟨[.ref S, .ref I], []⟩) R s := by
  have inW : ∀ b ∈ wr, b ∈ S :: wr := fun b => List.mem_cons_of_mem _
  have mv : ∀ {s s' : Shared}, Moved wr G s s' → (∀ b o, h0.get? b = some o → s.heap.get? b = some o) → ∀ b o, h0.get? b = some o → s'.heap.get? b = some o := fun m kp b o e => m.heap b o (fun hb => by rw [hw b hb] at e; cases e) (kp b o e)
  have offW : S ∉ wr := fun z => off (Wk.sub _ z)
  intro k
  induction k with
  | zero =>
    intro i s e0 hi st kp ⟨M, en, ep, t, hS, g⟩ fin
    obtain rfl : i = n := by omega
    refine codeAny_builtin F.entry_set_update_loop ?_
    rw [Around.under_plainId F.plain_set_update_loop _]
    refine (show wpAny _ A.in1 (pyNext (.ref I) >>= _) _ _ s from wpAny_bind (Wk.done s _ _ st fun s' m => ?_))
    refine (show wpAny _ A.in1 (ret Value.none) _ _ s' from wpAny_pure (fin s' M en ep t (m.mono inW) (hS.keep (fun o e => m.heap S o offW e) fun q hq => ?_) g (mv m kp)))
    exact isT_keep (kt q (List.mem_of_mem_take (g.got.sub q hq))) (mv m kp)
  | succ k ih =>
    intro i s e0 hi st kp ⟨M, en, ep, t, hS, g⟩ fin
    have lt : i < n := by omega
    refine codeAny_builtin F.entry_set_update_loop ?_
    rw [Around.under_plainId F.plain_set_update_loop _]
    refine (show wpAny _ A.in1 (pyNext (.ref I) >>= _) _ _ s from wpAny_bind (Wk.item i s _ _ lt st fun v s' hv st' m => ?_))
    obtain ⟨q, hq, rfl⟩ := val i v hv
    have kp' := mv m kp
    have S' : SetW P w s'.heap S M en ep t := hS.keep (fun o e => m.heap S o offW e) fun q hq => isT_keep (kt q (List.mem_of_mem_take (g.got.sub q hq))) kp'
    have kx : IsT P w s'.heap q.2 q.1 := isT_keep (kt q (List.mem_of_getElem? hq)) kp'
    refine (show wpAny _ A.in1 (holding [Value.ref q.1] (setAdd S (.ref q.1)) >>= _) _ _ s' from wpAny_bind (wpAny_holding ?_))
    unfold setAdd
    refine wpAny_holding (wpAny_bind (wpAny_pyHash_tuple hu kx (addAny (s := { s' with toks := s'.toks + (q.2.length + 1) }) S' kx hu (fun z => g.room hS.nd hq z) fun b h' M' en' ep' t' sb S2 c1 c2 => ?_)))
    have g' : Has ks (i + 1) M' := by
      refine ⟨?_, g.few⟩
      rcases Classical.em (q.2 ∈ M.map (·.2)) with c | c
      · rw [c1 c]
        exact g.got.same hq c
      · exact g.got.more hq (c2 c)
    have kp2 : ∀ b o, h0.get? b = some o → h'.get? b = some o := fun b o e => (sb.2 b (fun z => by rw [z, new] at e; cases e)).trans (kp' b o e)
    refine wpAny_pure ⟨plainId_quiet F.plain_set_update_loop _, ih (i + 1) _ (by omega) lt (Wk.frame _ s' _ _ st' (Nat.le_add_right _ _) fun b hb o e => ?_) kp2 ⟨M', en', ep', t', S2, g'⟩ fun s2 M2 en2 ep2 t2 m2 S3 g3 kp3 => fin s2 M2 en2 ep2 t2 ?_ S3 g3 kp3⟩
    · exact (sb.2 b (fun z : b = S => off (z ▸ hb))).trans e
    · refine Moved.trans Wk.gtrans ((m.mono inW).then_heap (Nat.le_add_right _ _) fun b o hb e => ?_) m2
      exact (sb.2 b (fun z : b = S => hb (by rw [z]; exact List.mem_cons_self))).trans e
theorem setOf_list {l : Addr} {items : Array Value} (ks : List (Addr × List Int)) {Q : Value → Shared → Prop} (hh : A.handled = none) (pl : s.heap.IsList l items) (hit : items.toList = ks.map fun q => Value.ref q.1) (kt : ∀ q ∈ ks, IsT P w s.heap q.2 q.1)
    (few : ∀ N : List (List Int), N.Nodup → (∀ k ∈ N, k ∈ ks.map (·.2)) → N.length ≤ 76) (hu : A.units + 3 < cLine)
    (fin : ∀ (h' : Heap) (tk : Nat) M en ep t, SetW P w h' s.heap.objs.size M en ep t → Got ks ks.length M → (∀ b o, s.heap.get? b = some o → h'.get? b = some o) → Q (.ref s.heap.objs.size) { s with heap := h', toks := tk }) : wpAny (model P w) A (call (.type "set") [.ref l]) Q E s := by
  have isz : items.size = ks.length := by
    have e := congrArg List.length hit
    rw [Array.length_toList, List.length_map] at e
    exact e
  obtain ⟨cm, tl, hmro⟩ := F.called_set.mro
  have f1 := F.called_set.made
  have f2 := F.called_set.sub
  have f3 := F.called_set.notType
  have f4 := F.called_set.canCreate
  have f5 := F.typeCall_set_1 (.ref l)
  refine wpAny_call (codeAny_of_tree (show wpAny _ _ (callAny (.type "set") _) _ _ _ from wpAny_pure ⟨Code.quiet_builtin _ (by decide +kernel), codeAny_builtin F.entry_type_call ?_⟩))
  rw [Around.under_plain (weight_type_call_type "set" [.ref l] []) rfl]
  repeat (any_goals (first | assumption | wp_step))
  refine codeAny_mono (code_set_led1 (.ref l) (E := E) (Q₁ := fun ob sa => ob = .ref s.heap.objs.size ∧ sa = { s with heap := s.heap.push (newS w) }) ⟨rfl, rfl⟩) ?_
  rintro (e | fl) sa hr
  · exact hr
  cases fl with
  | ret ob =>
    obtain ⟨rfl, rfl⟩ := hr
    have gS : (s.heap.push (newS w)).get? s.heap.objs.size = some (newS w) := Heap.get?_push_size _ rfl
    have tS : Shared.TypeIs { s with heap := s.heap.push (newS w) } (.ref s.heap.objs.size) "set" := ⟨_, gS, rfl⟩
    have f6 := F.called_set.init.lookup
    have f7 := F.called_set.init.bind (.ref s.heap.objs.size)
    repeat (any_goals (first | assumption | wp_step))
    refine codeAny_mono (codeAny_call_builtin (R := wants (fun r sb => r = .none ∧ ∃ h' tk M en ep t, sb = { s with heap := h', toks := tk } ∧ SetW P w h' s.heap.objs.size M en ep t ∧ Got ks ks.length M ∧ (∀ b o, s.heap.get? b = some o → h'.get? b = some o)) E) F.called_set.init.plain F.entry_set_init (check_set_init_1 tS ?_)) ?_
    · obtain ⟨ol, gl, cl, nl, dl⟩ := pl
      obtain ⟨oc, od, odt, osl⟩ := ol
      simp only at cl dl
      subst cl
      subst dl
      have gl' : (s.heap.push (newS w)).get? l = some { cls := .type "list", dict := od, data := .seq items nl, slots := osl } := Heap.get?_push_of_some _ gl
      have f8 := F.sub_list_set
      have f9 := F.sub_list_frozenset
      have nd : (Value.type "list" == Value.type "dict") = false := by decide
      have pl1 : (s.heap.push (newS w)).IsList l items := ⟨_, gl', rfl, nl, rfl⟩
      unfold Builtin.«set.__init__» noKeywords Builtin.Frozenset.updateFrom
      generalize hPI : pyIter = PI
      wp_walk
      subst hPI
      refine wpAny_pyIter_list pl1 (wpAny_bind (wpAny_runValue ?_))
      have ltl : l < s.heap.objs.size := Heap.lt_size gl
      have z1 : (s.heap.push (newS w)).objs.size = s.heap.objs.size + 1 := Heap.size_push ..
      have neI : l ≠ (s.heap.push (newS w)).objs.size := by rw [z1]; exact Nat.ne_of_lt (Nat.lt_succ_of_lt ltl)
      have offS : s.heap.objs.size ∉ [(s.heap.push (newS w)).objs.size, l] := by
        rw [z1]
        intro z
        rcases List.mem_cons.mp z with z | z
        · exact absurd z (Nat.ne_of_lt (Nat.lt_succ_self _))
        · exact absurd (List.mem_singleton.mp z) (Nat.ne_of_gt ltl)
      have val : ∀ (i : Nat) (v : Value), items[i]? = some v → ∃ q, ks[i]? = some q ∧ v = .ref q.1 := by
        intro i v hv
        have e : (ks.map fun q => Value.ref q.1)[i]? = some v := by
          rw [← hit, Array.getElem?_toList]
          exact hv
        rw [List.getElem?_map] at e
        obtain ⟨q, e1, e2⟩ := Option.map_eq_some_iff.mp e
        exact ⟨q, e1, e2.symm⟩
      have off : ∀ b, s.heap.objs.size ≤ b → s.heap.get? b = none := by
        intro b hb
        cases e : s.heap.get? b with
        | none => rfl
        | some o =>
          exact absurd (Nat.lt_of_lt_of_le (Heap.lt_size e) hb) (Nat.lt_irrefl _)
      refine updW ((Walks.list (by simp [hh] : A.in1.in1.in1.handled = none) _ l neI items).toS) s.heap.objs.size offS ks isz val s.heap kt (off _ (Nat.le_refl _)) (fun b hb => off b (by rw [List.mem_singleton.mp hb, z1]; exact Nat.le_succ _)) hu (items.size - 0) 0 _ (by omega) (Nat.zero_le _)
        ⟨⟨_, Heap.get?_push_size _ rfl, rfl, rfl⟩, (pl1.push _)⟩ (fun b o e => Heap.get?_push_of_some _ (Heap.get?_push_of_some _ e)) ?st ?en
      case st => exact ⟨[], #[], 0, _, SetW.of (setTR_fresh (Heap.get?_push_of_some _ gS)), Got.zero ks, few⟩
      case en =>
        rintro ⟨h', g2, d', tk', os'⟩ M en ep t m S' g' kp
        obtain rfl : g2 = s.gens := m.gens
        obtain rfl : d' = s.drawn := m.drawn
        obtain rfl : os' = s.os := m.os
        rw [isz] at g'
        refine (show wpAny _ _ _ _ _ _ from wpAny_pure ?_)
        exact (show wpAny _ _ (ret Value.none) _ _ _ from wpAny_pure ⟨rfl, h', tk', M, en, ep, t, rfl, S', g'.got, kp⟩)
    · rintro (e | fl2) sb hr2
      · exact hr2
      cases fl2 with
      | ret r =>
        obtain ⟨rfl, h', tk, M, en, ep, t, rfl, S', g', k'⟩ := hr2
        repeat (any_goals (first | assumption | wp_step))
        exact fin _ _ _ _ _ _ S' g' k'
      | _ => exact hr2.elim
  | _ => exact hr.elim
theorem setOf_tuple {l : Addr} {items : Array Value} (ks : List (Addr × List Int)) {Q : Value → Shared → Prop} (hh : A.handled = none) (pl : s.heap.IsTuple l items) (hit : items.toList = ks.map fun q => Value.ref q.1) (kt : ∀ q ∈ ks, IsT P w s.heap q.2 q.1)
    (few : ∀ N : List (List Int), N.Nodup → (∀ k ∈ N, k ∈ ks.map (·.2)) → N.length ≤ 76) (hu : A.units + 3 < cLine)
    (fin : ∀ (h' : Heap) (tk : Nat) M en ep t, SetW P w h' s.heap.objs.size M en ep t → Got ks ks.length M → (∀ b o, s.heap.get? b = some o → h'.get? b = some o) → Q (.ref s.heap.objs.size) { s with heap := h', toks := tk }) : wpAny (model P w) A (call (.type "set") [.ref l]) Q E s := by
  have isz : items.size = ks.length := by
    have e := congrArg List.length hit
    rw [Array.length_toList, List.length_map] at e
    exact e
  obtain ⟨cm, tl, hmro⟩ := F.called_set.mro
  have f1 := F.called_set.made
  have f2 := F.called_set.sub
  have f3 := F.called_set.notType
  have f4 := F.called_set.canCreate
  have f5 := F.typeCall_set_1 (.ref l)
  refine wpAny_call (codeAny_of_tree (show wpAny _ _ (callAny (.type "set") _) _ _ _ from wpAny_pure ⟨Code.quiet_builtin _ (by decide +kernel), codeAny_builtin F.entry_type_call ?_⟩))
  rw [Around.under_plain (weight_type_call_type "set" [.ref l] []) rfl]
  repeat (any_goals (first | assumption | wp_step))
  refine codeAny_mono (code_set_led1 (.ref l) (E := E) (Q₁ := fun ob sa => ob = .ref s.heap.objs.size ∧ sa = { s with heap := s.heap.push (newS w) }) ⟨rfl, rfl⟩) ?_
  rintro (e | fl) sa hr
  · exact hr
  cases fl with
  | ret ob =>
    obtain ⟨rfl, rfl⟩ := hr
    have gS : (s.heap.push (newS w)).get? s.heap.objs.size = some (newS w) := Heap.get?_push_size _ rfl
    have tS : Shared.TypeIs { s with heap := s.heap.push (newS w) } (.ref s.heap.objs.size) "set" := ⟨_, gS, rfl⟩
    have f6 := F.called_set.init.lookup
    have f7 := F.called_set.init.bind (.ref s.heap.objs.size)
    repeat (any_goals (first | assumption | wp_step))
    refine codeAny_mono (codeAny_call_builtin (R := wants (fun r sb => r = .none ∧ ∃ h' tk M en ep t, sb = { s with heap := h', toks := tk } ∧ SetW P w h' s.heap.objs.size M en ep t ∧ Got ks ks.length M ∧ (∀ b o, s.heap.get? b = some o → h'.get? b = some o)) E) F.called_set.init.plain F.entry_set_init (check_set_init_1 tS ?_)) ?_
    · obtain ⟨ol, gl, cl, nl, dl⟩ := pl
      obtain ⟨oc, od, odt, osl⟩ := ol
      simp only at cl dl
      subst cl
      subst dl
      have gl' : (s.heap.push (newS w)).get? l = some { cls := .type "tuple", dict := od, data := .seq items nl, slots := osl } := Heap.get?_push_of_some _ gl
      have f8 := F.sub_tuple_set
      have f9 := F.sub_tuple_frozenset
      have nd : (Value.type "tuple" == Value.type "dict") = false := by decide
      have pl1 : (s.heap.push (newS w)).IsTuple l items := ⟨_, gl', rfl, nl, rfl⟩
      unfold Builtin.«set.__init__» noKeywords Builtin.Frozenset.updateFrom
      generalize hPI : pyIter = PI
      wp_walk
      subst hPI
      refine wpAny_pyIter_tuple pl1 (wpAny_bind (wpAny_runValue ?_))
      have ltl : l < s.heap.objs.size := Heap.lt_size gl
      have z1 : (s.heap.push (newS w)).objs.size = s.heap.objs.size + 1 := Heap.size_push ..
      have neI : l ≠ (s.heap.push (newS w)).objs.size := by rw [z1]; exact Nat.ne_of_lt (Nat.lt_succ_of_lt ltl)
      have offS : s.heap.objs.size ∉ [(s.heap.push (newS w)).objs.size, l] := by
        rw [z1]
        intro z
        rcases List.mem_cons.mp z with z | z
        · exact absurd z (Nat.ne_of_lt (Nat.lt_succ_self _))
        · exact absurd (List.mem_singleton.mp z) (Nat.ne_of_gt ltl)
      have val : ∀ (i : Nat) (v : Value), items[i]? = some v → ∃ q, ks[i]? = some q ∧ v = .ref q.1 := by
        intro i v hv
        have e : (ks.map fun q => Value.ref q.1)[i]? = some v := by
          rw [← hit, Array.getElem?_toList]
          exact hv
        rw [List.getElem?_map] at e
        obtain ⟨q, e1, e2⟩ := Option.map_eq_some_iff.mp e
        exact ⟨q, e1, e2.symm⟩
      have off : ∀ b, s.heap.objs.size ≤ b → s.heap.get? b = none := by
        intro b hb
        cases e : s.heap.get? b with
        | none => rfl
        | some o =>
          exact absurd (Nat.lt_of_lt_of_le (Heap.lt_size e) hb) (Nat.lt_irrefl _)
      refine updW ((Walks.tuple (by simp [hh] : A.in1.in1.in1.handled = none) _ l neI items).toS) s.heap.objs.size offS ks isz val s.heap kt (off _ (Nat.le_refl _)) (fun b hb => off b (by rw [List.mem_singleton.mp hb, z1]; exact Nat.le_succ _)) hu (items.size - 0) 0 _ (by omega) (Nat.zero_le _)
        ⟨⟨_, Heap.get?_push_size _ rfl, rfl, rfl⟩, (pl1.push _)⟩ (fun b o e => Heap.get?_push_of_some _ (Heap.get?_push_of_some _ e)) ?st ?en
      case st => exact ⟨[], #[], 0, _, SetW.of (setTR_fresh (Heap.get?_push_of_some _ gS)), Got.zero ks, few⟩
      case en =>
        rintro ⟨h', g2, d', tk', os'⟩ M en ep t m S' g' kp
        obtain rfl : g2 = s.gens := m.gens
        obtain rfl : d' = s.drawn := m.drawn
        obtain rfl : os' = s.os := m.os
        rw [isz] at g'
        refine (show wpAny _ _ _ _ _ _ from wpAny_pure ?_)
        exact (show wpAny _ _ (ret Value.none) _ _ _ from wpAny_pure ⟨rfl, h', tk', M, en, ep, t, rfl, S', g'.got, kp⟩)
    · rintro (e | fl2) sb hr2
      · exact hr2
      cases fl2 with
      | ret r =>
        obtain ⟨rfl, h', tk, M, en, ep, t, rfl, S', g', k'⟩ := hr2
        repeat (any_goals (first | assumption | wp_step))
        exact fin _ _ _ _ _ _ S' g' k'
      | _ => exact hr2.elim
  | _ => exact hr.elim
end
end Fs
namespace Fs
open PySem PySem.Spec PyProof.Rows L2 Fr Fw Fv
/-! # sorted(set(xs)) -/
section
variable {P : Program} {w : World} {A : Around} {E : Value → Shared → Prop} {s : Shared}
theorem sortW {a : Addr} {M : List (Addr × List Int)} {en : Array (Int × Value)} {ep : Nat} {t : SetTable} {Q : Value → Shared → Prop} (S : SetW P w s.heap a M en ep t) (hh : A.handled = none) {m : Nat} (hm : ∀ q ∈ M, q.2.length = m) (h2 : 2 ≤ M.length → 1 ≤ m)
    (fin : ∀ s' p (out : Array Value) (c : Nat) (M' : List (Addr × List Int)), (∀ b o, s.heap.get? b = some o → s'.heap.get? b = some o) → s'.gens = s.gens → s'.os = s.os → s.heap.objs.size ≤ p → s'.heap.get? p = some (seqObj "list" out c) →
      out.toList = M'.map (fun q => Value.ref q.1) → M'.Perm M → M'.Pairwise (fun q r => lexI r.2 q.2 = false) → Q (.ref p) s') : wpAny (model P w) A (call (.builtin "sorted") [.ref a]) Q E s := by
  obtain ⟨o, hex, hd, ho⟩ := S.at_
  have sz := S.size
  have big : M.length < 77 := by
    have := S.room
    rcases S.tab.mok with e | e | e <;> omega
  refine Calls.call_function_entry kind_sorted plain_sorted entry_sorted (args_sorted1 _) ?_
  unfold Builtin.«sorted»
  refine wpAny_bind (m := checkCount "sorted" 1 1 _) (wpAny_pure (wpAny_bind (collect_set (A := A.in1) hh ⟨o, ho, hex.1, hd⟩ S.fits (by unfold scanBound; omega) S.tab.ris S.ledg fun s1 vs k1 z1 g1 o1 pm => ?_)))
  have er : en.toList.map (·.2) = M.map fun q => Value.ref q.1 := by
    rw [S.row]
    unfold rowsOf
    rw [List.map_map]
    rfl
  rw [er] at pm
  have back : ∀ us : List Value, (∀ u ∈ us, ∃ q ∈ M, u = Value.ref q.1) → ∃ M1 : List (Addr × List Int), us = M1.map (fun q => Value.ref q.1) ∧ ∀ q ∈ M1, q ∈ M := by
    intro us
    induction us with
    | nil => exact fun _ => ⟨[], rfl, by simp⟩
    | cons u us ih =>
      intro hu
      obtain ⟨q, hq, e⟩ := hu u List.mem_cons_self
      obtain ⟨M1, e1, h1⟩ := ih fun v hv => hu v (List.mem_cons_of_mem _ hv)
      exact ⟨q :: M1, by rw [List.map_cons, e, e1], fun r hr => (List.mem_cons.mp hr).elim (fun z => by rw [z]; exact hq) (h1 r)⟩
  have same : ∀ q ∈ M, ∀ r ∈ M, q.1 = r.1 → q = r := fun q hq r hr e => Prod.ext e (by
    have z := S.tups q hq
    rw [e] at z
    exact z.inj (S.tups r hr))
  have nM : M.Nodup := nodup_of_map S.nd
  have nR : (M.map fun q => Value.ref q.1).Nodup := List.pairwise_map.mpr (List.Pairwise.imp_of_mem (fun {q r} hq hr ne e => ne (same q hq r hr (by injection e))) nM)
  have lv : vs.length < 77 := by rw [pm.length_eq, List.length_map]; exact big
  refine wpAny_bind (wpAny_newList ?_ (by rw [sizeLine_eq]; omega))
  have gL : (s1.heap.push (seqObj "list" vs.toArray 0)).get? s1.heap.objs.size = some (seqObj "list" vs.toArray 0) := Heap.get?_push_size _ rfl
  have ti' : ∀ q ∈ M, TS.TupInts (s1.heap.push (seqObj "list" vs.toArray 0)) (.ref q.1) q.2 := fun q hq => tupInts_of (P := P) (w := w) (isT_keep (S.tups q hq) fun b u e => Heap.get?_push_of_some _ (k1 b u e))
  have hv : ∀ v ∈ vs, ∃ ns, TS.TupInts (s1.heap.push (seqObj "list" vs.toArray 0)) v ns ∧ ns.length = m := fun v hv => by
    obtain ⟨q, hq, rfl⟩ := List.mem_map.mp (pm.mem_iff.mp hv)
    exact ⟨q.2, ti' q hq, hm q hq⟩
  have lvM : vs.length = M.length := by rw [pm.length_eq, List.length_map]
  have srt := fun z : 2 ≤ vs.length => tups_sortable (prog := P) (w := w) (A := A.in1.in1) (s := { s1 with heap := s1.heap.push (seqObj "list" vs.toArray 0) }) (a := s1.heap.objs.size) (h2 (by omega)) z hv fun ob e => by
    rw [gL] at e
    cases e
    intro c
    exact absurd (Value.type.inj c) (by decide)
  refine wpAny_bind (wpAny_holding (wpAny_call_entry slot_list_sort ⟨_, gL, rfl⟩ entry_list_sort (SrtO.list_sort_ord (swo_T _) gL (by rw [sizeLine_eq]; omega) srt fun out o1' o2' => ⟨_, rfl, ?_⟩) (args_list_sort _)))
  obtain ⟨c, gc⟩ := sortedHeap_at (vs := vs) (out := out.toArray) gL
  have po := o2'.perm
  obtain ⟨M', e', h'⟩ := back out fun v hv => by
    obtain ⟨q, hq, e⟩ := List.mem_map.mp (pm.mem_iff.mp (po.mem_iff.mp hv))
    exact ⟨q, hq, e.symm⟩
  have pr : (M'.map fun q => Value.ref q.1).Perm (M.map fun q => Value.ref q.1) := by
    rw [← e']
    exact po.trans pm
  have pM : M'.Perm M := by
    refine (List.perm_ext_iff_of_nodup (nodup_of_map (pr.nodup_iff.mpr nR)) nM).mpr fun q => ⟨h' q, fun hq => ?_⟩
    obtain ⟨r, hr, e⟩ := List.mem_map.mp (pr.mem_iff.mpr (List.mem_map.mpr ⟨q, hq, rfl⟩))
    rw [← same r (h' r hr) q hq (by injection e)]
    exact hr
  have pw : M'.Pairwise (fun q r => lexI r.2 q.2 = false) := by
    have z : (M'.map fun q => Value.ref q.1).Pairwise fun u v => ltT (s1.heap.push (seqObj "list" vs.toArray 0)) v u = false := by
      rw [← e']
      exact o1'
    refine List.Pairwise.imp_of_mem (fun {q r} hq hr hle => ?_) (List.pairwise_map.mp z)
    have hle' : lexI (TS.intsOf (s1.heap.push (seqObj "list" vs.toArray 0)) (.ref r.1)) (TS.intsOf (s1.heap.push (seqObj "list" vs.toArray 0)) (.ref q.1)) = false := hle
    rw [(ti' q (h' q hq)).ints, (ti' r (h' r hr)).ints] at hle'
    exact hle'
  refine wpAny_pure ⟨_, rfl, fin _ s1.heap.objs.size out.toArray c M' (fun b u e => ?_) g1 o1 z1 gc (by simpa using e') pM pw⟩
  have lt := Heap.lt_size (k1 b u e)
  show (sortedHeap (s1.heap.push (seqObj "list" vs.toArray 0)) s1.heap.objs.size vs out.toArray).get? b = some u
  rw [sortedHeap_old (Nat.ne_of_lt lt) (by rw [size_push']; exact Nat.lt_succ_of_lt lt)]
  exact Heap.get?_push_of_some _ (k1 b u e)
end
/-! ## as values -/
/-- the set at a, but for the tuples themselves -/
def SetH (P : Program) (w : World) (h : Heap) (a : Addr) (M : List (Addr × List Int)) : Prop := ∃ (en : Array (Int × Value)) (ep : Nat) (t : SetTable), (∀ h', (∀ o, h.get? a = some o → h'.get? a = some o) → (∀ q ∈ M, IsT P w h' q.2 q.1) → SetW P w h' a M en ep t) ∧ ∃ o, h.get? a = some o
def SetWO (P : Program) (w : World) (a : Addr) (M : List (Addr × List Int)) : HO := .ext fun h => SetH P w h a M
theorem setWO_ok {P : Program} {w : World} {H : Hp} {h : Heap} {a : Addr} {M : List (Addr × List Int)} {en : Array (Int × Value)} {ep : Nat} {t : SetTable} (S : SetW P w h a M en ep t) : ObjOk P w H h a (SetWO P w a M) := by
  obtain ⟨o, e1, e2, e3⟩ := id S.at_
  have z : SetH P w h a M := ⟨en, ep, t, fun h' ka kt => S.keep ka kt, o, e3⟩
  refine ⟨z, ⟨o, e3⟩, fun h1 h2 p k => ?_⟩
  obtain ⟨en, ep, t, f, o, e⟩ := p
  exact ⟨en, ep, t, fun h' ka kt => f h' (fun o' e' => ka o' (k o' e')) kt, o, k o e⟩
section
variable {X : Cx}
def rSetW (K : Frag) (P : Program) (w : World) : List V → Hp → VK → Prop := fun xs H Q => ∃ (l : Addr) (ks : List (Addr × List Int)), xs = [V.ref l] ∧ (SqL K H l (ks.map fun q => V.ref q.1) ∨ SqT K H l (ks.map fun q => V.ref q.1)) ∧ (∀ q ∈ ks, SqT K H q.1 (q.2.map V.int)) ∧
  (∀ N : List (List Int), N.Nodup → (∀ k ∈ N, k ∈ ks.map (·.2)) → N.length ≤ 76) ∧ ∀ a M, H a = none → (∀ q ∈ M, q ∈ ks) → (∀ q ∈ ks, q.2 ∈ M.map (·.2)) → (M.map (·.2)).Nodup → Q (.ref a) (upd H a (SetWO P w a M))
theorem cr_setW (hc : X.calm = true) (hu : X.A.units + 64 < cLine) : CallR X (.type "set") (rSetW X.K X.prog X.w) := by
  rintro pins s σ H xs us Q I r ⟨l, ks, rfl, hl, hk, few, q⟩
  rw [Vals.ref1 r]
  have hn : H s.heap.objs.size = none := I.hok.fresh (Nat.le_refl _)
  have fin : ∀ (h' : Heap) (tk : Nat) M en ep t, SetW X.prog X.w h' s.heap.objs.size M en ep t → Got ks ks.length M → (∀ b o, s.heap.get? b = some o → h'.get? b = some o) → EP X pins σ Q (.ref s.heap.objs.size) { s with heap := h', toks := tk } := fun h' tk M en ep t S g k =>
    ⟨.ref s.heap.objs.size, upd H s.heap.objs.size (SetWO X.prog X.w s.heap.objs.size M), I.laid (t' := tk) k (Nat.le_refl _) (setWO_ok S), rfl, q _ M hn (fun q hq => List.mem_of_mem_take (g.sub q hq)) (fun q hq => g.all q (by rw [List.take_length]; exact hq)) S.nd⟩
  rcases hl with hl | hl
  · obtain ⟨its, rv, pl, hz⟩ := I.list hl
    exact setOf_list ks (I.ok.hd hc) pl.isList (by simpa using refs_of_vals rv) (fun q hq => I.isT (hk q hq)) few (by omega) fin
  · obtain ⟨its, rv, pl, hz⟩ := I.tuple hl
    exact setOf_tuple ks (I.ok.hd hc) pl (by simpa using refs_of_vals rv) (fun q hq => I.isT (hk q hq)) few (by omega) fin
def rSortW (K : Frag) (P : Program) (w : World) : List V → Hp → VK → Prop := fun vs H Q => ∃ (a : Addr) (M : List (Addr × List Int)) (m : Nat), vs = [V.ref a] ∧ H a = some (SetWO P w a M) ∧ (∀ q ∈ M, SqT K H q.1 (q.2.map V.int)) ∧ (∀ q ∈ M, q.2.length = m) ∧ (2 ≤ M.length → 1 ≤ m) ∧
  ∀ (M' : List (Addr × List Int)) (p : Addr), M'.Perm M → M'.Pairwise (fun q r => lexI r.2 q.2 = false) → H p = none → Q (.ref p) (upd H p (.lst (M'.map fun q => V.ref q.1)))
theorem cr_sortW (hc : X.calm = true) : CallR X (.builtin "sorted") (rSortW X.K X.prog X.w) := by
  rintro pins s σ H vs us Q I r ⟨a, M, m, rfl, ha, hk, hm, h2, q⟩
  obtain ⟨en, ep, t, f, _⟩ := (I.hok a _ ha).1
  have S := f s.heap (fun _ e => e) fun p hp => I.isT (hk p hp)
  rw [Vals.ref1 r]
  refine sortW S (I.ok.hd hc) hm h2 fun s' p out c M' k g o hp gp ho pm pw => ?_
  have big : M'.length < 77 := by
    have := S.room
    rw [pm.length_eq]
    rcases S.tab.mok with e | e | e <;> omega
  have hn : H p = none := I.hok.fresh hp
  have hv : Vals (M'.map fun q => V.ref q.1) out.toList := by
    rw [ho]
    exact vals_of_refs M'
  have J : Inv X pins σ (upd H p (.lst (M'.map fun q => V.ref q.1))) { s with heap := s'.heap, gens := s'.gens, drawn := s'.drawn, toks := s'.toks } :=
    I.call (ch := []) (Un.laid k hp hn) (I.hok.laid k hp ⟨by rw [List.length_map, sizeLine_eq]; omega, out.toList, c, hv, gp⟩) (by rw [g]; exact I.bare) (fun _ z => nomatch z)
  obtain ⟨h1, g1, d1, t1, o1⟩ := s'
  obtain ⟨h0, g0, d0, t0, o0⟩ := s
  cases o
  exact ⟨.ref p, _, J, rfl, q M' p pm pw hn⟩
/-! ## sorted(set(x)), x a list or a tuple of lots of one length -/
def pSS (g : Px) : Px := ⟨fun ρ k => g.f ρ fun d ρ1 => ∃ (m : Nat) (ts : List (List Int)), (d = lti ts ∨ d = .tup (ts.map ti)) ∧ (∀ t ∈ ts, t.length = m) ∧ (∀ N : List (List Int), N.Nodup → (∀ k ∈ N, k ∈ ts) → N.length ≤ 76) ∧
  ∀ ts' : List (List Int), ts'.Pairwise (fun a b => lexI b a = false) → ts'.Nodup → (∀ t, t ∈ ts' ↔ t ∈ ts) → k (lti ts') ρ1,
  fun h => g.mono fun _ _ ⟨m, ts, a, b, c, q⟩ => ⟨m, ts, a, b, c, fun ts' p1 p2 p3 => h _ _ (q ts' p1 p2 p3)⟩⟩
theorem dvs_ks {L : Ly} {G H : Hp} (s : Same G H) : ∀ {xs : List V} {ts : List (List Int)}, DvAll L G xs (ts.map ti) → ∃ ks : List (Addr × List Int), xs = ks.map (fun q => V.ref q.1) ∧ ts = ks.map (·.2) ∧ ∀ q ∈ ks, SqT L.K H q.1 (q.2.map V.int) ∧ Dv L G (.ref q.1) (ti q.2)
  | _, [], .nil => ⟨[], rfl, rfl, by simp⟩
  | _, t :: ts, .cons h r => by
    obtain ⟨a, ys, rfl, hs, ha⟩ := dv_tup h
    rw [dvs_intsV ha] at hs
    obtain ⟨ks, e1, e2, h3⟩ := dvs_ks s r
    refine ⟨(a, t) :: ks, by rw [e1]; rfl, by rw [e2]; rfl, fun q hq => ?_⟩
    rcases List.mem_cons.mp hq with e | z
    · rw [e]
      exact ⟨same_sqt s hs, h⟩
    · exact h3 q z
theorem dvs_of_ks {L : Ly} {G : Hp} : ∀ {ks : List (Addr × List Int)}, (∀ q ∈ ks, Dv L G (.ref q.1) (ti q.2)) → DvAll L G (ks.map fun q => V.ref q.1) ((ks.map (·.2)).map ti)
  | [], _ => .nil
  | q :: ks, h => .cons (h q List.mem_cons_self) (dvs_of_ks fun r hr => h r (List.mem_cons_of_mem _ hr))
theorem w_SS {L : Ly} {e : Expr} {g : Px} (p : PE X e (tCB (rSortW L.K X.prog X.w) (tCons (tCB (rSetW L.K X.prog X.w) (tCons (tW L g) tNil)) tNil))) : PE X e (tW L (pSS g)) := PE.imp p fun σ H Q ⟨B, G, ρ, r, h⟩ => by
  refine ⟨B, G, ρ, r, g.mono ?_ h⟩
  rintro d ρ1 ⟨m, ts, hd, h1, h2, q⟩ v G1 H1 r1 s1 d1
  obtain ⟨l, xs, rfl, hsq, ha⟩ : ∃ (l : Addr) (xs : List V), v = .ref l ∧ (SqL L.K H1 l xs ∨ SqT L.K H1 l xs) ∧ DvAll L G1 xs (ts.map ti) := by
    rcases hd with rfl | rfl
    · obtain ⟨a, xs, rfl, hs, ha⟩ := dv_lst d1
      exact ⟨a, xs, rfl, .inl (.inl (.inl (r1.gh _ _ hs))), ha⟩
    · obtain ⟨a, xs, rfl, hs, ha⟩ := dv_tup d1
      exact ⟨a, xs, rfl, .inr (same_sqt r1.gh hs), ha⟩
  obtain ⟨ks, e1, e2, hk⟩ := dvs_ks r1.gh ha
  subst e1 e2
  refine ⟨l, ks, rfl, hsq, fun q hq => (hk q hq).1, h2, fun a M na sub all nd => ?_⟩
  have sa := same_upd (o := SetWO X.prog X.w a M) na
  have r2 := r1.lay (o := SetWO X.prog X.w a M) na
  have hmM : ∀ q ∈ M, q.2.length = m := fun q hq => h1 q.2 (List.mem_map.mpr ⟨q, sub q hq, rfl⟩)
  refine ⟨a, M, m, rfl, upd_same, fun q hq => same_sqt sa (hk q (sub q hq)).1, hmM, fun z => ?_, fun M' p pm pw np => ?_⟩
  · rcases Nat.eq_zero_or_pos m with e0 | e0
    · exfalso
      have key : ∀ l : List (List Int), l.Nodup → (∀ k ∈ l, k = []) → l.length ≤ 1 := by
        intro l nl hl
        match l, nl, hl with
        | [], _, _ => exact Nat.zero_le _
        | [_], _, _ => exact Nat.le_refl _
        | x :: y :: r, nl, hl =>
          rw [List.nodup_cons] at nl
          exact absurd (by rw [hl x (by simp), hl y (by simp)]; exact List.mem_cons_self) nl.1
      have := key _ nd fun k hk => by
        obtain ⟨q, hq, rfl⟩ := List.mem_map.mp hk
        exact List.eq_nil_of_length_eq_zero ((hmM q hq).trans e0)
      rw [List.length_map] at this
      omega
    · exact e0
  · have s2 := same_upd (o := .lst (M'.map fun q => V.ref q.1)) (r2.gh.free np)
    have r3 := r2.lay (o := .lst (M'.map fun q => V.ref q.1)) np
    have sG := same_upd (o := SetWO X.prog X.w a M) (r1.gh.free na)
    refine q (M'.map (·.2)) (List.pairwise_map.mpr pw) ((pm.map (·.2)).nodup_iff.mpr nd) (fun t => ?_) _ _ _ r3 (s1.trans (sG.trans s2)) (.lst upd_same (dvs_same s2 (dvs_same sG (dvs_of_ks fun q hq => (hk q (sub q (pm.mem_iff.mp hq))).2))))
    rw [(pm.map (·.2)).mem_iff]
    constructor
    · intro ht
      obtain ⟨q, hq, e⟩ := List.mem_map.mp ht
      exact List.mem_map.mpr ⟨q, sub q hq, e⟩
    · intro ht
      obtain ⟨q, hq, rfl⟩ := List.mem_map.mp ht
      exact all q hq
end
end Fs
namespace Fv
/-! # exchange told by numbers -/
theorem mem_lessL {a b : List Int} {y : Int} : y ∈ lessL a b ↔ y ∈ a ∧ y ∉ b := by
  unfold lessL
  rw [List.mem_filter, decide_eq_true_eq]
theorem bit_pow (i j : Nat) : (2 ^ i : Nat).testBit j = decide (i = j) := Nat.testBit_two_pow
theorem mask_bit {i : Nat} : ∀ {t : List Int} (m : Nat), (∀ x ∈ t, 0 ≤ x) → ((t.foldl (fun m i => m ||| 2 ^ i.toNat) m).testBit i = true ↔ m.testBit i = true ∨ (i : Int) ∈ t)
  | [], m, _ => by simp
  | x :: t, m, h => by
    rw [List.foldl_cons, mask_bit _ fun y hy => h y (List.mem_cons_of_mem _ hy), Nat.testBit_or, bit_pow]
    have h0 := h x List.mem_cons_self
    have e : x.toNat = i ↔ (i : Int) = x := by omega
    simp only [Bool.or_eq_true, decide_eq_true_eq, List.mem_cons, e, or_assoc]
theorem maskN_bit {t : List Int} {i : Nat} (h : ∀ x ∈ t, 0 ≤ x) : (maskN t).testBit i = true ↔ (i : Int) ∈ t := by
  unfold maskN
  rw [mask_bit 0 h]
  simp
theorem maskN_inj {n : Int} {a b : List Int} (ha : LotOk n a) (hb : LotOk n b) (e : maskN a = maskN b) : a = b := by
  refine pw_ext ha.1 hb.1 fun k => ?_
  have h1 : ∀ x ∈ a, 0 ≤ x := fun x hx => (ha.2 x hx).1
  have h2 : ∀ x ∈ b, 0 ≤ x := fun x hx => (hb.2 x hx).1
  constructor
  · intro hk
    obtain ⟨i, rfl⟩ := Int.eq_ofNat_of_zero_le (h1 k hk)
    exact (maskN_bit h2).mp (by rw [← e]; exact (maskN_bit h1).mpr hk)
  · intro hk
    obtain ⟨i, rfl⟩ := Int.eq_ofNat_of_zero_le (h2 k hk)
    exact (maskN_bit h1).mp (by rw [e]; exact (maskN_bit h2).mpr hk)
theorem and_pow (o i : Nat) : o &&& 2 ^ i ≠ 0 ↔ o.testBit i = true := by
  rw [ne_eq, and_bit]
  cases o.testBit i <;> simp
theorem and_ne (o s : Nat) : o &&& s ≠ 0 ↔ ∃ y, o.testBit y = true ∧ s.testBit y = true := by
  constructor
  · intro h
    obtain ⟨y, hy⟩ := Nat.exists_testBit_of_ne_zero h
    rw [Nat.testBit_and, Bool.and_eq_true] at hy
    exact ⟨y, hy⟩
  · rintro ⟨y, h1, h2⟩ e
    have : (o &&& s).testBit y = true := by rw [Nat.testBit_and, h1, h2]; rfl
    rw [e, Nat.zero_testBit] at this
    cases this
theorem swGo_bit {ks : List Nat} {m b y : Nat} : ∀ {l : List Nat} {acc : Nat}, (swGo ks m b l acc).testBit y = true ↔ acc.testBit y = true ∨ ∃ o ∈ l, swOk ks m b o = true ∧ o.testBit y = true
  | [], acc => by
    show acc.testBit y = true ↔ _
    simp
  | o :: l, acc => by
    show (swGo ks m b l _).testBit y = true ↔ _
    rw [swGo_bit]
    by_cases h : swOk ks m b o = true
    · rw [if_pos h, Nat.testBit_or, Bool.or_eq_true]
      constructor
      · rintro ((z | z) | ⟨q, hq, z⟩)
        · exact .inl z
        · exact .inr ⟨o, List.mem_cons_self, h, z⟩
        · exact .inr ⟨q, List.mem_cons_of_mem _ hq, z⟩
      · rintro (z | ⟨q, hq, z1, z2⟩)
        · exact .inl (.inl z)
        · rcases List.mem_cons.mp hq with e | hq
          · rw [e] at z2
            exact .inl (.inr z2)
          · exact .inr ⟨q, hq, z1, z2⟩
    · rw [if_neg h]
      constructor
      · rintro (z | ⟨q, hq, z⟩)
        · exact .inl z
        · exact .inr ⟨q, List.mem_cons_of_mem _ hq, z⟩
      · rintro (z | ⟨q, hq, z1, z2⟩)
        · exact .inl z
        · rcases List.mem_cons.mp hq with e | hq
          · rw [e] at z1
            exact absurd z1 h
          · exact .inr ⟨q, hq, z1, z2⟩
theorem sw_bit {n m b y : Nat} {ks : List Nat} : (swN n ks m b).testBit y = true ↔ y < n ∧ m.testBit y = false ∧ ((m ^^^ b) ||| 2 ^ y) ∈ ks := by
  unfold swN
  rw [swGo_bit]
  constructor
  · rintro (z | ⟨o, ho, h1, h2⟩)
    · rw [Nat.zero_testBit] at z
      cases z
    · obtain ⟨t, ht, rfl⟩ := mem_bits.mp ho
      rw [bit_pow, decide_eq_true_eq] at h2
      subst h2
      unfold swOk at h1
      rw [Bool.and_eq_true, decide_eq_true_eq, decide_eq_true_eq, and_bit] at h1
      refine ⟨?_, h1.1, h1.2⟩
      rw [Nat.testBit_two_pow_sub_one] at ht
      exact of_decide_eq_true ht
  · rintro ⟨h1, h2, h3⟩
    refine .inr ⟨2 ^ y, mem_bits.mpr ⟨y, by rw [Nat.testBit_two_pow_sub_one]; exact decide_eq_true h1, rfl⟩, ?_, by rw [bit_pow]; simp⟩
    unfold swOk
    rw [Bool.and_eq_true, decide_eq_true_eq, decide_eq_true_eq, and_bit]
    exact ⟨h2, h3⟩
theorem exch_mask {n : Nat} {one : List Int} (h1 : LotOk n one) {i y : Nat} (hi : (i : Int) ∈ one) (hy : (y : Int) ∉ one) (hn : y < n) : LotOk n (withL (lessL one [(i : Int)]) [(y : Int)]) ∧ maskN (withL (lessL one [(i : Int)]) [(y : Int)]) = (maskN one ^^^ 2 ^ i) ||| 2 ^ y := by
  have p : ∀ x ∈ one, 0 ≤ x := fun x hx => (h1.2 x hx).1
  have hm : ∀ x : Int, x ∈ withL (lessL one [(i : Int)]) [(y : Int)] ↔ (x ∈ one ∧ x ≠ i) ∨ x = y := by
    intro x
    rw [mem_with, mem_lessL]
    simp
  have hk : LotOk n (withL (lessL one [(i : Int)]) [(y : Int)]) := by
    refine ⟨pw_asc _, fun x hx => ?_⟩
    rcases (hm x).mp hx with ⟨z, _⟩ | z
    · exact h1.2 x z
    · subst z
      omega
  refine ⟨hk, Nat.eq_of_testBit_eq fun j => ?_⟩
  rw [Bool.eq_iff_iff, maskN_bit fun x hx => (hk.2 x hx).1, hm, Nat.testBit_or, Nat.testBit_xor, bit_pow, bit_pow]
  have hj := maskN_bit (t := one) (i := j) p
  by_cases e1 : (j : Int) ∈ one
  · rw [hj.mpr e1]
    by_cases e2 : i = j
    · subst e2
      simp only [e1, ne_eq, not_true, and_false, false_or, decide_true]
      rw [show ((true ^^ true) || decide (y = i)) = decide (y = i) by simp, decide_eq_true_eq]
      omega
    · have e3 : (j : Int) ≠ i := by omega
      simp [e1, e2, e3]
  · have hf : (maskN one).testBit j = false := by
      cases hb : (maskN one).testBit j with
      | false => rfl
      | true => exact absurd (hj.mp hb) e1
    have e2 : i ≠ j := fun z => e1 (by rw [← z]; exact hi)
    rw [hf, decide_eq_false e2]
    simp only [e1, false_and, false_or]
    rw [show ((false ^^ false) || decide (y = j)) = decide (y = j) by simp, decide_eq_true_eq]
    omega
theorem exN_iff {n : Nat} {bs : List (List Int)} (h : ∀ b ∈ bs, LotOk n b) : ExN n (bs.map maskN) ↔ CanEx bs := by
  have p : ∀ b ∈ bs, ∀ x ∈ b, 0 ≤ x := fun b hb x hx => ((h b hb).2 x hx).1
  constructor
  · intro ex one h1 other h2 item h3
    obtain ⟨a1, a2⟩ := mem_lessL.mp h3
    obtain ⟨i, rfl⟩ := Int.eq_ofNat_of_zero_le (p one h1 item a1)
    have hb : (2 ^ i) ∈ bitsN (maskN one) := mem_bits.mpr ⟨i, (maskN_bit (p one h1)).mpr a1, rfl⟩
    rcases ex _ (List.mem_map.mpr ⟨one, h1, rfl⟩) _ hb _ (List.mem_map.mpr ⟨other, h2, rfl⟩) with z | z
    · exact absurd ((maskN_bit (p other h2)).mp ((and_pow _ _).mp z)) a2
    · obtain ⟨y, y1, y2⟩ := (and_ne _ _).mp z
      obtain ⟨z1, z2, z3⟩ := sw_bit.mp y2
      have y3 : (y : Int) ∉ one := fun q => by
        rw [(maskN_bit (p one h1)).mpr q] at z2
        cases z2
      obtain ⟨e1, e2⟩ := exch_mask (h one h1) a1 y3 z1
      obtain ⟨u, hu, e⟩ := List.mem_map.mp z3
      refine ⟨(y : Int), mem_lessL.mpr ⟨(maskN_bit (p other h2)).mp y1, y3⟩, ?_⟩
      rw [← e2] at e
      rw [← maskN_inj (h u hu) e1 e]
      exact hu
  · intro ex m hm b hb o ho
    obtain ⟨one, h1, rfl⟩ := List.mem_map.mp hm
    obtain ⟨other, h2, rfl⟩ := List.mem_map.mp ho
    obtain ⟨i, hi, rfl⟩ := mem_bits.mp hb
    have a1 := (maskN_bit (p one h1)).mp hi
    by_cases a2 : (i : Int) ∈ other
    · exact .inl ((and_pow _ _).mpr ((maskN_bit (p other h2)).mpr a2))
    · obtain ⟨t, t1, t2⟩ := ex one h1 other h2 i (mem_lessL.mpr ⟨a1, a2⟩)
      obtain ⟨t3, t4⟩ := mem_lessL.mp t1
      obtain ⟨y, rfl⟩ := Int.eq_ofNat_of_zero_le (p other h2 t t3)
      have yn : y < n := by
        have := ((h other h2).2 _ t3).2
        omega
      obtain ⟨e1, e2⟩ := exch_mask (h one h1) a1 t4 yn
      refine .inr ((and_ne _ _).mpr ⟨y, (maskN_bit (p other h2)).mpr t3, sw_bit.mpr ⟨yn, ?_, ?_⟩⟩)
      · cases hb : (maskN one).testBit y with
        | false => rfl
        | true => exact absurd ((maskN_bit (p one h1)).mp hb) t4
      · rw [← e2]
        exact List.mem_map.mpr ⟨_, t2, rfl⟩
theorem maskN_lt {n : Nat} (hn : n ≤ 8) {t : List Int} (h : LotOk n t) : maskN t < 2 ^ 64 := by
  refine Nat.lt_of_lt_of_le (Nat.lt_pow_two_of_testBit (n := n) (maskN t) fun i hi => ?_) (Nat.pow_le_pow_right (by decide) (by omega))
  cases hb : (maskN t).testBit i with
  | false => rfl
  | true =>
    have := (h.2 _ ((maskN_bit fun x hx => (h.2 x hx).1).mp hb)).2
    omega
end Fv
namespace Fv
open PySem PySem.Spec PyProof.Rows L2 Fr Fw Fs
/-! # books -/
def bkF (v1 v2 v3 : V) : List (Str × V) := [("size", v1), ("bases", v2), ("rank", v3)]
def ObBook (cB : Addr) (H : Hp) (v : V) (vs : List V) : Prop := ∃ (a dx : Addr) (v1 v2 v3 : V), v = .ref a ∧ H a = some (.ins cB dx (bkF v1 v2 v3)) ∧ H dx = some (.own a) ∧ vs = [v1, v2, v3]
def ObBad (cE : Addr) (H : Hp) (v : V) (vs : List V) : Prop := ∃ (a d : Addr) (p : V), v = .ref a ∧ H a = some (exv a cE (some d)) ∧ H d = some (.xd [("part", p)]) ∧ vs = [p]
/-- the classes of the program -/
structure LyB (L : Ly) (cB cE : Addr) : Prop where
  k : LyK L
  book : ∀ {H v vs}, L.Ob 1 H v vs ↔ ObBook cB H v vs
  bad : ∀ {H v vs}, L.Ob 2 H v vs ↔ ObBad cE H v vs
structure BkC (K : Frag) (mg : Str → Option Value) (cB fI : Addr) : Prop where
  g : mg "Book" = some (.ref cB)
  mkd : Mk K cB fI
  cls : Cls K cB
  size : NoAttr K cB "size"
  bases : NoAttr K cB "bases"
  rank : NoAttr K cB "rank"
def bkD (n : Nat) (bs : List (List Int)) (m : Nat) : Da := .obj 1 [.int n, .tup (bs.map ti), .int m]
theorem lots_le {n m : Nat} (hn : n ≤ 8) {N : List (List Int)} (nd : N.Nodup) (h : ∀ k ∈ N, LotOk n k ∧ k.length = m) : N.length ≤ 70 := by
  rcases Nat.lt_or_ge n m with hm | hm
  · have : N = [] := by
      cases N with
      | nil => rfl
      | cons k r =>
        exfalso
        obtain ⟨⟨h1, h2⟩, h3⟩ := h k List.mem_cons_self
        have h4 : k.length ≤ (rangeI n).length := nd_lenA (List.Pairwise.imp (fun h => by omega) h1) fun x hx => by
          obtain ⟨a, b⟩ := h2 x hx
          obtain ⟨i, rfl⟩ := Int.eq_ofNat_of_zero_le a
          exact List.mem_map.mpr ⟨i, List.mem_range.mpr (by omega), rfl⟩
        rw [len_rangeI] at h4
        omega
    rw [this]
    exact Nat.zero_le _
  · have h4 : N.length ≤ (lotsL (rangeI n) m).length := nd_lenA nd fun k hk => by
      obtain ⟨⟨h1, h2⟩, h3⟩ := h k hk
      refine mem_lots.mpr ⟨h1, h3, fun x hx => ?_⟩
      obtain ⟨a, b⟩ := h2 x hx
      obtain ⟨i, rfl⟩ := Int.eq_ofNat_of_zero_le a
      exact List.mem_map.mpr ⟨i, List.mem_range.mpr (by omega), rfl⟩
    have key : ∀ n ∈ List.range 9, ∀ m ∈ List.range 9, (lotsL (rangeI n) m).length ≤ 70 := by decide +kernel
    have := key n (List.mem_range.mpr (by omega)) m (List.mem_range.mpr (by omega))
    omega
/-- what a book is made of -/
def BookW (cE : Addr) (G H : Hp) (d1 d2 : Da) (E : XK) (ok : Nat → List (List Int) → Nat → Prop) : Prop :=
  Kn d1 ∧ (inB d1 0 8 = false → OutB G H cE "size" E) ∧ ∀ n : Nat, n ≤ 8 → d1 = .int n → Kn3 d2 ∧ (¬ LotsP n d2 → OutB G H cE "bases" E) ∧
    ∀ (bs : List (List Int)) (m : Nat), (d2 = lti bs ∨ d2 = .tup (bs.map ti)) → bs ≠ [] → (∀ b ∈ bs, LotOk n b ∧ b.length = m) → (¬ CanEx bs → OutB G H cE "exchange" E) ∧
      (CanEx bs → ∀ bs' : List (List Int), LexS bs' → (∀ t, t ∈ bs' ↔ t ∈ bs) → ok n bs' m)
def spBk (L : Ly) (cE cB : Addr) : L2.Sp := fun vs H Q E => ∃ G H0 x dx v1 v2 d1 d2, vs = [.ref x, v1, v2] ∧ H = upd (upd H0 dx (.own x)) x (.ins cB dx []) ∧ H0 x = none ∧ H0 dx = none ∧ dx ≠ x ∧ Same G H0 ∧ Dv L G v1 d1 ∧ Dv L G v2 d2 ∧
  BookW cE G H0 d1 d2 E fun n bs m => ∀ G' H', Grow M0 G H0 G' H' → Dv L G' (.ref x) (bkD n bs m) → Q .non H'
def s_binit : Stmt := (C8.clsBody (topS 18)).getD 0 (.Pass ⟨0, 0, 0, 0⟩)
theorem sc_binit : FnScope ["self", "size", "bases", "base"] ["self", "size", "bases"] (C8.fnScope s_binit) := C8.fnScope_by (by decide +kernel)
section
variable {P : Program} {w : World} {L : Ly} {mg : Str → Option Value} {base : Heap} {f : Addr} {fd : FuncData} {cE cB : Addr}
def bk2 (a b : V) : List (Str × V) := [("size", a), ("bases", b)]
theorem put2 (a b : V) : putF "bases" b (putF "size" a []) = bk2 a b := by
  have ne : ("size" : Str) ≠ "bases" := by decide
  simp [putF, ne, bk2]
theorem put3 (a b c : V) : putF "rank" c (bk2 a b) = bkF a b c := by
  have n1 : ("size" : Str) ≠ "rank" := by decide
  have n2 : ("bases" : Str) ≠ "rank" := by decide
  simp [putF, n1, n2, bkF, bk2]
theorem look2 (a b : V) : (bk2 a b).lookup ("bases" : Str) = some b := by
  have ne : (("bases" : Str) == ("size" : Str)) = false := by decide
  unfold bk2
  simp only [List.lookup, ne, beq_self_eq_true]
theorem rep_self {G H : Hp} {x : Addr} {v1 v2 : V} {d1 d2 : Da} (s : Same G H) (h1 : Dv L G v1 d1) (h2 : Dv L G v2 d2) : Rep L ⟨M0, G, H, [], []⟩ G H [some (.ref x), some v1, some v2, none] [none, some (.dat d1), some (.dat d2), none] where
  gr := Grow.refl s
  mh := fun _ z => z.elim
  env := .cons trivial (.cons h1 (.cons h2 (.cons trivial .nil)))
  nd := List.nodup_nil
  fm := fun p es hm => by simp at hm
  fd := fun d l c hm => by simp at hm
  ks := fun q hq => by cases hq
  tb := fun p hp => by cases hp
  tg := fun p hp => by cases hp
  mt := fun p hp => by cases hp
  ft := fun T hm => by simp at hm
theorem ok_binit (LB : LyB L cB cE) (F : C8.Fun L.K "__init__" "Book.__init__" s_binit f fd) (C : BkC L.K mg cB f) (B : Bw mg) (T : ExB P w L.K mg base "BadBook" "part" cE)
    (c_need : CalG P w L.K mg base (L2.CX P w) 3 "need_size" (spNeed L cE)) (c_lots : CalG P w L.K mg base C8.CX0 4 "_are_lots_of_one_length" (spF L fLots1)) (c_mask_of : CalG P w L.K mg base C8.CX0 1 "mask_of" (spF L fMask))
    (c_exch : CalG P w L.K mg base C8.CX0 3 "are_exchanged" (spF L fExch)) : FnG P w L.K mg base (L2.CX P w) 5 f fd ["self", "size", "bases"] (spBk L cE cB) := by
  have sc := sc_binit
  refine mkc F sc ?_ ?_
  · rintro vs H Q E ⟨G, H0, x, dx, v1, v2, d1, d2, rfl, _⟩
    rfl
  · rintro cdv A outer s H vs Q E hcd hr hgu ⟨G, H0, x, dx, v1, v2, d1, d2, rfl, rfl, nx, ndx, ne, sg, dv1, dv2, kn, o1, o2⟩
    have tk := takes_of (X := cxOf (L2.CX P w) P w L.K mg base ["self", "size", "bases", "base"] "Book.__init__" (C8.fnScope s_binit) f cdv A outer s (upd (upd H0 dx (.own x)) x (.ins cB dx [])) E) rfl rfl rfl rfl
    refine ⟨_, pss_cons (ps_expr (pe_cgS c_need hr (by decide) hgu rfl (fun σ => passAt tk σ) (pa_cons (pv 1) pa_nil)))
      (pss_cons (ps_if (w_notT (pt_not (w_val (pt_val (w_call c_lots hr (by decide) hgu rfl (w_cons (w_v (pv 1)) (w_cons (w_v (pv 2)) w_nil))))))) (pss_one (ps_bad T rfl tk (hr.mono (by decide)) rfl pe_str)) pss_nil)
      (pss_cons (ps_if (w_notT (pt_not (w_val (pt_val (w_call c_exch hr (by decide) hgu rfl (w_cons (w_v (pv 1)) (w_cons (w_lc (sndv_N (by decide)) (pe_lc (own := [("base", 3)]) (by rfl) sc.nd (w_ilt (pi_list (pv 2)) (pi_tup (pv 2))) (blkOk_by (by kernel_rfl)) (fun _ _ _ _ _ => (pg_name (i := 3) sc.nd rfl (by first | exact Or.inl rfl | exact Or.inr rfl))) (fun _ _ _ _ _ => w_tnil) (fun _ _ _ _ _ => w_call c_mask_of hr (by decide) hgu rfl (w_cons (w_v (pv 3)) w_nil)))) w_nil))))))) (pss_one (ps_bad T rfl tk (hr.mono (by decide)) rfl pe_str)) pss_nil)
      (pss_cons (ps_fld (pv 0) (w_v (L := L) (pv 1)) (by rfl))
      (pss_cons (ps_fld (pv 0) (w_tCB snd_tupOf (pe_callTy call_tuple_of (by rfl) B.tuple (by decide +kernel) (w_cons (w_SS (pe_callB (cr_sortW rfl) (by rfl) B.sorted (by decide +kernel) (pa_cons (pe_callTy (cr_setW rfl hr.units) (by rfl) B.set (by decide +kernel) (pa_cons (w_v (pv 2)) pa_nil)) pa_nil))) w_nil))) (by rfl))
      (pss_one (ps_fld (pv 0) (pe_callB call_len_seq (by rfl) B.len (by decide +kernel) (pa_cons (pe_ix ix_tup (pe_fld (pv 0) (by rfl)) pe_int (fun _ _ => rfl)) pa_nil)) (by rfl))))))), ?_⟩
    have nx1 : upd H0 dx (.own x) x = none := by rw [upd_ne (Ne.symm ne)]; exact nx
    have R0 := ((rep_self (x := x) sg dv1 dv2).kp (o := .own x) ndx).kp (o := .ins cB dx []) nx1
    have nes : ∀ q ∈ [((dx, .own x) : Addr × HO)], q.1 ≠ x := fun q hq => by rw [List.mem_singleton.mp hq]; exact ne
    refine ⟨v1, rfl, G, v1, d1, rfl, R0.gh, dv1, kn, fun hb G1 H1 g1 => ?_, fun hb dx' G' H' g' hx => o1 hb dx' G' H' (R0.go g').gr hx⟩
    have R1 := R0.go g1
    obtain ⟨n, hn, rfl⟩ : ∃ n : Nat, n ≤ 8 ∧ d1 = .int n := by
      cases d1 with
      | int i =>
        have h : (decide (0 ≤ i) && decide (i ≤ 8)) = true := hb
        rw [Bool.and_eq_true, decide_eq_true_eq, decide_eq_true_eq] at h
        exact ⟨i.toNat, by omega, by rw [Int.toNat_of_nonneg h.1]⟩
      | _ => cases hb
    obtain ⟨kn3, oB, oX⟩ := o2 n hn rfl
    refine ⟨_, G1, _, R1, _, rfl, d2, rfl, n, d2, rfl, kn3, fun r hr => ⟨r, rfl, fun G2 H2 R2 s2 => ?_⟩⟩
    cases r with
    | false =>
      have nl : ¬ LotsP n d2 := fun z => by
        have := hr.mpr z
        cases this
      intro dx' hd
      exact oB nl dx' _ _ (R2.lay hd).gr upd_same
    | true =>
    obtain ⟨bs, hbs, hne, m, hm⟩ := hr.mp rfl
    obtain ⟨oE, oK⟩ := oX bs m hbs hne hm
    have hlen : bs.length ≤ 1000 := by
      have := (kn3.2 (bs.map ti) hbs).1
      rwa [List.length_map] at this
    have hρ : ∀ (ρ : En), ρ = [none, some (.dat (.int (n : Int))), some (.dat d2), none] → (ρ[2]? = some (some (.dat (.lst (bs.map ti)))) ∨ ρ[2]? = some (some (.dat (.tup (bs.map ti))))) := by
      rintro ρ rfl
      rcases hbs with e | e <;> subst e
      · exact .inl rfl
      · exact .inr rfl
    refine ⟨_, G2, _, R2, _, rfl, bs.map ti, hρ _ rfl, lcP_all ti (fun b => .int (maskN b : Nat)) (fun b hb => ⟨_, rfl, b, rfl, fun y hy => ?_, rfl, rfl⟩) (Nat.le_trans hlen (by decide)) ?_⟩
    · have := (hm b hb).1.2 y hy
      omega
    refine ⟨n, bs.map maskN, ?_, hn, fun k hk => ?_, by rw [List.length_map]; exact hlen, fun r hr => ⟨r, rfl, fun G3 H3 R3 s3 => ?_⟩⟩
    · show [Da.int n, Da.lst (bs.map fun b => Da.int (maskN b : Nat))] = [Da.int n, Da.lst (kd (bs.map maskN))]
      unfold kd
      rw [List.map_map]
      rfl
    · obtain ⟨b, hb, rfl⟩ := List.mem_map.mp hk
      exact maskN_lt hn (hm b hb).1
    have hx := hr.trans (exN_iff fun b hb => (hm b hb).1)
    cases r with
    | false =>
      intro dx' hd
      exact oE (fun z => by have := hx.mpr z; cases this) dx' _ _ (R3.lay hd).gr upd_same
    | true =>
    have cx := hx.mp rfl
    refine ⟨_, G3, _, R3, _, rfl, fun va G4 H4 R4 s4 dva => ⟨_, rfl, x, cB, dx, [], rfl, R4.kpAt.1, C.cls, C.size, by simp, ?_⟩⟩
    cases dva
    have R5 := R4.kpChg (o' := .ins cB dx (putF "size" (.int (n : Int)) [])) nx nes
    refine ⟨_, G4, _, R5, d2, rfl, m, bs, hbs, fun t ht => (hm t ht).2, fun N nd hN => Nat.le_trans (lots_le hn nd fun k hk => hm k (hN k hk)) (by decide), fun bs' q1 q2 q3 => ⟨_, .inl rfl, fun vb G6 H6 R6 s6 dvb => ⟨_, rfl, x, cB, dx, _, rfl, R6.kpAt.1, C.cls, C.bases, (by decide : (1 : Nat) < 1000), ?_⟩⟩⟩
    have R7 := R6.kpChg (o' := .ins cB dx (bk2 (.int (n : Int)) vb)) nx nes
    show tSeq _ _ _ _ _
    rw [show putF "bases" vb (putF "size" (.int (n : Int)) []) = (bk2 (.int (n : Int)) vb) from put2 _ _]
    obtain ⟨p, xs, rfl, hsq, hda⟩ := dv_tup dvb
    have hb0 : bs' ≠ [] := fun z => by
      obtain ⟨b, hb⟩ := List.exists_mem_of_ne_nil bs hne
      have := (q3 b).mpr hb
      rw [z] at this
      cases this
    cases bs' with
    | nil => exact absurd rfl hb0
    | cons b0 r =>
    cases hda with
    | @cons u us _ _ du dus =>
    obtain ⟨p0, ys, rfl, hs0, ha0⟩ := dv_tup du
    have hl0 : ys.length = m := by
      rw [dvs_len ha0, List.length_map]
      exact (hm b0 ((q3 b0).mp List.mem_cons_self)).2
    refine ⟨_, rfl, x, cB, dx, _, .ref p, rfl, R7.kpAt.1, C.cls, C.bases, look2 _ _, p, _, 0, .ref p0, rfl, rfl, same_sqt R7.gh hsq, Fw.atI_nat (j := 0) rfl, p0, ys, rfl, .inr (same_sqt R7.gh hs0), _, rfl, x, cB, dx, _, rfl, R7.kpAt.1, C.cls, C.rank, (by decide : (2 : Nat) < 1000), ?_⟩
    rw [put3]
    have R8 := R7.kpChg (o' := .ins cB dx (bkF (.int (n : Int)) (.ref p) (.int (m : Int)))) nx nes
    have hx8 := R8.kpAt.2.1
    have R9 := R8.kpDone nx nes
    have hx9 := R9.kpAt.2.1
    have R10 := R9.kpDone ndx (fun q hq => by cases hq)
    have eG : Same G6 (upd (upd G6 x (.ins cB dx (bkF (.int (n : Int)) (.ref p) (.int (m : Int))))) dx (.own x)) := (same_upd hx8).trans (same_upd hx9)
    have fin := oK cx (b0 :: r) (lexS_sorted (List.Perm.refl _) q1 q2) q3 _ _ R10.gr (.obj (LB.book.mpr ⟨x, dx, .int n, .ref p, .int m, rfl, by rw [upd_ne (Ne.symm ne), upd_same], upd_same, rfl⟩) (.cons (.int n) (.cons (dv_same eG dvb) (.cons (.int m) .nil))))
    rw [hl0]
    exact fin
end
end Fv
namespace Fv
open PySem PySem.Spec PyProof.Rows L2 Fr Fw Fs
/-! # Book(..) -/
section
variable {X : Cx} {CX : CXT} {k j : Nat} {f C : Addr} {fd : FuncData} {ps : List Str} {sp : L2.Sp} {E : XK} {pins : List (Addr × Obj)} {σ : L2.St} {H : Hp} {s : Shared} {Q : VK}
theorem run_mkG {us ys : List Value} {kw : List (Str × Value)} {zs : List V} (M : Mk X.K C f) (F : FnG X.prog X.w X.K X.mg X.base CX k f fd ps sp) (hr : Room (k + 1) X.A) (hgu : X.A.guards = some []) (hb : ∀ (s2 : Shared) (x : Addr), X.K.In s2.heap → BindsTo s2 fd ⟨.ref x :: us, kw⟩ (ps.zip (.ref x :: ys)))
    (hx : ∀ H2 s2 e s', Inv X pins σ H2 s2 → CX X.stack H2 s2 E e s' → X.xe e s') (I : Inv X pins σ H s) (r : Vals zs ys)
    (h : ∀ x dx, H x = none → H dx = none → dx ≠ x → sp (.ref x :: zs) (upd (upd H dx (.own x)) x (.ins C dx [])) (fun v H2 => v = .non ∧ Q (.ref x) H2) E) : wpAny (model X.prog X.w) X.A (call (.ref C) us kw) (EP X pins σ Q) X.xe s := by
  have q := h (s.heap.objs.size + 1) s.heap.objs.size (I.hok.fresh (Nat.le_succ _)) (I.hok.fresh (Nat.le_refl _)) (Nat.ne_of_lt (Nat.lt_succ_self _))
  have I2 := Inv.made (C := C) I
  have r2 : Vals (V.ref (s.heap.objs.size + 1) :: zs) (Value.ref (s.heap.objs.size + 1) :: ys) := .cons rfl r
  have run := F.run _ X.stack _ _ ⟨Value.ref (s.heap.objs.size + 1) :: us, kw⟩ (Value.ref (s.heap.objs.size + 1) :: ys) _ _ E (hr.make C us kw) hgu (I2.env0.make C us kw) (hb _ _ I2.kIn) r2 q
  refine wpAny_call (make_map (f := f) I.kIn M.makes M.init (beq_iff_eq.mp M.fn) (codeAny_mono run ?_))
  rintro (e | fl) s' hq
  · exact hx _ _ e s' I2 hq
  · cases fl with
    | ret u =>
      obtain ⟨v, H', I3, rv, ev, q3⟩ := I2.after hq
      subst ev
      exact ⟨rv, V.ref (s.heap.objs.size + 1), H', I3, rfl, q3⟩
    | next => exact hq.elim
    | brk => exact hq.elim
    | cont => exact hq.elim
/-- C(e, ..) -/
theorem pe_mkG {E : L2.St → XK} {x : Str} {p pos : Pos} {e : Expr} {es : List Expr} {t : TA} (M : Mk X.K C f) (F : FnG X.prog X.w X.K X.mg X.base CX k f fd ps sp) (b : Binds X.K fd ps []) (hr : Room j X.A) (hk : k + 1 ≤ j) (hgu : X.A.guards = some []) (hg : Gl X x) (hm : X.mg x = some (.ref C))
    (hx : ∀ σ, PassesAt CX X σ (E σ)) (ha : PA X (e :: es) t) (hdb : (x == ("__debug__" : Str)) = false := by decide) (he : starEach (e :: es) X.env = (false, eval e X.env) :: starEach es X.env := by rfl) (hpl : (backTo pos (starEach es X.env)).any (·.1) = false := by rfl) :
    PE X (.Call (.Name x p) (e :: es) [] pos) (fun σ H Q => t σ H fun zs H1 => ∀ x dx, H1 x = none → H1 dx = none → dx ≠ x → sp (.ref x :: zs) (upd (upd H1 dx (.own x)) x (.ins C dx [])) (fun v H2 => v = .non ∧ Q (.ref x) H2) (E σ)) := by
  constructor
  intro pins s σ H Q I h
  refine wpAny_Call_Name_kw (ld_glob I hg hm ?_ hdb)
  refine PySem.W.callWith_K (h₀ := X.base) I.ok.mod.kin M.kp (thn (ha.run pos pins s σ H _ I h) ?_) he hpl
  rintro us s1 ⟨zs, H1, I1, r, q⟩
  refine ⟨I1.kIn, run_mkG (ys := us) M F (hr.mono hk) hgu (fun s2 x hK => ?_) (fun H2 s2 e s' J z => hx σ pins H2 s2 e s' J z) I1 r q⟩
  have hl : (Value.ref x :: us).length = ps.length := by
    have q0 := q (s1.heap.objs.size + 1) s1.heap.objs.size (I1.hok.fresh (Nat.le_succ _)) (I1.hok.fresh (Nat.le_refl _)) (Nat.ne_of_lt (Nat.lt_succ_self _))
    have e1 := F.len _ _ _ _ q0
    rw [List.length_cons, Paired.length r] at e1
    exact e1
  have z := b s2 (Value.ref x :: us) hK (by rw [List.append_nil]; exact hl)
  rw [List.append_nil] at z
  exact z
/-- C(k1 = e1, k2 = e2): the second parameter's name first -/
theorem pe_mkK {x k1 k2 self : Str} {p pos : Pos} {kws : List Keyword} {t : TA} (M : Mk X.K C f) (F : FnG X.prog X.w X.K X.mg X.base CX k f fd [self, k2, k1] sp) (b : ∀ (s2 : Shared) (x : Addr) (u1 u2 : Value), X.K.In s2.heap → BindsTo s2 fd ⟨[.ref x], [(k1, u1), (k2, u2)]⟩ (([self, k2, k1] : List Str).zip [.ref x, u2, u1]))
    (hr : Room j X.A) (hk : k + 1 ≤ j) (hgu : X.A.guards = some []) (hg : Gl X x) (hm : X.mg x = some (.ref C)) (hx : ∀ H2 s2 e s', CX X.stack H2 s2 (fun _ _ _ => False) e s' → X.xe e s') (hkw : PK X kws t)
    (hall : (backToKw pos (keywordEach kws X.env)).all (·.1.isSome) = true := by rfl) (hks : (backToKw pos (keywordEach kws X.env)).filterMap (·.1) = [k1, k2] := by rfl) (hdb : (x == ("__debug__" : Str)) = false := by decide)
    (hpl : ((backTo pos (starEach [] X.env)).any (·.1) || (backToKw pos (keywordEach kws X.env)).any (·.1.isNone)) = false := by rfl) :
    PE X (.Call (.Name x p) [] kws pos) (fun σ H Q => t σ H fun zs H1 => ∃ z1 z2, zs = [z1, z2] ∧ ∀ x dx, H1 x = none → H1 dx = none → dx ≠ x → sp [.ref x, z2, z1] (upd (upd H1 dx (.own x)) x (.ins C dx [])) (fun v H2 => v = .non ∧ Q (.ref x) H2) (fun _ _ _ => False)) := by
  constructor
  intro pins s σ H Q I h
  refine wpAny_Call_Name_kw (ld_glob I hg hm ?_ hdb)
  refine PySem.W.callWith_KW0 (h₀ := X.base) I.ok.mod.kin M.kp hall (thn (hkw.run pos pins s σ H _ I h) ?_) hpl
  rintro us s1 ⟨zs, H1, I1, r, z1, z2, rfl, q⟩
  refine ⟨I1.kIn, ?_⟩
  rw [hks]
  match us, r with
  | _, .cons (b := u1) r1 (.cons (b := u2) r2 .nil) =>
    exact run_mkG (us := []) (kw := [(k1, u1), (k2, u2)]) (ys := [u2, u1]) (zs := [z2, z1]) M F (hr.mono hk) hgu (fun s2 x hK => b s2 x u1 u2 hK) (fun H2 s2 e s' _ z => hx H2 s2 e s' z) I1 (.cons r2 (.cons r1 .nil)) q
end
/-! ## without a heap -/
/-- a book that is made well -/
def pBk (g : Pl) : Px := ⟨fun ρ k => g.f ρ fun ds ρ1 => ∃ (n : Nat) (d2 : Da) (bs : List (List Int)) (m : Nat), ds = [.int n, d2] ∧ n ≤ 8 ∧ (d2 = lti bs ∨ d2 = .tup (bs.map ti)) ∧ bs.length ≤ 1000 ∧ bs ≠ [] ∧ (∀ b ∈ bs, LotOk n b ∧ b.length = m) ∧ CanEx bs ∧
  ∀ bs' : List (List Int), LexS bs' → (∀ t, t ∈ bs' ↔ t ∈ bs) → k (bkD n bs' m) ρ1,
  fun h => g.mono fun _ _ ⟨n, d2, bs, m, a1, a2, a3, a4, a5, a6, a7, q⟩ => ⟨n, d2, bs, m, a1, a2, a3, a4, a5, a6, a7, fun bs' z1 z2 => h _ _ (q bs' z1 z2)⟩⟩
theorem kn3_of {bs : List (List Int)} {d : Da} (h : d = lti bs ∨ d = .tup (bs.map ti)) (hl : bs.length ≤ 1000) : Kn3 d := by
  have key : ∀ xs : List Da, xs = bs.map ti → xs.length ≤ 1000 ∧ ∀ x ∈ xs, Kn2 x := by
    rintro xs rfl
    refine ⟨by rw [List.length_map]; exact hl, fun x hx => ?_⟩
    obtain ⟨b, _, rfl⟩ := List.mem_map.mp hx
    refine ⟨⟨_, rfl⟩, fun ys e y hy => ?_⟩
    have e' := Da.tup.inj e
    subst e'
    obtain ⟨i, _, rfl⟩ := List.mem_map.mp hy
    exact ⟨_, rfl⟩
  rcases h with rfl | rfl
  · refine ⟨⟨_, rfl⟩, fun xs e => key xs ?_⟩
    rcases e with e | e
    · exact (Da.lst.inj e).symm
    · cases e
  · refine ⟨⟨_, rfl⟩, fun xs e => key xs ?_⟩
    rcases e with e | e
    · cases e
    · exact (Da.tup.inj e).symm
theorem ti_inj {a b : List Int} (h : ti a = ti b) : a = b := by
  have h' := Da.tup.inj h
  have := congrArg (List.map daI) h'
  simpa [List.map_map, Function.comp_def, daI] using this
theorem ts_inj {a b : List (List Int)} (h : a.map ti = b.map ti) : a = b := by
  induction a generalizing b with
  | nil =>
    cases b with
    | nil => rfl
    | cons y b => cases h
  | cons x a ih =>
    cases b with
    | nil => cases h
    | cons y b =>
      rw [List.map_cons, List.map_cons] at h
      injection h with h1 h2
      rw [ti_inj h1, ih h2]
theorem lots_inj {d : Da} {bs bs' : List (List Int)} (h : d = lti bs ∨ d = .tup (bs.map ti)) (h' : d = lti bs' ∨ d = .tup (bs'.map ti)) : bs' = bs := by
  rcases h with rfl | rfl <;> rcases h' with e | e
  · exact (ts_inj (Da.lst.inj e)).symm
  · cases e
  · cases e
  · exact (ts_inj (Da.tup.inj e)).symm
/-- such a book, by the promise -/
theorem bookW_ok {cE : Addr} {G H : Hp} {n : Nat} {d2 : Da} {bs : List (List Int)} {m : Nat} {E : XK} {ok : Nat → List (List Int) → Nat → Prop} (hn : n ≤ 8) (h2 : d2 = lti bs ∨ d2 = .tup (bs.map ti)) (hl : bs.length ≤ 1000) (hne : bs ≠ []) (hb : ∀ b ∈ bs, LotOk n b ∧ b.length = m) (hx : CanEx bs)
    (k : ∀ bs', LexS bs' → (∀ t, t ∈ bs' ↔ t ∈ bs) → ok n bs' m) : BookW cE G H (.int (n : Int)) d2 E ok := by
  refine ⟨⟨_, rfl⟩, fun z => ?_, fun n' hn' e => ?_⟩
  · have : inB (.int (n : Int)) 0 8 = true := by
      show (decide ((0 : Int) ≤ n) && decide ((n : Int) ≤ 8)) = true
      rw [Bool.and_eq_true, decide_eq_true_eq, decide_eq_true_eq]
      omega
    rw [this] at z
    cases z
  · have en : n' = n := by
      have := Da.int.inj e
      omega
    subst en
    refine ⟨kn3_of h2 hl, fun z => (z ⟨bs, h2, hne, m, hb⟩).elim, fun bs1 m1 h3 h4 h5 => ?_⟩
    have e1 := lots_inj h2 h3
    subst e1
    have em : m1 = m := by
      obtain ⟨b, hb0⟩ := List.exists_mem_of_ne_nil _ h4
      exact (h5 b hb0).2.symm.trans (hb b hb0).2
    subst em
    exact ⟨fun z => (z hx).elim, fun _ => k⟩
section
variable {X : Cx} {L : Ly} {k j : Nat} {f cB cE : Addr} {fd : FuncData} {p pos : Pos} {e : Expr}
theorem no_pass {P : Program} {w : World} {l : List Env} {H : Hp} {s : Shared} {e : Value} {s' : Shared} (h : L2.CX P w l H s (fun _ _ _ => False) e s') : False := by
  obtain ⟨_, _, _, _, _, _, _, _, _, _, _, _, z⟩ := h
  exact z
/-- Book(n, lots) -/
theorem w_book {e1 e2 : Expr} {g : Pl} (C : BkC X.K X.mg cB f) (hK : X.K = L.K) (F : FnG X.prog X.w X.K X.mg X.base (L2.CX X.prog X.w) 5 f fd ["self", "size", "bases"] (spBk L cE cB)) (b : Binds X.K fd ["self", "size", "bases"] []) (hr : Room j X.A) (hk : 6 ≤ j) (hgu : X.A.guards = some []) (hg : Gl X "Book") (ha : PA X [e1, e2] (tWA L g))
    (he : starEach [e1, e2] X.env = (false, eval e1 X.env) :: starEach [e2] X.env := by rfl) (hpl : (backTo pos (starEach [e2] X.env)).any (·.1) = false := by rfl) : PE X (.Call (.Name "Book" p) [e1, e2] [] pos) (tW L (pBk g)) :=
  PE.imp (pe_mkG (E := fun _ _ _ _ => False) C.mkd F b hr hk hgu hg C.g (fun _ _ _ _ _ _ _ z => (no_pass z).elim) ha (by decide) he hpl) fun σ H Q ⟨B, G, ρ, r, h⟩ => ⟨B, G, ρ, r, g.mono (by
    rintro ds ρ1 ⟨n, d2, bs, m, rfl, hn, h2, hl, hne, hb, hx, q⟩ vs G1 H1 r1 s1 d1 x dx nx ndx ne
    cases d1 with
    | @cons v1 _ _ _ dv1 t =>
      cases t with
      | @cons v2 _ _ _ dv2 t =>
        cases t
        refine ⟨G1, H1, x, dx, v1, v2, _, d2, rfl, rfl, nx, ndx, ne, r1.gh, dv1, dv2, bookW_ok hn h2 hl hne hb hx fun bs' z1 z2 G' H' gr dv => ⟨rfl, q bs' z1 z2 _ _ _ (r1.go gr) (s1.trans gr.gg) dv⟩⟩) h⟩
end
end Fv
namespace Fv
open PySem PySem.Spec PyProof.Rows L2 Fr Fw Fs
/-! # texts of lists of lots -/
theorem piled_le {c : Nat} : ∀ {ts : List Str}, (∀ t ∈ ts, t.length ≤ c) → piled ts ≤ ts.length * (c + 2)
  | [], _ => by rw [piled_nil]; exact Nat.zero_le _
  | t :: ts, h => by
    have h1 := h t List.mem_cons_self
    have h2 := piled_le (ts := ts) fun u hu => h u (List.mem_cons_of_mem _ hu)
    have e : piled (t :: ts) = t.length + 2 + piled ts := piled_cons t ts
    rw [e, List.length_cons, Nat.succ_mul]
    omega
theorem tupT_le {c : Nat} {ts : List Str} (h : ∀ t ∈ ts, t.length ≤ c) : (tupleText ts).length ≤ ts.length * (c + 2) + 5 := by
  have hp := piled_le h
  have hj : (Str.join ", " ts).length ≤ ts.length * (c + 2) := by
    cases ts with
    | nil =>
      have e : Str.join ", " [] = Str.empty := rfl
      rw [e]
      exact Nat.zero_le _
    | cons t r =>
      have := join_length_add (t :: r) (by simp)
      omega
  have a : ((if ts.length == 1 then ",)" else ")" : String) : Str).length ≤ 2 := by
    split
    · decide +kernel
    · decide +kernel
  have b : (("(" : Str)).length ≤ 1 := by decide +kernel
  unfold tupleText
  rw [Str.length_append, Str.length_append]
  omega
theorem shAll (xs : List PyData) : PyData.shownAll xs = xs.map PyData.shown := by
  induction xs with
  | nil => rfl
  | cons x r ih =>
    show PyData.shown x :: PyData.shownAll r = _
    rw [ih]
    rfl
theorem sh_int {i : Int} (h0 : 0 ≤ i) (h : i < 9) : (PyData.shown (.int i)).length ≤ 1 := by
  have key : ∀ n ∈ List.range 9, (PyData.shown (.int (n : Int))).length ≤ 1 := by decide +kernel
  obtain ⟨n, rfl⟩ := Int.eq_ofNat_of_zero_le h0
  exact key n (List.mem_range.mpr (by omega))
theorem sh_lot {t : List Int} {c : Nat} (hl : t.length ≤ c) (h : ∀ x ∈ t, 0 ≤ x ∧ x < 9) : (PyData.shown (pti t)).length ≤ c * 3 + 5 := by
  have e : PyData.shown (pti t) = tupleText ((t.map PyData.int).map PyData.shown) := by
    show tupleText (PyData.shownAll (t.map PyData.int)) = _
    rw [shAll]
  rw [e]
  refine Nat.le_trans (tupT_le (c := 1) fun u hu => ?_) ?_
  · obtain ⟨d, hd, rfl⟩ := List.mem_map.mp hu
    obtain ⟨i, hi, rfl⟩ := List.mem_map.mp hd
    exact sh_int (h i hi).1 (h i hi).2
  · rw [List.length_map, List.length_map]
    omega
def ptl (ts : List (List Int)) : PyData := .tuple (ts.map pti)
theorem sh_lots {ts : List (List Int)} {n : Nat} (hl : ts.length ≤ 1000) (h : ∀ t ∈ ts, t.length ≤ 8 ∧ ∀ x ∈ t, 0 ≤ x ∧ x < 9) : (PyData.shown (ptl ts)).length ≤ sizeLine := by
  have e : PyData.shown (ptl ts) = tupleText ((ts.map pti).map PyData.shown) := by
    show tupleText (PyData.shownAll (ts.map pti)) = _
    rw [shAll]
  rw [e]
  refine Nat.le_trans (tupT_le (c := 29) fun u hu => ?_) ?_
  · obtain ⟨d, hd, rfl⟩ := List.mem_map.mp hu
    obtain ⟨t, ht, rfl⟩ := List.mem_map.mp hd
    exact sh_lot (c := 8) (h t ht).1 (h t ht).2
  · rw [List.length_map, List.length_map, sizeLine_eq]
    omega
theorem shw_int {i : Int} (h0 : 0 ≤ i) (h : i < 9) : PyData.showable (.int i) = true := by
  have key : ∀ n ∈ List.range 9, PyData.showable (.int (n : Int)) = true := by decide +kernel
  obtain ⟨n, rfl⟩ := Int.eq_ofNat_of_zero_le h0
  exact key n (List.mem_range.mpr (by omega))
theorem shwAll {xs : List PyData} (h : ∀ x ∈ xs, PyData.showable x = true) : PyData.showableAll xs = true := by
  induction xs with
  | nil => rfl
  | cons x r ih =>
    show (PyData.showable x && PyData.showableAll r) = true
    rw [h x List.mem_cons_self, ih fun y hy => h y (List.mem_cons_of_mem _ hy)]
    rfl
theorem noDictAll {xs : List PyData} (h : ∀ x ∈ xs, PyData.hasDict x = false) : PyData.hasDictAll xs = false := by
  induction xs with
  | nil => rfl
  | cons x r ih =>
    show (PyData.hasDict x || PyData.hasDictAll r) = false
    rw [h x List.mem_cons_self, ih fun y hy => h y (List.mem_cons_of_mem _ hy)]
    rfl
theorem ptl_ok {ts : List (List Int)} (h : ∀ t ∈ ts, ∀ x ∈ t, 0 ≤ x ∧ x < 9) : PyData.showable (ptl ts) = true ∧ PyData.hasDict (ptl ts) = false := by
  constructor
  · show PyData.showableAll (ts.map pti) = true
    refine shwAll fun d hd => ?_
    obtain ⟨t, ht, rfl⟩ := List.mem_map.mp hd
    show PyData.showableAll (t.map PyData.int) = true
    refine shwAll fun e he => ?_
    obtain ⟨i, hi, rfl⟩ := List.mem_map.mp he
    exact shw_int (h t ht i hi).1 (h t ht i hi).2
  · show PyData.hasDictAll (ts.map pti) = false
    refine noDictAll fun d hd => ?_
    obtain ⟨t, ht, rfl⟩ := List.mem_map.mp hd
    show PyData.hasDictAll (t.map PyData.int) = false
    refine noDictAll fun e he => ?_
    obtain ⟨i, hi, rfl⟩ := List.mem_map.mp he
    rfl
def unti : Da → List Int
  | .tup xs => xs.map daI
  | _ => []
theorem unti_ti (t : List Int) : unti (ti t) = t := by
  show (t.map Da.int).map daI = t
  rw [List.map_map]
  exact List.map_id' t
theorem perm_tis {es : List Da} {bs : List (List Int)} (h : es.Perm (bs.map ti)) : ∃ bs2 : List (List Int), es = bs2.map ti ∧ bs2.Perm bs := by
  refine ⟨es.map unti, ?_, ?_⟩
  · rw [List.map_map]
    have : ∀ e ∈ es, (ti ∘ unti) e = e := fun e he => by
      obtain ⟨b, _, rfl⟩ := List.mem_map.mp (h.mem_iff.mp he)
      show ti (unti (ti b)) = ti b
      rw [unti_ti]
    exact (List.map_congr_left this |>.trans (List.map_id' es)).symm
  · have z := h.map unti
    rw [List.map_map] at z
    have e : bs.map (unti ∘ ti) = bs := (List.map_congr_left fun b _ => unti_ti b).trans (List.map_id' bs)
    rwa [e] at z
/-! ### _law_made -/
theorem sk_lots {n m : Nat} {bs : List (List Int)} (S : Sk n m bs) : ∀ b ∈ bs, LotOk n b ∧ b.length = m := fun b hb => by
  obtain ⟨h1, h2, h3⟩ := mem_lots.mp (S.mem b hb)
  refine ⟨⟨h1, fun x hx => ?_⟩, h2⟩
  obtain ⟨i, hi, rfl⟩ := List.mem_map.mp (h3 x hx)
  have := List.mem_range.mp hi
  omega
section
variable {P : Program} {w : World} {L : Ly} {mg : Str → Option Value} {base : Heap} {f : Addr} {fd : FuncData} {cB cE fI : Addr} {fdI : FuncData}
abbrev s_law_made : Stmt := topS 57
theorem sc_law_made : FnScope ["draw", "sketch", "some"] ["draw", "sketch"] (C8.fnScope s_law_made) := C8.fnScope_by (by decide +kernel)
def fMade : Pf := ⟨fun xs k => ∃ (n m : Nat) (bs : List (List Int)), xs = [skD n bs] ∧ Sk n m bs ∧ k (bkD n bs m), fun h ⟨n, m, bs, e, s, q⟩ => ⟨n, m, bs, e, s, h _ q⟩⟩
theorem ok_law_made (Fd : C8.Def L.K mg "_law_made" s_law_made f fd) (b : Binds L.K fd ["draw", "sketch"] []) (B : Bw mg) (C : BkC L.K mg cB fI) (FI : FnG P w L.K mg base (L2.CX P w) 5 fI fdI ["self", "size", "bases"] (spBk L cE cB)) (bI : Binds L.K fdI ["self", "size", "bases"] [])
    (c_law_take : CalG P w L.K mg base C8.CX0 2 "_law_take" (spD L fTake)) (c_law_shuffled : CalG P w L.K mg base C8.CX0 3 "_law_shuffled" (spD L fShuf)) : CalG P w L.K mg base C8.CX0 7 "_law_made" (spD L fMade) := by
  have sc := sc_law_made
  refine calD (n := 1) Fd b sc ?_ (fun v vs h => ?_) fun cdv A outer s H E hr hgu => ?_
  · rintro ds k ⟨n, m, bs, rfl, _⟩
    rfl
  · rw [start_eq (n := 1) (by show 3 = (vs.length + 1) + 1; rw [h]; rfl)]
    rfl
  refine ⟨_, w_seq (w_set (ps_set (i := 2) sc.nd rfl (by first | exact Or.inl rfl | exact Or.inr rfl) (w_callD c_law_shuffled hr (by decide) hgu rfl (pv 0) (w_cons (w_ix ix_tup snd_ixT (w_v (pv 1)) (w_int (kd := 0) pe_int) (fun _ _ => rfl)) w_nil))))
  (w_one (w_ret (ps_ret (w_book C rfl FI bI hr (by decide) hgu rfl (w_cons (w_ix ix_tup snd_ixT (w_v (pv 1)) (w_int (kd := 0) pe_int) (fun _ _ => rfl)) (w_cons (w_ifExp (w_cmpT (op_eqD hr.units) snd_eq (w_callD c_law_take hr (by decide) hgu rfl (pv 0) (w_cons (w_int (kd := 0) pe_int) w_nil)) (w_int (kd := 0) pe_int) (nomark _))
    (w_tCB snd_tupOf (pe_callTy call_tuple_of (by rfl) B.tuple (by decide +kernel) (w_cons (w_v (pv 2)) w_nil))) (w_v (pv 2))) w_nil)))))), ?_⟩
  rintro d l c ds kk ⟨n, m, bs, rfl, S, k⟩
  have hd : ∀ ρ : En, some (Sl.drw d l c) ∈ some (Sl.drw d l c) :: ρ := fun _ => List.mem_cons_self
  refine ⟨d, l, c, rfl, _, rfl, [.int n, lti bs], (1 : Int), lti bs, rfl, rfl, Fw.atI_nat (j := 1) rfl, hd _, bs.map ti, rfl, ?_, ?_, fun es pm => ?_⟩
  · rw [List.length_map]
    exact Nat.le_trans (sk_len S) (by decide)
  · exact shp_lti bs
  obtain ⟨bs2, rfl, pm2⟩ : ∃ bs2 : List (List Int), es = bs2.map ti ∧ bs2.Perm bs := by
    exact perm_tis pm
  have hx := sk_lots S
  have fin : ∀ d2 : Da, (d2 = lti bs2 ∨ d2 = .tup (bs2.map ti)) → ∃ (n' : Nat) (d2' : Da) (bs' : List (List Int)) (m' : Nat), [Da.int n, d2] = [.int (n' : Int), d2'] ∧ n' ≤ 8 ∧ (d2' = lti bs' ∨ d2' = .tup (bs'.map ti)) ∧ bs'.length ≤ 1000 ∧ bs' ≠ [] ∧ (∀ b ∈ bs', LotOk n' b ∧ b.length = m') ∧ CanEx bs' ∧
      ∀ bs'' : List (List Int), LexS bs'' → (∀ t, t ∈ bs'' ↔ t ∈ bs') → kk (bkD n' bs'' m') := by
    intro d2 h2
    refine ⟨n, d2, bs2, m, rfl, S.n8, h2, ?_, fun z => ?_, fun b hb => hx b (pm2.mem_iff.mp hb), ?_, fun bs'' z1 z2 => ?_⟩
    · rw [pm2.length_eq]
      exact Nat.le_trans (sk_len S) (by decide)
    · rw [z] at pm2
      exact S.ne pm2.nil_eq.symm
    · intro one h1 other h2 item h3
      obtain ⟨t, t1, t2⟩ := S.ex one (pm2.mem_iff.mp h1) other (pm2.mem_iff.mp h2) item h3
      exact ⟨t, t1, pm2.mem_iff.mpr t2⟩
    · have e : bs'' = bs := lexS_ext z1 S.srt fun x => (z2 x).trans pm2.mem_iff
      rw [e]
      exact k
  refine ⟨_, rfl, [.int n, lti bs], (0 : Int), .int n, rfl, rfl, Fw.atI_nat (j := 0) rfl, d, l, c, rfl, hd _, 2, rfl, by decide, by decide +kernel, fun r r0 r1 => ?_⟩
  refine ⟨_, _, rfl, rfl, rfl, rfl, _, rfl, bite (fun h0 => ?_) fun h0 => ?_⟩
  · refine ⟨_, rfl, _, .inl rfl, ?_⟩
    obtain ⟨n', d2', bs', m', e, q1, q2, q3, q4, q5, q6, q7⟩ := fin (.tup (bs2.map ti)) (.inr rfl)
    exact ⟨n', d2', bs', m', e, q1, q2, q3, q4, q5, q6, fun bs'' z1 z2 => ⟨hd _, q7 bs'' z1 z2⟩⟩
  · refine ⟨_, rfl, ?_⟩
    obtain ⟨n', d2', bs', m', e, q1, q2, q3, q4, q5, q6, q7⟩ := fin (lti bs2) (.inl rfl)
    exact ⟨n', d2', bs', m', e, q1, q2, q3, q4, q5, q6, fun bs'' z1 z2 => ⟨hd _, q7 bs'' z1 z2⟩⟩
end
end Fv
namespace Fv
open PySem PySem.Spec PyProof.Rows L2 Fr Fw Fs
/-! # fields, isinstance of books, repr -/
/-- what isinstance asks of the class of books -/
structure BkT (K : Frag) (cB : Addr) : Prop where
  ha : PySem.W.findIn K (.ref cB) "__class__" = some (some (.builtin "object.__class__"))
  hn : PySem.W.specialIn K (.builtin "object.__class__") "__get__" = some (some (.builtin "getset_descriptor.__get__"))
  ht : PySem.W.takesIn K (.builtin "object.__class__") = some true
  hm : PySem.W.mroIn K cB (.type "object") = some true
  tup : PySem.W.kitOne K (.type "tuple") (.ref cB) = some false
section
variable {X : Cx} {L : Ly} {cB cE : Addr} {e : Expr}
def isBk (d : Da) (b : Bool) : Prop := (∃ xs, d = .obj 1 xs ∧ b = true) ∨ (∃ xs, d = .tup xs ∧ b = false)
theorem isA_book (LB : LyB L cB cE) (Cl : Cls L.K cB) (T : BkT L.K cB) : IsA L (.ref cB) isBk := by
  intro G v d b h dv
  rcases h with ⟨xs, rfl, rfl⟩ | ⟨xs, rfl, rfl⟩
  · cases dv with
    | obj o t =>
      obtain ⟨a, dx, v1, v2, v3, rfl, h1, h2, rfl⟩ := LB.book.mp o
      refine ⟨.ref cB, .base (.ins h1 Cl T.ha T.hn T.ht T.hm), ?_⟩
      unfold PySem.W.kitOne
      rw [if_pos (beq_self_eq_true _)]
  · exact ⟨.type "tuple", dv_ty LB.k dv rfl, T.tup⟩
def pFl (j : Nat) (g : Px) : Px := ⟨fun ρ k => g.f ρ fun d ρ1 => ∃ xs z, d = .obj 1 xs ∧ xs[j]? = some z ∧ k z ρ1, fun h => g.mono fun _ _ ⟨xs, z, a, b, q⟩ => ⟨xs, z, a, b, h _ _ q⟩⟩
theorem w_fld (LB : LyB L cB cE) (Cl : Cls L.K cB) {f : Str} {j : Nat} {g : Px} (na : NoAttr L.K cB f) (hf : ∀ (v1 v2 v3 v : V), ([v1, v2, v3] : List V)[j]? = some v → (bkF v1 v2 v3).lookup f = some v) (p : PE X e (tFld L.K (tW L g) f)) : PE X e (tW L (pFl j g)) :=
  PE.imp p fun σ H Q ⟨B, G, ρ, r, h⟩ => ⟨B, G, ρ, r, g.mono (fun d ρ1 ⟨xs, z, hd, hz, h1⟩ v G1 H1 r1 s1 d1 => by
    subst hd
    cases d1 with
    | obj o t =>
      obtain ⟨a, dx, v1, v2, v3, rfl, q1, q2, rfl⟩ := LB.book.mp o
      obtain ⟨u, hu, du⟩ := dvs_at t hz
      exact ⟨a, cB, dx, _, u, rfl, r1.gh _ _ q1, Cl, na, hf v1 v2 v3 u hu, h1 u _ _ r1 s1 du⟩) h⟩
theorem lk_size (v1 v2 v3 v : V) (h : ([v1, v2, v3] : List V)[0]? = some v) : (bkF v1 v2 v3).lookup ("size" : Str) = some v := by
  unfold bkF
  simp only [List.lookup, beq_self_eq_true]
  simpa using h
theorem lk_bases (v1 v2 v3 v : V) (h : ([v1, v2, v3] : List V)[1]? = some v) : (bkF v1 v2 v3).lookup ("bases" : Str) = some v := by
  have n1 : (("bases" : Str) == ("size" : Str)) = false := by decide
  unfold bkF
  simp only [List.lookup, beq_self_eq_true, n1]
  simpa using h
theorem lk_rank (v1 v2 v3 v : V) (h : ([v1, v2, v3] : List V)[2]? = some v) : (bkF v1 v2 v3).lookup ("rank" : Str) = some v := by
  have n1 : (("rank" : Str) == ("size" : Str)) = false := by decide
  have n2 : (("rank" : Str) == ("bases" : Str)) = false := by decide
  unfold bkF
  simp only [List.lookup, beq_self_eq_true, n1, n2]
  simpa using h
def rEqS : R2p := ⟨fun x y k => ∃ i j, x = .str i ∧ y = .str j ∧ k (.bl (decide (i = j))), fun h ⟨i, j, a, b, q⟩ => ⟨i, j, a, b, h _ q⟩⟩
def rNeS : R2p := ⟨fun x y k => ∃ i j, x = .str i ∧ y = .str j ∧ k (.bl (!decide (i = j))), fun h ⟨i, j, a, b, q⟩ => ⟨i, j, a, b, h _ q⟩⟩
theorem dec_strV (i j : Str) : decide (V.str i = V.str j) = decide (i = j) := by
  by_cases h : i = j
  · subst h; simp
  · rw [decide_eq_false h, decide_eq_false fun z => h (V.str.inj z)]
theorem snd_eqS : Snd2 L rEq rEqS := by
  rintro B G H σ ρ v u x y Q r d1 d2 ⟨i, j, rfl, rfl, k⟩
  cases d1
  cases d2
  refine ⟨rfl, ?_⟩
  rw [dec_strV]
  exact k _ G H r (Same.refl _) (.bl _)
theorem snd_neS : Snd2 L rNe rNeS := by
  rintro B G H σ ρ v u x y Q r d1 d2 ⟨i, j, rfl, rfl, k⟩
  cases d1
  cases d2
  refine ⟨rfl, ?_⟩
  rw [dec_strV]
  exact k _ G H r (Same.refl _) (.bl _)
def rReprI : R1p := ⟨fun xs k => ∃ i : Int, xs = [.int i] ∧ i.natAbs.log2 < 1920 ∧ k (.str (toString i)), fun h ⟨i, a, b, q⟩ => ⟨i, a, b, h _ q⟩⟩
theorem snd_reprI : Snd1 L (fun xs H Q => ∃ i, xs = [.int i] ∧ i.natAbs.log2 < 1920 ∧ Q (.str (toString i)) H) rReprI := by
  rintro B G H σ ρ vs xs Q r dv ⟨i, rfl, hi, k⟩
  cases dv with
  | cons d t =>
    cases t
    cases d
    exact ⟨i, rfl, hi, k _ G H r (Same.refl _) (.str _)⟩
def rReprT : R1p := ⟨fun xs k => ∃ ts : List (List Int), xs = [.tup (ts.map ti)] ∧ ts.length ≤ 1000 ∧ (∀ t ∈ ts, t.length ≤ 8 ∧ ∀ x ∈ t, 0 ≤ x ∧ x < 9) ∧ k (.str (ptl ts).shown), fun h ⟨ts, a, b, c, q⟩ => ⟨ts, a, b, c, h _ q⟩⟩
theorem dep_all {c : Nat} : ∀ {xs : List PyData}, (∀ x ∈ xs, x.depth ≤ c) → PyData.depthAll xs ≤ c
  | [], _ => by
    simp only [PyData.depthAll]
    exact Nat.zero_le _
  | x :: xs, h => by
    have h1 := h x List.mem_cons_self
    have h2 := dep_all (xs := xs) fun y hy => h y (List.mem_cons_of_mem _ hy)
    simp only [PyData.depthAll]
    omega
theorem dep_lots (ts : List (List Int)) : (ptl ts).depth ≤ 60 := by
  have h1 : PyData.depthAll (ts.map pti) ≤ 1 := dep_all fun d hd => by
    obtain ⟨t, _, rfl⟩ := List.mem_map.mp hd
    have h2 : PyData.depthAll (t.map PyData.int) ≤ 0 := dep_all fun e he => by
      obtain ⟨i, _, rfl⟩ := List.mem_map.mp he
      simp only [PyData.depth]
      exact Nat.le_refl _
    have e : (pti t).depth = PyData.depthAll (t.map PyData.int) + 1 := by
      unfold pti
      simp only [PyData.depth]
    omega
  have e : (ptl ts).depth = PyData.depthAll (ts.map pti) + 1 := by
    unfold ptl
    simp only [PyData.depth]
  omega
theorem snd_reprT : Snd1 L (rRepr L.K) rReprT := by
  rintro B G H σ ρ vs xs Q r dv ⟨ts, rfl, hl, hb, k⟩
  cases dv with
  | cons d t =>
    cases t
    obtain ⟨a, ys, rfl, hs, ha⟩ := dv_tup d
    have dp : Dp L.K H (.ref a) (ptl ts) := dp_same r.gh (py_dp d (by
      show py (.tup (ts.map ti)) = some (.tuple (ts.map pti))
      simp only [py, pys_tis]
      rfl))
    obtain ⟨s1, s2⟩ := ptl_ok (ts := ts) fun t ht => (hb t ht).2
    exact ⟨a, ptl ts, rfl, dp, s1, s2, dep_lots ts, sh_lots (n := 0) hl hb, k _ G H r (Same.refl _) (.str _)⟩
end
section
variable {P : Program} {w : World} {L : Ly} {mg : Str → Option Value} {base : Heap} {f : Addr} {fd : FuncData} {cB cE fI : Addr}
def fIsSk : Pf := ⟨fun xs k => ∃ (n m : Nat) (bs : List (List Int)), xs = [bkD n bs m, skD n bs] ∧ Sk n m bs ∧ k (.bl true), fun h ⟨n, m, bs, e, s, q⟩ => ⟨n, m, bs, e, s, h _ q⟩⟩
end
end Fv
namespace Fv
open PySem PySem.Spec PyProof.Rows L2 Fr Fw Fs
/-! # what a book's making lets out, caught -/
def badD (x : Str) : Da := .obj 2 [.str x]
/-- caught, of Book(d1, d2) -/
def CaW (d1 d2 : Da) (k : Da → Prop) : Prop := Kn d1 ∧ (inB d1 0 8 = false → k (badD "size")) ∧ ∀ n : Nat, n ≤ 8 → d1 = .int n → Kn3 d2 ∧ (¬ LotsP n d2 → k (badD "bases")) ∧
  ∀ (bs : List (List Int)) (m : Nat), (d2 = lti bs ∨ d2 = .tup (bs.map ti)) → bs ≠ [] → (∀ b ∈ bs, LotOk n b ∧ b.length = m) → (¬ CanEx bs → k (badD "exchange")) ∧ (CanEx bs → k .non)
theorem CaW.mono {d1 d2 : Da} {k k' : Da → Prop} (h : ∀ d, k d → k' d) : CaW d1 d2 k → CaW d1 d2 k' := fun ⟨a, b, c⟩ => ⟨a, fun z => h _ (b z), fun n hn e => by
  obtain ⟨c1, c2, c3⟩ := c n hn e
  exact ⟨c1, fun z => h _ (c2 z), fun bs m x1 x2 x3 => ⟨fun z => h _ ((c3 bs m x1 x2 x3).1 z), fun z => h _ ((c3 bs m x1 x2 x3).2 z)⟩⟩⟩
def fCa (d1 d2 : Da) : Pf := ⟨fun xs k => xs = [lamD] ∧ CaW d1 d2 k, fun h ⟨a, b⟩ => ⟨a, b.mono h⟩⟩
/-- the lambda's own promise -/
def spLam (L : Ly) (cE : Addr) (G0 : Hp) (d1 d2 : Da) : L2.Sp := fun vs H Q E => vs = [] ∧ ∃ G, Same G0 G ∧ Same G H ∧ BookW cE G H d1 d2 E fun n bs m => ∀ x G' H', Grow M0 G H G' H' → Dv L G' (.ref x) (bkD n bs m) → Q (.ref x) H'
section
variable {P : Program} {w : World} {L : Ly} {mg : Str → Option Value} {base : Heap} {f g : Addr} {fd : FuncData} {cB cE cF : Addr} {G0 : Hp} {d1 d2 : Da}
abbrev s_law_caught : Stmt := topS 39
theorem sc_law_caught : FnScope ["work", "caught", "error"] ["work"] (C8.fnScope s_law_caught) := C8.fnScope_by (by decide +kernel)
theorem ok_law_caught {kl : Nat} (LB : LyB L cB cE) (Fd : C8.Def L.K mg "_law_caught" s_law_caught g fd) (b : Binds L.K fd ["work"] []) (gF : mg "FlatError" = some (.ref cF)) (eF : PySem.W.exmOne L.K (.ref cE) (.ref cF) = some true)
    (cl : LamG P w L.K mg base (L2.CX P w) kl f (spLam L cE G0 d1 d2)) : CalG P w L.K mg base C8.CX0 (kl + 1) "_law_caught" (spF (L.lam f G0) (fCa d1 d2)) := by
  have sc := sc_law_caught
  refine calGc Fd b sc ?_ ?_
  · rintro vs H Q E ⟨G, ds, _, dv, rfl, _⟩
    exact dvs_len dv
  · rintro cdv A outer s H vs Q E hcd hr hgu ⟨G, ds, sG, dv, rfl, hW⟩
    obtain ⟨v, rfl, hv⟩ : ∃ v, vs = [v] ∧ Dv (L.lam f G0) G v lamD := by
      cases dv with
      | cons d t =>
        cases t
        exact ⟨_, rfl, d⟩
    obtain ⟨rfl, s0⟩ := dv_lam hv
    refine ⟨_, pss_cons (ps_set (i := 1) sc.nd rfl (by first | exact Or.inl rfl | exact Or.inr rfl) pe_non)
      (pss_cons (ps_try_keep (i := 2) (Wout := fun _ _ _ _ => False) rfl rfl rfl sc.nd rfl rfl ⟨rfl, by decide, .inl gF⟩ (fun _ _ ⟨_, _, _, _, _, _, _, _, _, _, _, _, _, _, _, _, z⟩ => z.elim)
        (fun W pn xe tk _ => pss_one (ps_expr (pe_vS (i := 0) cl hr (Nat.le_refl _) hgu rfl (Or.inl rfl) (fun σ => passAt tk σ))))
        (fun a oe cls d pn _ _ => pss_one (ps_set (i := 1) sc.nd rfl (by first | exact Or.inl rfl | exact Or.inr rfl) (pv 2))))
      (pss_one (ps_ret (pv 1)))), ?_⟩
    obtain ⟨h1, h2, h3⟩ := hW
    have bad : ∀ (p : Str), (∀ v' G' H', Grow M0 G H G' H' → Dv (L.lam f G0) G' v' (badD p) → Q v' H') → ∀ (dx : Addr) (G' H' : Hp), Grow M0 G H G' H' → G' dx = some (.xd [("part", .str p)]) → ∀ a, H' a = none → Q (.ref a) (upd H' a (exv a cE (some dx))) := by
      intro p k dx G' H' gr hx a na
      have ne : dx ≠ a := fun z => by
        have := gr.gh _ _ hx
        rw [z, na] at this
        cases this
      exact k _ (upd G' a (exv a cE (some dx))) _ (gr.trans (Grow.lay gr.gh na)) (.obj (.inr ⟨by decide, LB.bad.mpr ⟨a, dx, .str p, rfl, upd_same, by rw [upd_ne ne]; exact hx, rfl⟩⟩) (.cons (.str p) .nil))
    refine ⟨rfl, rfl, G, s0, sG, h1, fun z dx G' H' gr hx => ?_, fun n hn e => ?_⟩
    · exact ⟨true, eF, fun _ => ⟨cE, rfl, fun a na => ⟨.ref a, rfl, .ref a, rfl, bad "size" (h2 z) dx G' H' gr hx a na⟩⟩, fun q => by cases q⟩
    · obtain ⟨c1, c2, c3⟩ := h3 n hn e
      refine ⟨c1, fun z dx G' H' gr hx => ?_, fun bs m x1 x2 x3 => ⟨fun z dx G' H' gr hx => ?_, fun z bs' _ _ x G' H' gr dv => ⟨.non, rfl, (c3 bs m x1 x2 x3).2 z .non G' H' gr .non⟩⟩⟩
      · exact ⟨true, eF, fun _ => ⟨cE, rfl, fun a na => ⟨.ref a, rfl, .ref a, rfl, bad "bases" (c2 z) dx G' H' gr hx a na⟩⟩, fun q => by cases q⟩
      · exact ⟨true, eF, fun _ => ⟨cE, rfl, fun a na => ⟨.ref a, rfl, .ref a, rfl, bad "exchange" ((c3 bs m x1 x2 x3).1 z) dx G' H' gr hx a na⟩⟩, fun q => by cases q⟩
/-! ## lambda: Book(e1, e2) -/
theorem lam_book {fI c : Addr} {fdI : FuncData} {N cs : List Str} {qual : Str} {params : Arguments} {scope : Scope} {cl : List (Str × Addr)} {ws : List V} {cds : List Da} {n : Nat} {e1 e2 : Expr} {p pos : Pos} {gg : Pl} (C : BkC L.K mg cB fI)
    (FI : FnG P w L.K mg base (L2.CX P w) 5 fI fdI ["self", "size", "bases"] (spBk L cE cB)) (bI : Binds L.K fdI ["self", "size", "bases"] []) (LN : LamN N [] cs scope) (at_ : LamAt base G0 f c qual params (.Call (.Name "Book" p) [e1, e2] [] pos) scope cl cs ws) (hcd : DvAll L G0 ws cds)
    (hbind : ∀ (pm ctv : Value), bindArgs (PySem.W.kla_fn "<lambda>" qual params (.Call (.Name "Book" p) [e1, e2] [] pos) scope cl pm (.ref c) ctv) ⟨[], []⟩ = pure []) (hN : N.length = cs.length + n)
    (hpa : ∀ (A : Around) (outer : List Env) (s : Shared) (H : Hp) (E : XK), Gl (lamCx (L2.CX P w) P w L.K mg base N qual scope cl f c A outer s H E) "Book" ∧ PA (lamCx (L2.CX P w) P w L.K mg base N qual scope cl f c A outer s H E) [e1, e2] (tWA L gg) ∧
      starEach [e1, e2] (lamCx (L2.CX P w) P w L.K mg base N qual scope cl f c A outer s H E).env = (false, eval e1 (lamCx (L2.CX P w) P w L.K mg base N qual scope cl f c A outer s H E).env) :: starEach [e2] (lamCx (L2.CX P w) P w L.K mg base N qual scope cl f c A outer s H E).env ∧
      (backTo pos (starEach [e2] (lamCx (L2.CX P w) P w L.K mg base N qual scope cl f c A outer s H E).env)).any (·.1) = false)
    (hgr : ∀ k : List Da → En → Prop, (∀ ρ, k [d1, d2] ρ) → gg.f (ent cds n) k) : LamG P w L.K mg base (L2.CX P w) 7 f (spLam L cE G0 d1 d2) := by
  obtain ⟨⟨pm, ctv, ho⟩, Cp, hcode⟩ := at_
  refine ⟨⟨_, _, _, _, ho⟩, ?_⟩
  rintro A outer s H us vs Q E hr hgu e0 rv ⟨rfl, G, s0, sG, hW⟩
  cases rv
  refine run_lam (us := []) (vs := []) (ps := []) LN Cp ho (hbind pm ctv) hr e0 rfl .nil (sG _ _ (s0 _ _ hcode)) fun hr2 => ?_
  obtain ⟨hgl, hp, he, hpl⟩ := hpa A outer s H E
  have tk := takes_of (X := lamCx (L2.CX P w) P w L.K mg base N qual scope cl f c A outer s H E) (E := E) rfl rfl rfl rfl
  refine ⟨_, pe_mkG C.mkd FI bI hr2 (by decide) hgu hgl C.g (fun σ => passAt tk σ) hp (by decide) he hpl, ?_⟩
  have hst : L2.start N (([] : List V) ++ ws) = ws.map some ++ List.replicate n none := by
    unfold L2.start
    rw [List.nil_append, hN, Cp.len, Nat.add_sub_cancel_left]
  rw [hst]
  refine ⟨⟨M0, G, H, [], []⟩, G, ent cds n, rep_ent sG (dvs_same s0 hcd), hgr _ fun ρ vs G1 H1 r1 s1 dv x dx nx ndx ne => ?_⟩
  cases dv with
  | @cons v1 _ _ _ dv1 t =>
    cases t with
    | @cons v2 _ _ _ dv2 t =>
      cases t
      obtain ⟨h1, h2, h3⟩ := hW
      have gr1 : Grow M0 G H G1 H1 := r1.gr
      have out : ∀ p, OutB G H cE p E → OutB G1 H1 cE p E := fun p o dx G' H' gr hx => o dx G' H' (gr1.trans gr) hx
      refine ⟨G1, H1, x, dx, v1, v2, d1, d2, rfl, rfl, nx, ndx, ne, r1.gh, dv1, dv2, h1, fun z => out _ (h2 z), fun n' hn e => ?_⟩
      obtain ⟨c1, c2, c3⟩ := h3 n' hn e
      exact ⟨c1, fun z => out _ (c2 z), fun bs m x1 x2 x3 => ⟨fun z => out _ ((c3 bs m x1 x2 x3).1 z), fun z bs' y1 y2 G' H' gr dv => ⟨rfl, (c3 bs m x1 x2 x3).2 z bs' y1 y2 x G' H' (gr1.trans gr) dv⟩⟩⟩
end
end Fv
namespace Fv
open PySem PySem.Spec PyProof.Rows L2 Fr Fw Fs
/-! # caught errors as values -/
section
variable {X : Cx} {L : Ly} {cB cE : Addr} {e : Expr}
def rIsB (K : Frag) : List V → Hp → VK → Prop := fun xs H Q => rIsi K xs H Q ∨ rIsX K xs H Q
theorem call_isB : CallR X (.builtin "isinstance") (rIsB X.K) := by
  intro pins s σ H xs us Q I r h
  rcases h with h | h
  · exact call_isi pins s σ H xs us Q I r h
  · exact call_isX pins s σ H xs us Q I r h
def isBad (d : Da) (b : Bool) : Prop := (d = .non ∧ b = false) ∨ (∃ x, d = badD x ∧ b = true)
theorem w_isB (LB : LyB L cB cE) (xc : ExcC L.K cE) (kN : PySem.W.kitOne L.K (.type "NoneType") (.ref cE) = some false) {g : Px} (p : PE X e (tCB (rIsB L.K) (tCons (tW L g) (tCons (tC (.ref cE)) tNil)))) : PE X e (tW L (pIsi isBad g)) :=
  PE.imp p fun σ H Q ⟨B, G, ρ, r, h⟩ => ⟨B, G, ρ, r, g.mono (fun d ρ1 ⟨b, ha, h1⟩ v G1 H1 r1 s1 d1 => by
    rcases ha with ⟨rfl, rfl⟩ | ⟨x, rfl, rfl⟩
    · cases d1
      exact .inl ⟨.non, .ref cE, .type "NoneType", .ref cE, false, rfl, .own cE, .base .non, kN, h1 _ _ _ r1 s1 (.bl false)⟩
    · cases d1 with
      | obj o t =>
        obtain ⟨a, dd, p, rfl, q1, q2, _⟩ := LB.bad.mp o
        refine .inr ⟨a, cE, some dd, .ref cE, .ref cE, true, rfl, .inl (r1.gh _ _ q1), fun d' z => ?_, xc, fun u ru => ru, ?_, h1 _ _ _ r1 s1 (.bl true)⟩
        · cases z
          exact ⟨_, .inl (r1.gh _ _ q2)⟩
        · unfold PySem.W.kitOne
          rw [if_pos (beq_self_eq_true _)]) h⟩
def pPt (g : Px) : Px := ⟨fun ρ k => g.f ρ fun d ρ1 => ∃ x, d = badD x ∧ k (.str x) ρ1, fun h => g.mono fun _ _ ⟨x, a, q⟩ => ⟨x, a, h _ _ q⟩⟩
theorem w_part (LB : LyB L cB cE) (xf : XfC L.K cE) (no : PySem.W.findIn L.K (.ref cE) "part" = some none) {g : Px} (p : PE X e (tXv L.K "part" (tW L g))) : PE X e (tW L (pPt g)) :=
  PE.imp p fun σ H Q ⟨B, G, ρ, r, h⟩ => ⟨B, G, ρ, r, g.mono (fun d ρ1 ⟨x, hd, h1⟩ v G1 H1 r1 s1 d1 => by
    subst hd
    cases d1 with
    | obj o t =>
      obtain ⟨a, dd, p, rfl, q1, q2, rfl⟩ := LB.bad.mp o
      cases t with
      | cons dp t =>
        refine ⟨a, cE, dd, _, p, rfl, .inl (r1.gh _ _ q1), .inl (r1.gh _ _ q2), xf, no, ?_, h1 _ _ _ r1 s1 dp⟩
        simp only [List.lookup, beq_self_eq_true]) h⟩
theorem w_dict0 (LB : LyB L cB cE) (p : PE X e tDNewK) : PE X e (tW L (pC (.obj 0 []))) := PE.imp p fun σ H Q ⟨B, G, ρ, r, h⟩ q hq =>
  h _ _ _ (r.lay hq) (same_upd (r.gh.free hq)) (.obj (LB.k.emp.mpr ⟨q, [], rfl, upd_same, rfl⟩) .nil)
end
/-! ## which values make no book -/
def lenD : Da → Nat
  | .tup xs => xs.length
  | _ => 0
def chkB (n : Int) (xs : List Da) : Bool := !xs.isEmpty && xs.all (lotB n) && xs.all fun x => lenD x == lenD (xs.headD .non)
def lotsB (n : Int) : Da → Bool
  | .lst xs => chkB n xs
  | .tup xs => chkB n xs
  | _ => false
theorem lotsP_B {n : Int} {d : Da} (h : LotsP n d) : lotsB n d = true := by
  obtain ⟨bs, hd, hne, m, hm⟩ := h
  have key : chkB n (bs.map ti) = true := by
    unfold chkB
    rw [Bool.and_eq_true, Bool.and_eq_true]
    refine ⟨⟨?_, ?_⟩, ?_⟩
    · cases bs with
      | nil => exact absurd rfl hne
      | cons b r => rfl
    · rw [List.all_map, List.all_eq_true]
      exact fun b hb => lotB_iff.mpr ⟨b, rfl, (hm b hb).1⟩
    · cases bs with
      | nil => exact absurd rfl hne
      | cons b0 r =>
        rw [List.all_map, List.all_eq_true]
        intro b hb
        have h1 : lenD (ti b) = b.length := List.length_map _
        have h2 : lenD (ti b0) = b0.length := List.length_map _
        show (lenD (ti b) == lenD (ti b0)) = true
        rw [h1, h2, (hm b hb).2, (hm b0 List.mem_cons_self).2]
        exact beq_self_eq_true _
  rcases hd with rfl | rfl
  · exact key
  · exact key
theorem caW_size {d1 d2 : Da} {k : Da → Prop} (h : Kn d1) (hb : inB d1 0 8 = false) (q : k (badD "size")) : CaW d1 d2 k := by
  refine ⟨h, fun _ => q, fun n hn e => ?_⟩
  subst e
  have : inB (.int (n : Int)) 0 8 = true := by
    show (decide ((0 : Int) ≤ n) && decide ((n : Int) ≤ 8)) = true
    rw [Bool.and_eq_true, decide_eq_true_eq, decide_eq_true_eq]
    omega
  rw [this] at hb
  cases hb
theorem caW_in {n : Nat} {d2 : Da} {k : Da → Prop} (hn : n ≤ 8) (h : Kn3 d2 ∧ (¬ LotsP n d2 → k (badD "bases")) ∧ ∀ (bs : List (List Int)) (m : Nat), (d2 = lti bs ∨ d2 = .tup (bs.map ti)) → bs ≠ [] → (∀ b ∈ bs, LotOk n b ∧ b.length = m) → (¬ CanEx bs → k (badD "exchange")) ∧ (CanEx bs → k .non)) : CaW (.int (n : Int)) d2 k := by
  refine ⟨⟨_, rfl⟩, fun z => ?_, fun n' _ e => ?_⟩
  · have : inB (.int (n : Int)) 0 8 = true := by
      show (decide ((0 : Int) ≤ n) && decide ((n : Int) ≤ 8)) = true
      rw [Bool.and_eq_true, decide_eq_true_eq, decide_eq_true_eq]
      omega
    rw [this] at z
    cases z
  · have en : n' = n := by
      have := Da.int.inj e
      omega
    subst en
    exact h
theorem caW_bases {n : Nat} {d2 : Da} {k : Da → Prop} (hn : n ≤ 8) (h : Kn3 d2) (hb : lotsB n d2 = false) (q : k (badD "bases")) : CaW (.int (n : Int)) d2 k := caW_in hn ⟨h, fun _ => q, fun bs m h1 h2 h3 => by
  have := lotsP_B (n := n) (d := d2) ⟨bs, h1, h2, m, h3⟩
  rw [hb] at this
  cases this⟩
theorem caW_lots {n m : Nat} {d2 : Da} {bs : List (List Int)} {k : Da → Prop} (hn : n ≤ 8) (hl : bs.length ≤ 1000) (h : d2 = lti bs ∨ d2 = .tup (bs.map ti)) (hne : bs ≠ []) (hm : ∀ b ∈ bs, LotOk n b ∧ b.length = m) (q1 : ¬ CanEx bs → k (badD "exchange")) (q2 : CanEx bs → k .non) : CaW (.int (n : Int)) d2 k :=
  caW_in hn ⟨kn3_of h hl, fun z => (z ⟨bs, h, hne, m, hm⟩).elim, fun bs' m' h1 h2 h3 => by
    have e := lots_inj h h1
    subst e
    exact ⟨q1, q2⟩⟩
/-- data all the way down, lists of at most 1000 -/
def knB : Da → Bool
  | d => (tyD d).isSome
def knB2 (d : Da) : Bool := knB d && (match d with | .tup xs => xs.all knB | _ => true)
def knB3 (d : Da) : Bool := knB d && (match d with | .tup xs => decide (xs.length ≤ 1000) && xs.all knB2 | .lst xs => decide (xs.length ≤ 1000) && xs.all knB2 | _ => true)
theorem knB_ok {d : Da} (h : knB d = true) : Kn d := Option.isSome_iff_exists.mp h
theorem knB2_ok {d : Da} (h : knB2 d = true) : Kn2 d := by
  unfold knB2 at h
  rw [Bool.and_eq_true] at h
  refine ⟨knB_ok h.1, fun xs e x hx => ?_⟩
  subst e
  exact knB_ok (List.all_eq_true.mp h.2 x hx)
theorem knB3_ok {d : Da} (h : knB3 d = true) : Kn3 d := by
  unfold knB3 at h
  rw [Bool.and_eq_true] at h
  refine ⟨knB_ok h.1, fun xs e => ?_⟩
  rcases e with e | e
  · subst e
    have h2 := Bool.and_eq_true_iff.mp h.2
    exact ⟨of_decide_eq_true h2.1, fun x hx => knB2_ok (List.all_eq_true.mp h2.2 x hx)⟩
  · subst e
    have h2 := Bool.and_eq_true_iff.mp h.2
    exact ⟨of_decide_eq_true h2.1, fun x hx => knB2_ok (List.all_eq_true.mp h2.2 x hx)⟩
def S8 : List Da := [.non, .int (-1), .int 9, .bl true, .str "3", .tup [.int 3]]
def O8 : List Da := [.non, .int 5, .lst [], .tup [], .obj 0 [], .str "01", .lst [.non], .lst [.lst [.int 0, .int 1]], .lst [.tup [.int 1, .int 0]], .lst [.tup [.int 0, .int 0]], .lst [.tup [.int 0, .int 9]], .lst [.tup [.int (-1)]], .lst [.tup [.bl true]], .lst [.tup [.int 0], .tup [.int 0, .int 1]], .lst [.tup [.str "0"]],
  .lst ([.tup []] ++ [.tup [.int 0]])]
theorem s8_ok : ∀ d ∈ S8, knB d = true ∧ inB d 0 8 = false := by
  intro d hd
  simp only [S8, List.mem_cons, List.not_mem_nil, or_false] at hd
  rcases hd with rfl | rfl | rfl | rfl | rfl | rfl <;> exact ⟨rfl, rfl⟩
theorem o8_ok : ∀ d ∈ O8, knB3 d = true ∧ lotsB (8 : Nat) d = false := by
  intro d hd
  simp only [O8, List.mem_cons, List.not_mem_nil, or_false] at hd
  rcases hd with rfl | rfl | rfl | rfl | rfl | rfl | rfl | rfl | rfl | rfl | rfl | rfl | rfl | rfl | rfl | rfl <;> exact ⟨rfl, rfl⟩
theorem no_ex : ¬ CanEx [[0, 1], [2, 3]] := by
  intro h
  obtain ⟨t, t1, t2⟩ := h [0, 1] (by simp) [2, 3] (by simp) 0 (by decide)
  have e : lessL [2, 3] [0, 1] = [2, 3] := by decide
  rw [e] at t1
  simp only [List.mem_cons, List.not_mem_nil, or_false] at t1
  rcases t1 with rfl | rfl
  · exact absurd t2 (by decide)
  · exact absurd t2 (by decide)
section
variable {P : Program} {w : World} {L : Ly} {mg : Str → Option Value} {base : Heap} {f g fI : Addr} {fd fdC fdI : FuncData} {cB cE cF : Addr} {T : List (Addr × Str)}
def fRef : Pf := ⟨fun xs k => ∃ d, xs = [d] ∧ k (.bl true), fun h ⟨d, e, q⟩ => ⟨d, e, h _ q⟩⟩
/-- what the law asks of the classes -/
structure Kts (K : Frag) (mg : Str → Option Value) (cE cF : Addr) : Prop where
  gF : mg "FlatError" = some (.ref cF)
  eF : PySem.W.exmOne K (.ref cE) (.ref cF) = some true
  kN : PySem.W.kitOne K (.type "NoneType") (.ref cE) = some false
end
end Fv
set_option maxHeartbeats 8000000
namespace Fv
open PySem PySem.Spec PyProof.Rows L2 Fr Fw Fs
/-! # more rules for the law's own def -/
section
variable {X : Cx} {L : Ly} {cB cE f : Addr} {fd : FuncData} {e : Expr} {pos p : Pos} {j : Nat}
def rMin2 : R1p := ⟨fun xs k => ∃ i j, xs = [.int i, .int j] ∧ k (.int (if j < i then j else i)), fun h ⟨i, j, e, q⟩ => ⟨i, j, e, h _ q⟩⟩
theorem snd_min2 : Snd1 L (fun xs H Q => ∃ i j, xs = [.int i, .int j] ∧ Q (.int (if j < i then j else i)) H) rMin2 := by
  rintro B G H σ ρ vs xs Q r dv ⟨i, j, rfl, k⟩
  cases dv with
  | cons d t =>
    cases d
    cases t with
    | cons d t =>
      cases d
      cases t
      exact ⟨i, j, rfl, k _ G H r (Same.refl _) (.int _)⟩
/-- the script's list, wherever it stands -/
structure LyS (L : Ly) : Prop where
  scr : ∀ {H v vs}, L.Ob 5 H v vs ↔ ∃ a, v = .ref a ∧ SqL L.K H a vs
def rLenS : R1p := ⟨fun xs k => ∃ ds, xs = [.obj 5 ds] ∧ k (.int ds.length), fun h ⟨ds, e, q⟩ => ⟨ds, e, h _ q⟩⟩
theorem same_sql {K : Frag} {H H' : Hp} {a : Addr} {xs : List V} (s : Same H H') (h : SqL K H a xs) : SqL K H' a xs := by
  rcases h with (h | ⟨o, h⟩) | h
  · exact .inl (.inl (s _ _ h))
  · exact .inl (.inr ⟨o, s _ _ h⟩)
  · exact .inr h
theorem snd_lenS (LS : LyS L) : Snd1 L (fun xs H Q => ∃ p ys, xs = [.ref p] ∧ (SqL L.K H p ys ∨ SqT L.K H p ys) ∧ Q (.int ys.length) H) rLenS := by
  rintro B G H σ ρ vs xs Q r dv ⟨ds, rfl, k⟩
  cases dv with
  | cons d t =>
    cases t
    cases d with
    | @obj _ _ ys _ o t =>
      obtain ⟨a, rfl, hs⟩ := LS.scr.mp o
      refine ⟨a, ys, rfl, .inl (same_sql r.gh hs), ?_⟩
      rw [dvs_len t]
      exact k _ G H r (Same.refl _) (.int _)
/-- x is not None, x None -/
def rNotN : R2p := ⟨fun x y k => x = .non ∧ y = .non ∧ k (.bl false), fun h ⟨a, b, q⟩ => ⟨a, b, h _ q⟩⟩
theorem snd_notN {R : R2} (hR : ∀ H Q, Q (.bl false) H → R .non .non H Q) : Snd2 L R rNotN := by
  rintro B G H σ ρ v u x y Q r d1 d2 ⟨rfl, rfl, k⟩
  cases d1
  cases d2
  exact hR H Q (k _ G H r (Same.refl _) (.bl false))
/-- Book(bases = e1, size = e2) -/
def pBkK (g1 g2 : Px) : Px := ⟨fun ρ k => g1.f ρ fun d2 ρ1 => g2.f ρ1 fun d1 ρ2 => ∃ (n : Nat) (bs : List (List Int)) (m : Nat), d1 = .int n ∧ n ≤ 8 ∧ (d2 = lti bs ∨ d2 = .tup (bs.map ti)) ∧ bs.length ≤ 1000 ∧ bs ≠ [] ∧ (∀ b ∈ bs, LotOk n b ∧ b.length = m) ∧ CanEx bs ∧
  ∀ bs' : List (List Int), LexS bs' → (∀ t, t ∈ bs' ↔ t ∈ bs) → k (bkD n bs' m) ρ2,
  fun h => g1.mono fun _ _ => g2.mono fun _ _ ⟨n, bs, m, a1, a2, a3, a4, a5, a6, a7, q⟩ => ⟨n, bs, m, a1, a2, a3, a4, a5, a6, a7, fun bs' z1 z2 => h _ _ (q bs' z1 z2)⟩⟩
theorem w_bookK {g1 g2 : Px} {kws : List Keyword} (C : BkC X.K X.mg cB f) (F : FnG X.prog X.w X.K X.mg X.base (L2.CX X.prog X.w) 5 f fd ["self", "size", "bases"] (spBk L cE cB))
    (b : ∀ (s2 : Shared) (x : Addr) (u1 u2 : Value), X.K.In s2.heap → BindsTo s2 fd ⟨[.ref x], [("bases", u1), ("size", u2)]⟩ ((["self", "size", "bases"] : List Str).zip [.ref x, u2, u1])) (hr : Room j X.A) (hk : 6 ≤ j) (hgu : X.A.guards = some []) (hg : Gl X "Book")
    (hkw : PK X kws (tCons (tW L g1) (tCons (tW L g2) tNil))) (hall : (backToKw pos (keywordEach kws X.env)).all (·.1.isSome) = true := by rfl) (hks : (backToKw pos (keywordEach kws X.env)).filterMap (·.1) = (["bases", "size"] : List Str) := by rfl)
    (hpl : ((backTo pos (starEach [] X.env)).any (·.1) || (backToKw pos (keywordEach kws X.env)).any (·.1.isNone)) = false := by rfl) : PE X (.Call (.Name "Book" p) [] kws pos) (tW L (pBkK g1 g2)) :=
  PE.imp (pe_mkK C.mkd F b hr hk hgu hg C.g (fun _ _ _ _ z => (no_pass z).elim) hkw hall hks (by decide) hpl) fun σ H Q ⟨B, G, ρ, r, h⟩ => ⟨B, G, ρ, r, g1.mono (fun d2 ρ1 h1 v2 G1 H1 r1 s1 dv2 => ⟨B, G1, ρ1, r1, g2.mono (by
    rintro d1 ρ2 ⟨n, bs, m, rfl, hn, h2, hl, hne, hb, hx, q⟩ v1 G2 H2 r2 s2 dv1
    refine ⟨v2, v1, rfl, fun x dx nx ndx ne => ⟨G2, H2, x, dx, v1, v2, _, d2, rfl, rfl, nx, ndx, ne, r2.gh, dv1, dv_same s2 dv2, bookW_ok hn h2 hl hne hb hx fun bs' z1 z2 G' H' gr dv => ⟨rfl, q bs' z1 z2 _ _ _ (r2.go gr) (s1.trans (s2.trans gr.gg)) dv⟩⟩⟩) h1⟩) h⟩
end
end Fv
namespace Fw
open PySem PySem.Spec PyProof.Rows L2 Fr
/-! # defs that may raise -/
/-- an error: its kind, its values -/
structure Ed where
  n : Nat
  ds : List Da
/-- the classes of the kinds, with their field -/
abbrev Xt := Nat → Addr × Option Str
/-- what a def answers: data or a new list, or an error -/
structure Pe where
  f : List Da → (Nv → Prop) → (Ed → Prop) → Prop
  mono : ∀ {xs : List Da} {k k' : Nv → Prop} {x x' : Ed → Prop}, (∀ d, k d → k' d) → (∀ e, x e → x' e) → f xs k x → f xs k' x'
def OutC (L : Ly) (G H : Hp) (E : XK) (C : Addr) (ds : List Da) : Option Str → Prop
  | none => ds = [] → ∀ G' H', Grow M0 G H G' H' → E (.ref C) none H'
  | some nm => ∀ dx v d G' H', ds = [d] → Grow M0 G H G' H' → G' dx = some (.xd [(nm, v)]) → Dv L G' v d → E (.ref C) (some dx) H'
def OutE (L : Ly) (T : Xt) (G H : Hp) (E : XK) (e : Ed) : Prop := OutC L G H E (T e.n).1 e.ds (T e.n).2
def AnsE (L : Ly) (G H : Hp) (Q : VK) : Nv → Prop
  | .dat d => ∀ v G' H', Grow M0 G H G' H' → Dv L G' v d → Q v H'
  | .new ds => ∀ p us G' H', Grow M0 G H G' H' → H p = none → G' p = none → H' p = some (.lst us) → DvAll L G' us ds → Q (.ref p) H'
def spE (L : Ly) (T : Xt) (F : Pe) : L2.Sp := fun vs H Q E => ∃ G ds, Same G H ∧ DvAll L G vs ds ∧ F.f ds (AnsE L G H Q) (OutE L T G H E)
/-- .. that does not raise -/
def spE0 (L : Ly) (F : Pe) : L2.Sp := fun vs H Q _ => ∃ G ds, Same G H ∧ DvAll L G vs ds ∧ F.f ds (AnsE L G H Q) fun _ => False
theorem OutC.go {L : Ly} {G H G1 H1 : Hp} {E : XK} {C : Addr} {ds : List Da} {o : Option Str} (g : Grow M0 G H G1 H1) (h : OutC L G H E C ds o) : OutC L G1 H1 E C ds o := by
  cases o with
  | none => exact fun e G' H' g' => h e G' H' (g.trans g')
  | some nm => exact fun dx v d G' H' e g' => h dx v d G' H' e (g.trans g')
theorem OutE.go {L : Ly} {T : Xt} {G H G1 H1 : Hp} {E : XK} {e : Ed} (g : Grow M0 G H G1 H1) (h : OutE L T G H E e) : OutE L T G1 H1 E e := OutC.go g h
theorem AnsE.go {L : Ly} {G H G1 H1 : Hp} {Q : VK} {z : Nv} (g : Grow M0 G H G1 H1) (h : AnsE L G H Q z) : AnsE L G1 H1 Q z := by
  cases z with
  | dat d => exact fun v G' H' g' => h v G' H' (g.trans g')
  | new ds => exact fun p us G' H' g' n => h p us G' H' (g.trans g') (by
      cases q : H p with
      | none => rfl
      | some o => exact absurd n (g.tr p (by rw [q]; simp)))
/-! ## blocks that may raise -/
structure Pse where
  f : En → (En → Prop) → (Nv → Prop) → (Ed → Prop) → Prop
  mono : ∀ {ρ : En} {nx nx' : En → Prop} {k k' : Nv → Prop} {x x' : Ed → Prop}, (∀ r, nx r → nx' r) → (∀ d, k d → k' d) → (∀ e, x e → x' e) → f ρ nx k x → f ρ nx' k' x'
abbrev B0 (G H : Hp) : Bs := ⟨M0, G, H, [], []⟩
def tX (L : Ly) (T : Xt) (G0 H0 : Hp) (E : XK) (g : Pse) : TS := fun D σ H => ∃ G ρ, Rep L (B0 G0 H0) G H σ ρ ∧
  g.f ρ (fun ρ' => ∀ σ' G' H', Rep L (B0 G0 H0) G' H' σ' ρ' → D.nx σ' H') (AnsE L G0 H0 D.rt) (OutE L T G0 H0 E)
section
variable {X : Cx} {L : Ly} {T : Xt} {G0 H0 : Hp} {E : XK} {st : Stmt} {ss : List Stmt}
def xNil : Pse := ⟨fun ρ nx _ _ => nx ρ, fun h _ _ => h _⟩
theorem x_nil (p : PSs X ss tNext) : PSs X ss (tX L T G0 H0 E xNil) := PSs.imp p fun D σ H ⟨G, ρ, r, h⟩ => h σ G H r
theorem x_one {g : Pse} (p : PS X st (tX L T G0 H0 E g)) : PSs X [st] (tX L T G0 H0 E g) := pss_one p
def xSeq (g h : Pse) : Pse := ⟨fun ρ nx k x => g.f ρ (fun ρ1 => h.f ρ1 nx k x) k x, fun a b c => g.mono (fun _ => h.mono a b c) b c⟩
theorem x_seq {g h : Pse} (p : PS X st (tX L T G0 H0 E g)) (q : PSs X ss (tX L T G0 H0 E h)) : PSs X (st :: ss) (tX L T G0 H0 E (xSeq g h)) := PSs.imp (pss_cons p q) fun D σ H ⟨G, ρ, r, k⟩ =>
  ⟨G, ρ, r, g.mono (fun ρ1 h1 σ' G' H' r' => ⟨G', ρ1, r', h1⟩) (fun _ z => z) (fun _ z => z) k⟩
/-- what does not raise -/
def xW (g : Ps) : Pse := ⟨fun ρ nx k _ => g.f ρ nx (fun d _ => k (.dat d)) (fun _ => False) fun _ => False, fun a b _ => g.mono a (fun _ _ => b _) (fun _ z => z) fun _ z => z⟩
theorem imp_W {g : Ps} : ∀ D σ H, tX L T G0 H0 E (xW g) D σ H → tWS L g D σ H := fun D σ H ⟨G, ρ, r, k⟩ =>
  ⟨_, G, ρ, r, g.mono (fun ρ1 h1 σ' G' H' r' _ => h1 σ' G' H' r') (fun d ρ1 h1 v σ' G' H' r' _ dv => h1 v G' H' r'.gr dv) (fun _ z => z.elim) (fun _ z => z.elim) k⟩
theorem x_up {g : Ps} (p : PS X st (tWS L g)) : PS X st (tX L T G0 H0 E (xW g)) := PS.imp p imp_W
theorem x_ups {g : Ps} (p : PSs X ss (tWS L g)) : PSs X ss (tX L T G0 H0 E (xW g)) := PSs.imp p imp_W
def xIf (c : Pt) (g h : Pse) : Pse := ⟨fun ρ nx k x => c.f ρ fun b ρ1 => if b = true then g.f ρ1 nx k x else h.f ρ1 nx k x, fun a1 a2 a3 => c.mono fun b _ z => by
  by_cases hb : b = true
  · rw [if_pos hb] at z ⊢
    exact g.mono a1 a2 a3 z
  · rw [if_neg hb] at z ⊢
    exact h.mono a1 a2 a3 z⟩
theorem x_if {c : Pt} {g h : Pse} (p : PS X st (tIfS (tWT L c) (tX L T G0 H0 E g) (tX L T G0 H0 E h))) : PS X st (tX L T G0 H0 E (xIf c g h)) := PS.imp p fun D σ H ⟨G, ρ, r, k⟩ =>
  ⟨_, G, ρ, r, c.mono (fun b ρ1 h1 G1 H1 r1 s1 => by
    show if b = true then _ else _
    by_cases hb : b = true
    · rw [if_pos hb] at h1 ⊢
      exact ⟨G1, ρ1, r1, h1⟩
    · rw [if_neg hb] at h1 ⊢
      exact ⟨G1, ρ1, r1, h1⟩) k⟩
/-- return, a new list -/
def xRetN (g : Pl) : Pse := ⟨fun ρ _ k _ => g.f ρ fun ds _ => k (.new ds), fun _ b _ => g.mono fun _ _ => b _⟩
theorem x_retN {g : Pl} (p : PS X st (tRet (tWN L g))) : PS X st (tX L T G0 H0 E (xRetN g)) := PS.imp p fun D σ H ⟨G, ρ, r, k⟩ =>
  ⟨_, G, ρ, r, g.mono (fun ds ρ1 h1 p us G' H' r' n0 _ _ da => h1 p us G' H' r'.gr n0 r'.kpAt.2.1 r'.kpAt.1 da) k⟩
/-- a call that may raise, its value dropped -/
def xCall (g : Pl) (F : Pe) : Pse := ⟨fun ρ nx _ x => g.f ρ fun ds ρ1 => F.f ds (fun _ => nx ρ1) x, fun a _ c => g.mono fun _ _ => F.mono (fun _ => a _) c⟩
theorem x_call {g : Pl} {F : Pe} (p : PS X st (tDrop (tCallS (spE L T F) (fun _ => E) (tWA L g)))) : PS X st (tX L T G0 H0 E (xCall g F)) := PS.imp p fun D σ H ⟨G, ρ, r, k⟩ =>
  ⟨_, G, ρ, r, g.mono (fun ds ρ1 h1 vs G1 H1 r1 s1 d1 => ⟨G1, ds, r1.gh, d1, F.mono (fun z hz => by
    cases z with
    | dat d => exact fun v G' H' gr _ => hz σ G' H' (r1.go gr)
    | new es => exact fun p us G' H' gr _ _ _ _ => hz σ G' H' (r1.go gr)) (fun e he => OutE.go r1.gr he) h1⟩) k⟩
/-- return of a call that may raise -/
def xRetC (g : Pl) (F : Pe) : Pse := ⟨fun ρ _ k x => g.f ρ fun ds ρ1 => F.f ds k x, fun _ b c => g.mono fun _ _ => F.mono b c⟩
theorem x_retC {g : Pl} {F : Pe} (p : PS X st (tRet (tCallS (spE L T F) (fun _ => E) (tWA L g)))) : PS X st (tX L T G0 H0 E (xRetC g F)) := PS.imp p fun D σ H ⟨G, ρ, r, k⟩ =>
  ⟨_, G, ρ, r, g.mono (fun ds ρ1 h1 vs G1 H1 r1 s1 d1 => ⟨G1, ds, r1.gh, d1, F.mono (fun z hz => AnsE.go r1.gr hz) (fun e he => OutE.go r1.gr he) h1⟩) k⟩
/-- raise C(v) -/
def xRaise (e : Ed) : Pse := ⟨fun _ _ _ x => x e, fun _ _ c => c _⟩
theorem x_raise {n : Nat} {nm : Str} {v0 : V} {d0 : Da} (hn : (T n).2 = some nm) (hv : ∀ G, Dv L G v0 d0)
    (p : PS X st (fun _ σ H => ∀ dx, H dx = none → (fun (cls : Value) (d : Option Addr) (_ : L2.St) H => E cls d H) (.ref (T n).1) (some dx) σ (upd H dx (.xd [(nm, v0)])))) : PS X st (tX L T G0 H0 E (xRaise ⟨n, [d0]⟩)) := PS.imp p fun D σ H ⟨G, ρ, r, k⟩ => by
  intro dx hd
  have k' : OutC L G0 H0 E (T n).1 [d0] (T n).2 := k
  rw [hn] at k'
  exact k' dx v0 d0 _ _ rfl (r.lay hd).gr upd_same (hv _)
theorem x_raise0 {n : Nat} (hn : (T n).2 = none) (p : PS X st (fun _ σ H => (fun (cls : Value) (d : Option Addr) (_ : L2.St) H => E cls d H) (.ref (T n).1) none σ H)) : PS X st (tX L T G0 H0 E (xRaise ⟨n, []⟩)) := PS.imp p fun D σ H ⟨G, ρ, r, k⟩ => by
  have k' : OutC L G0 H0 E (T n).1 [] (T n).2 := k
  rw [hn] at k'
  exact k' rfl _ _ r.gr
end
/-- a def by its body -/
theorem calE {L : Ly} {T : Xt} {P : Program} {w : World} {mg : Str → Option Value} {base : Heap} {x : Str} {st : Stmt} {f : Addr} {fd : FuncData} {N ps : List Str} {k n : Nat} {F : Pe} (Fd : C8.Def L.K mg x st f fd) (b : Binds L.K fd ps []) (S : FnScope N ps (C8.fnScope st))
    (hlen : ∀ ds k x, F.f ds k x → ds.length = ps.length) (hN : ∀ vs : List V, vs.length = ps.length → L2.start N vs = vs.map some ++ List.replicate n none)
    (hbody : ∀ (cdv : Value) (A : Around) (outer : List Env) (s : Shared) (G H : Hp) (E : XK), Room k (A.deeper (envOfC x (C8.fnScope st) s.heap.objs.size f cdv)) → A.guards = some [] →
      Takes (cxOf (L2.CX P w) P w L.K mg base N x (C8.fnScope st) f cdv A outer s H E) (fun cls d _ H => E cls d H) →
      ∃ g : Pse, PSs (cxOf (L2.CX P w) P w L.K mg base N x (C8.fnScope st) f cdv A outer s H E) (C8.fnBody st) (tX L T G H E g) ∧
        ∀ ds kk xx, F.f ds kk xx → g.f (ent ds n) (fun _ => kk (.dat .non)) kk xx) : CalG P w L.K mg base (L2.CX P w) (k + 1) x (spE L T F) := by
  refine ⟨f, fd, ps, mkc Fd.fn S ?_ ?_, Fd.mgf, Fd.kp, b⟩
  · rintro vs H Q E ⟨G, ds, _, dv, h⟩
    exact (dvs_len dv).trans (hlen _ _ _ h)
  · rintro cdv A outer s H vs Q E hcd hr hgu ⟨G, ds, sg, dv, h⟩
    obtain ⟨g, hp, hF⟩ := hbody cdv A outer s G H E hr hgu (takes_of rfl rfl rfl rfl)
    refine ⟨_, hp, ?_⟩
    rw [hN vs ((dvs_len dv).trans (hlen _ _ _ h))]
    exact ⟨G, ent ds n, rep_ent sg dv, g.mono (fun ρ1 h1 σ' G' H' r' => h1 .non G' H' r'.gr .non) (fun _ z => z) (fun _ z => z) (hF ds _ _ h)⟩
/-- where nothing is raised -/
theorem calm {L : Ly} {T : Xt} {P : Program} {w : World} {mg : Str → Option Value} {base : Heap} {x : Str} {k : Nat} {F : Pe} (c : CalG P w L.K mg base (L2.CX P w) k x (spE L T F)) : CalG P w L.K mg base C8.CX0 k x (spE0 L F) := by
  obtain ⟨f, fd, ps, Fg, hm, kp, b⟩ := c.ex
  have up : ∀ vs H Q E, spE0 L F vs H Q E → spE L T F vs H Q fun _ _ _ => False := fun vs H Q E ⟨G, ds, s, dv, h⟩ => ⟨G, ds, s, dv, F.mono (fun _ z => z) (fun _ z => z.elim) h⟩
  refine ⟨f, fd, ps, ⟨fun vs H Q E h => Fg.len vs H Q _ (up vs H Q E h), fun A outer s H args us vs Q E a1 a2 a3 a4 a5 h => ?_⟩, hm, kp, b⟩
  refine codeAny_mono (Fg.run A outer s H args us vs Q _ a1 a2 a3 a4 a5 (up vs H Q E h)) fun r s' q => ?_
  cases r with
  | error e => exact (Fv.no_pass q).elim
  | ok fl =>
    cases fl with
    | ret u => exact q
    | next => cases q
    | brk => cases q
    | cont => cases q
/-! ## calls that do not raise -/
def Nv.toD : Nv → Da
  | .dat d => d
  | .new ds => .lst ds
section
variable {X : Cx} {L : Ly} {B : Bs} {G H : Hp} {σ : L2.St} {ρ : En} {st : Stmt} {e : Expr}
theorem Rep.kpOf (r : Rep L B G H σ ρ) {p : Addr} {o : HO} (e : H p = some o) (n : G p = none) (h0 : B.H0 p = none) (ho : p ∉ Fw.own ρ) (ht : ∀ t ∈ B.T, t.1 ≠ p) : Rep L (B.kp p o) G H σ ρ :=
  ⟨r.gr, r.mh, r.env, r.nd, r.fm, r.fd, fun q hq => by
    rcases List.mem_cons.mp hq with rfl | hq
    · exact ⟨e, n, fun z => (r.mh p z).1 h0, ho⟩
    · exact r.ks q hq, r.tb, fun t ht' => ⟨(r.tg t ht').1, (r.tg t ht').2.1, fun q hq => by
    rcases List.mem_cons.mp hq with rfl | hq
    · exact fun z => ht t ht' z.symm
    · exact (r.tg t ht').2.2 q hq⟩, r.mt, r.ft⟩
/-- behind a call that made a list -/
theorem Rep.made (r : Rep L B G H σ ρ) {G' H' : Hp} {p : Addr} {us : List V} (gr : Grow M0 G H G' H') (n : H p = none) (n' : G' p = none) (e : H' p = some (.lst us)) : Rep L (B.kp p (.lst us)) G' H' σ ρ ∧ B.H0 p = none ∧ ∀ q ∈ B.ks, q.1 ≠ p :=
  ⟨(r.go gr).kpOf e n' (r.h0 n) (fun z => r.own p z n) (fun t ht z => (r.tb t ht).tk (by rw [z]; exact n)), r.h0 n, fun q hq z => by
    have := (r.ks q hq).1
    rw [z, n] at this
    cases this⟩
def pE (g : Pl) (F : Pe) : Px := ⟨fun ρ k => g.f ρ fun ds ρ1 => F.f ds (fun z => k z.toD ρ1) fun _ => False, fun h => g.mono fun _ _ => F.mono (fun _ => h _ _) fun _ z => z⟩
def tE0 (L : Ly) (F : Pe) (t : TA) : TE := fun σ H Q => t σ H fun vs H1 => spE0 L F vs H1 Q fun _ _ _ => False
theorem imp_E {g : Pl} {F : Pe} : ∀ σ H Q, tW L (pE g F) σ H Q → tE0 L F (tWA L g) σ H Q := fun σ H Q ⟨B, G, ρ, r0, h⟩ =>
  ⟨B, G, ρ, r0, g.mono (fun xs ρ1 h1 vs G1 H1 r1 s1 d1 => ⟨G1, xs, r1.gh, d1, F.mono (fun z hz => by
    cases z with
    | dat d => exact fun v G' H' gr dv => hz v G' H' (r1.go gr) (s1.trans gr.gg) dv
    | new ds =>
      intro p us G' H' gr n n' e da
      obtain ⟨R, q1, q2⟩ := r1.made gr n n' e
      exact hz (.ref p) _ _ (R.kpDone q1 q2) ((s1.trans gr.gg).trans (same_upd n')) (.lst upd_same (dvs_same (same_upd n') da))) (fun _ z => z) h1⟩) h⟩
theorem w_E {g : Pl} {F : Pe} (p : PE X e (tE0 L F (tWA L g))) : PE X e (tW L (pE g F)) := PE.imp p imp_E
/-- stored: a new list may still change -/
def sSetE (i : Nat) (g : Pl) (F : Pe) : Ps := ⟨fun ρ nx _ _ _ => g.f ρ fun ds ρ1 => F.f ds (fun z => Fw.sto i z ρ1 nx) fun _ => False, fun h _ _ _ => g.mono fun _ _ => F.mono (fun _ => sto_mono h) fun _ z => z⟩
theorem w_setE {i : Nat} {g : Pl} {F : Pe} (p : PS X st (tAsg (tE0 L F (tWA L g)) (gName i))) : PS X st (tWS L (sSetE i g F)) := PS.imp p fun D σ H ⟨B, G, ρ, r0, h⟩ =>
  ⟨B, G, ρ, r0, g.mono (fun xs ρ1 h1 vs G1 H1 r1 s1 d1 => ⟨G1, xs, r1.gh, d1, F.mono (fun z hz => by
    cases z with
    | dat d => exact fun v G' H' gr dv => hz _ G' H' ((r1.go gr).setD dv) (s1.trans gr.gg)
    | new ds =>
      intro p us G' H' gr n n' e da
      obtain ⟨R, q1, q2⟩ := r1.made gr n n' e
      exact hz p R.kpAt.2.2.2 _ G' H' (R.kpG q1 da i q2) (s1.trans gr.gg)) (fun _ z => z) h1⟩) h⟩
end
/-! ## calls by name -/
section
variable {X : Cx} {L : Ly} {k j : Nat} {x : Str} {p pos : Pos} {e : Expr} {es : List Expr} {F : Pe} {t : TA}
theorem pe_E (c : CalG X.prog X.w X.K X.mg X.base C8.CX0 k x (spE0 L F)) (hr : Room j X.A) (hk : k ≤ j) (hgu : X.A.guards = some []) (hg : Gl X x) (ha : PA X (e :: es) t)
    (hdb : (x == ("__debug__" : Str)) = false := by decide) (he : starEach (e :: es) X.env = (false, eval e X.env) :: starEach es X.env := by rfl)
    (hpl : (backTo pos (starEach es X.env)).any (·.1) = false := by rfl) : PE X (.Call (.Name x p) (e :: es) [] pos) (tE0 L F t) :=
  PE.imp (pe_cgS (E := fun _ _ _ _ => False) c hr hk hgu hg (fun _ _ _ _ _ _ _ z => z.elim) ha hdb he hpl) fun σ H Q h => h
/-- a def that may be called by its parameters' names, in another sequence -/
structure CalK (P : Program) (w : World) (K : Frag) (mg : Str → Option Value) (base : Heap) (CX : CXT) (k : Nat) (x : Str) (sp : L2.Sp) (ks : List Str) (pv : List V → List V) : Prop where
  ex : ∃ (f : Addr) (fd : FuncData) (ps : List Str), FnG P w K mg base CX k f fd ps sp ∧ mg x = some (.ref f) ∧ PySem.W.keepIn K (.ref f) = true ∧
    ∀ (s : Shared) (vs : List V) (us : List Value), K.In s.heap → Vals vs us → (pv vs).length = ps.length → ∃ us', BindsTo s fd ⟨[], ks.zip us⟩ (ps.zip us') ∧ Vals (pv vs) us'
theorem pe_EK {pv : List V → List V} {ks : List Str} {kws : List Keyword} (c : CalK X.prog X.w X.K X.mg X.base C8.CX0 k x (spE0 L F) ks pv) (hr : Room j X.A) (hk : k ≤ j) (hgu : X.A.guards = some []) (hg : Gl X x) (hkw : PK X kws t)
    (hall : (backToKw pos (keywordEach kws X.env)).all (·.1.isSome) = true := by rfl) (hks : (backToKw pos (keywordEach kws X.env)).filterMap (·.1) = ks := by rfl) (hdb : (x == ("__debug__" : Str)) = false := by decide)
    (hpl : ((backTo pos (starEach [] X.env)).any (·.1) || (backToKw pos (keywordEach kws X.env)).any (·.1.isNone)) = false := by rfl) :
    PE X (.Call (.Name x p) [] kws pos) (fun σ H Q => t σ H fun vs H1 => spE0 L F (pv vs) H1 Q fun _ _ _ => False) := by
  obtain ⟨f, fd, ps, Fg, hm, kp, b⟩ := c.ex
  constructor
  intro pins s σ H Q I h
  refine wpAny_Call_Name_kw (ld_glob I hg hm ?_ hdb)
  refine PySem.W.callWith_KW0 (h₀ := X.base) I.ok.mod.kin kp hall (thn (hkw.run pos pins s σ H _ I h) ?_) hpl
  rintro us s1 ⟨vs, H1, I1, r, q⟩
  refine ⟨I1.kIn, ?_⟩
  rw [hks]
  obtain ⟨us', hbb, r'⟩ := b s1 vs us I1.kIn r (Fg.len _ _ _ _ q)
  have z := Fg.run X.A X.stack s1 H1 ⟨[], ks.zip us⟩ us' (pv vs) Q _ (hr.mono hk) hgu I1.env0 hbb r' q
  refine wpAny_call (codeAny_mono z ?_)
  rintro (er | fl) s' hq
  · exact (show False from hq).elim
  · cases fl with
    | ret u => exact I1.after hq
    | next => cases hq
    | brk => cases hq
    | cont => cases hq
theorem dvs_swap {H : Hp} {vs : List V} {ds : List Da} (h : DvAll L H vs ds) : DvAll L H vs.reverse ds.reverse := by
  have key : ∀ {vs : List V} {ds : List Da}, DvAll L H vs ds → DvAll L H vs.reverse ds.reverse := by
    intro vs
    induction vs with
    | nil => intro ds h; cases h; exact .nil
    | cons v r ih =>
      intro ds h
      cases h with
      | cons a t => rw [List.reverse_cons, List.reverse_cons]; exact dvs_app (ih t) (.cons a .nil)
  exact key h
def plRev (g : Pl) : Pl := ⟨fun ρ k => g.f ρ fun ds ρ1 => k ds.reverse ρ1, fun h => g.mono fun _ _ => h _ _⟩
/-- two names, or one: the other way round -/
theorem w_EK {ks : List Str} {kws : List Keyword} {g : Pl} (c : CalK X.prog X.w X.K X.mg X.base C8.CX0 k x (spE0 L F) ks List.reverse) (hr : Room j X.A) (hk : k ≤ j) (hgu : X.A.guards = some []) (hg : Gl X x) (hkw : PK X kws (tWA L g))
    (hall : (backToKw pos (keywordEach kws X.env)).all (·.1.isSome) = true := by rfl) (hks : (backToKw pos (keywordEach kws X.env)).filterMap (·.1) = ks := by rfl) (hdb : (x == ("__debug__" : Str)) = false := by decide)
    (hpl : ((backTo pos (starEach [] X.env)).any (·.1) || (backToKw pos (keywordEach kws X.env)).any (·.1.isNone)) = false := by rfl) :
    PE X (.Call (.Name x p) [] kws pos) (tW L (pE (plRev g) F)) :=
  PE.imp (pe_EK c hr hk hgu hg hkw hall hks hdb hpl) fun σ H Q ⟨B, G, ρ, r0, h⟩ => by
    refine ⟨B, G, ρ, r0, g.mono ?_ h⟩
    intro xs ρ1 h1 vs G1 H1 r1 s1 d1
    refine ⟨G1, xs.reverse, r1.gh, dvs_swap d1, F.mono ?_ (fun _ z => z) h1⟩
    intro z hz
    cases z with
    | dat d => exact fun v G' H' gr dv => hz v G' H' (r1.go gr) (s1.trans gr.gg) dv
    | new ds =>
      intro p us G' H' gr n n' e da
      obtain ⟨R, q1, q2⟩ := r1.made gr n n' e
      exact hz (.ref p) _ _ (R.kpDone q1 q2) ((s1.trans gr.gg).trans (same_upd n')) (.lst upd_same (dvs_same (same_upd n') da))
theorem w_knil : PK X [] (tWA L pN) := ⟨fun pos pins s σ H Q I ⟨B, G, ρ, r, h⟩ => pk_nil.run pos pins s σ H Q I (h [] G H r (Same.refl _) .nil)⟩
theorem w_kcons {nm : Option Str} {kpos : Pos} {kws : List Keyword} {g : Px} {gs : Pl} (ha : PE X e (tW L g)) (hr : PK X kws (tWA L gs)) : PK X (⟨nm, e, kpos⟩ :: kws) (tWA L (pK g gs)) :=
  ⟨fun pos pins s σ H Q I ⟨B, G, ρ, r0, h⟩ => (pk_cons ha hr).run pos pins s σ H Q I ⟨B, G, ρ, r0, g.mono (fun x ρ1 h1 v G1 H1 r1 s1 d1 => ⟨B, G1, ρ1, r1, gs.mono (fun ds ρ2 h2 vs G2 H2 r2 s2 d2 => h2 (v :: vs) G2 H2 r2 (s1.trans s2) (.cons (dv_same s2 d1) d2)) h1⟩) h⟩⟩
/-- by one name, by two names exchanged -/
theorem calK1 {P : Program} {w : World} {K : Frag} {mg : Str → Option Value} {base : Heap} {x : Str} {k : Nat} {f : Addr} {fd : FuncData} {p1 : Str} {sp : L2.Sp} (Fg : FnG P w K mg base C8.CX0 k f fd [p1] sp) (hm : mg x = some (.ref f)) (kp : PySem.W.keepIn K (.ref f) = true)
    (hb : ∀ (s : Shared) (u : Value), K.In s.heap → BindsTo s fd ⟨[], [(p1, u)]⟩ [(p1, u)]) : CalK P w K mg base C8.CX0 k x sp [p1] List.reverse := ⟨f, fd, [p1], Fg, hm, kp, fun s vs us hK r hl => by
  match vs, us, r with
  | [], _, _ => cases hl
  | [v], _, .cons (b := u) ru .nil => exact ⟨[u], hb s u hK, .cons ru .nil⟩
  | _ :: _ :: _, _, _ => simp at hl⟩
theorem calK2 {P : Program} {w : World} {K : Frag} {mg : Str → Option Value} {base : Heap} {x : Str} {k : Nat} {f : Addr} {fd : FuncData} {p1 p2 : Str} {sp : L2.Sp} (Fg : FnG P w K mg base C8.CX0 k f fd [p1, p2] sp) (hm : mg x = some (.ref f)) (kp : PySem.W.keepIn K (.ref f) = true)
    (hb : ∀ (s : Shared) (u1 u2 : Value), K.In s.heap → BindsTo s fd ⟨[], [(p2, u2), (p1, u1)]⟩ [(p1, u1), (p2, u2)]) : CalK P w K mg base C8.CX0 k x sp [p2, p1] List.reverse := ⟨f, fd, [p1, p2], Fg, hm, kp, fun s vs us hK r hl => by
  match vs, us, r with
  | [], _, _ => cases hl
  | [_], _, _ => simp at hl
  | [v2, v1], _, .cons (b := u2) r2 (.cons (b := u1) r1 .nil) => exact ⟨[u1, u2], hb s u1 u2 hK, .cons r1 (.cons r2 .nil)⟩
  | _ :: _ :: _ :: _, _, _ => simp at hl⟩
end
end Fw
namespace Fw
open PySem PySem.Spec PyProof.Rows L2 Fr
/-! # lambdas as data -/
/-- the one object at f -/
def FnO (f : Addr) (o : Obj) : HO := .ext fun h => h.get? f = some o
theorem fnO_ok {P : Program} {w : World} {H : Hp} {h : Heap} {f : Addr} {o : Obj} (e : h.get? f = some o) : ObjOk P w H h f (FnO f o) := ⟨e, ⟨_, e⟩, fun _ _ a k => k _ a⟩
section
variable {X : Cx} {L : Ly} {B : Bs} {pins : List (Addr × Obj)} {G H : Hp} {σ : L2.St} {ρ : En} {s : Shared} {a : Addr} {oe : Obj}
theorem fn_get (I : Inv X pins σ H s) (e : H a = some (FnO a oe)) : s.heap.get? a = some oe := (I.hok a _ e).1
/-- tracked: pinned, untracked -/
theorem untrack (I : Inv X pins σ H s) (e : H a = some (FnO a oe)) (nc : ∀ v, oe.data ≠ .cell v) : Inv X ((a, oe) :: pins) σ (del H a) s := by
  have off : ∀ {b : Addr} {u : HO}, H b = some u → (∀ φ, u ≠ .ext φ) → del H a b = some u := fun {b u} q n => by
    rw [del_ne (fun z => by rw [z, e] at q; cases q; exact n _ rfl)]
    exact q
  have nn : ∀ {b : Addr}, H b = none → del H a b = none := fun {b} q => by
    by_cases h : b = a
    · rw [h, del_same]
    · rw [del_ne h, q]
  refine ⟨I.ok, I.os, I.bare, ⟨I.base.keep, I.base.slot, fun b ob q n hx => nn (I.base.free b ob q n hx), I.base.there, fun b xs q => off (I.base.tups b xs q) (fun _ z => by cases z), fun b ob u q => off (I.base.frzs b ob u q) (fun _ z => by cases z), fun b ps q => ?_⟩, I.loc, I.cell, nn I.free, fun x c q => nn (I.freeC x c q), fun p hm => ?_, fun b u q => ?_, I.len⟩
  · obtain ⟨more, z⟩ := I.base.tbls b ps q
    exact ⟨more, off z (fun _ z => by cases z)⟩
  · have old : ∀ p ∈ X.pn ++ pins, s.heap.get? p.1 = some p.2 ∧ del H a p.1 = none ∧ p.1 ≠ X.env.locals ∧ p.1 ∉ X.fs ∧ ∀ v, p.2.data ≠ .cell v := fun p hp => by
      obtain ⟨e1, e2, e3⟩ := I.pin p hp
      exact ⟨e1, nn e2, e3⟩
    rcases List.mem_append.mp hm with z | z
    · exact old p (List.mem_append_left _ z)
    · rcases List.mem_cons.mp z with rfl | z
      · refine ⟨fn_get I e, del_same, fun z => ?_, fun z => ?_, nc⟩
        · have z : a = X.env.locals := z
          rw [z, I.free] at e
          cases e
        · obtain ⟨_, o, ho, _⟩ := I.ok.funs.mem z
          have := I.base.free _ o ho (I.ok.frf _ z) fun y => I.ok.exfs _ y z
          have e' : H a = none := this
          rw [e'] at e
          cases e
      · exact old p (List.mem_append_right _ z)
  · by_cases h : b = a
    · rw [h, del_same] at q
      cases q
    · rw [del_ne h] at q
      exact (I.hok b u q).stay (fun _ _ _ z => z) (fun _ z => off z (fun _ y => by cases y)) fun _ _ z => off z (fun _ y => by cases y)
/-- .. and back -/
theorem track2 (I : Inv X ((a, oe) :: pins) σ H s) (h0 : ∀ ob, X.s_0.heap.get? a = some ob → X.H_0 a = none → a ∉ X.ex → False) (hp : ∀ p ∈ X.pn ++ pins, p.1 ≠ a) : Inv X pins σ (upd H a (FnO a oe)) s := by
  obtain ⟨ea, na, nl, nf, nc⟩ := I.pin (a, oe) (List.mem_append_right _ List.mem_cons_self)
  have off : ∀ {b : Addr} {u : HO}, H b = some u → upd H a (FnO a oe) b = some u := fun {b u} e => by
    rw [upd_ne (ne_of_none e na)]
    exact e
  refine ⟨I.ok, I.os, I.bare, ⟨I.base.keep, I.base.slot, fun b ob e n hx => ?_, I.base.there, fun b xs e => off (I.base.tups b xs e), fun b ob u e => off (I.base.frzs b ob u e), fun b ps e => ?_⟩, I.loc, I.cell, ?_, fun x c e => ?_, fun p hm => ?_, fun b u e => ?_, I.len⟩
  · rw [upd_ne (fun z => by subst z; exact h0 ob e n hx)]
    exact I.base.free b ob e n hx
  · obtain ⟨more, q⟩ := I.base.tbls b ps e
    exact ⟨more, off q⟩
  · rw [upd_ne (Ne.symm nl)]
    exact I.free
  · obtain ⟨v, oc, ec, hc⟩ := I.cell x c e
    rw [upd_ne (fun z => by rw [z, ea] at ec; cases ec; exact nc _ hc)]
    exact I.freeC x c e
  · have hm' : p ∈ X.pn ++ ((a, oe) :: pins) := by
      rcases List.mem_append.mp hm with z | z
      · exact List.mem_append_left _ z
      · exact List.mem_append_right _ (List.mem_cons_of_mem _ z)
    obtain ⟨e1, e2, e3, e4, e5⟩ := I.pin p hm'
    refine ⟨e1, ?_, e3, e4, e5⟩
    rw [upd_ne (hp p hm)]
    exact e2
  · by_cases hb : b = a
    · subst hb
      rw [upd_same] at e
      cases e
      exact fnO_ok ea
    · rw [upd_ne hb] at e
      exact (I.hok b u e).stay (fun _ _ _ q => q) (fun _ q => off q) fun _ _ q => off q
end
/-- the lambdas of a text: parameters, body, scope -/
abbrev Lm := Arguments × Expr × Scope
def enc : List (Str × Addr) → List Da
  | [] => []
  | (y, c) :: r => .str y :: .int (c : Nat) :: enc r
def encV : List (Str × Addr) → List V
  | [] => []
  | (y, c) :: r => .str y :: .int (c : Nat) :: encV r
/-- the lambda i of the text, of the closure cl -/
def lamO (i : Nat) (cl : List (Str × Addr)) : Da := .obj 9 (.int (i : Nat) :: enc cl)
def ObLam (M : Nat → Lm) (q : Str) (G : Hp) (v : V) (vs : List V) : Prop := ∃ (i : Nat) (cl : List (Str × Addr)) (f c : Addr) (pm ctv : Value), v = .ref f ∧ vs = .int (i : Nat) :: encV cl ∧
  G f = some (FnO f (PySem.W.kla_obj "<lambda>" q (M i).1 (M i).2.1 (M i).2.2 cl pm c ctv)) ∧ G c = some (LamX.CodeO c q)
theorem obLam_mo {M : Nat → Lm} {q : Str} {H H' : Hp} {v : V} {vs : List V} (s : Same H H') (h : ObLam M q H v vs) : ObLam M q H' v vs := by
  obtain ⟨i, cl, f, c, pm, ctv, a, b, d, e⟩ := h
  exact ⟨i, cl, f, c, pm, ctv, a, b, s _ _ d, s _ _ e⟩
/-! data that no function stands in: plain, books, dicts -/
mutual
def noF : Da → Bool
  | .obj n xs => decide (n ≤ 1) && noFs xs
  | .lst xs => noFs xs
  | .tup xs => noFs xs
  | _ => true
def noFs : List Da → Bool
  | [] => true
  | x :: r => noF x && noFs r
end
structure LyF (L : Ly) (M : Nat → Lm) (q : Str) : Prop where
  lam : ∀ {H v vs}, L.Ob 9 H v vs ↔ ObLam M q H v vs
  dl : ∀ {n H v vs a φ}, n ≤ 1 → H a = some (.ext φ) → L.Ob n H v vs → L.Ob n (del H a) v vs
section
variable {L : Ly} {M : Nat → Lm} {q : Str} {G : Hp} {a : Addr} {φ : Heap → Prop}
mutual
theorem dv_del (LF : LyF L M q) (e : G a = some (.ext φ)) : ∀ {v : V} {d : Da}, Dv L G v d → noF d = true → Dv L (del G a) v d
  | _, _, .non, _ => .non
  | _, _, .bl b, _ => .bl b
  | _, _, .int i, _ => .int i
  | _, _, .str x, _ => .str x
  | _, _, .lst (a := b) h t, n => .lst (by rw [del_ne (fun z => by rw [z, e] at h; cases h)]; exact h) (dvs_del LF e t n)
  | _, _, .tup (a := b) h t, n => .tup (by
      rcases h with (h | ⟨o, h⟩) | h
      · exact .inl (.inl (by rw [del_ne (fun z => by rw [z, e] at h; cases h)]; exact h))
      · exact .inl (.inr ⟨o, by rw [del_ne (fun z => by rw [z, e] at h; cases h)]; exact h⟩)
      · exact .inr h) (dvs_del LF e t n)
  | _, _, .obj h t, n => by
    have n' := Bool.and_eq_true_iff.mp n
    exact .obj (LF.dl (of_decide_eq_true n'.1) e h) (dvs_del LF e t n'.2)
theorem dvs_del (LF : LyF L M q) (e : G a = some (.ext φ)) : ∀ {vs : List V} {xs : List Da}, DvAll L G vs xs → noFs xs = true → DvAll L (del G a) vs xs
  | _, _, .nil, _ => .nil
  | _, _, .cons h t, n => by
    have n' := Bool.and_eq_true_iff.mp n
    exact .cons (dv_del LF e h n'.1) (dvs_del LF e t n'.2)
end
theorem dvs_enc : ∀ cl : List (Str × Addr), DvAll L G (encV cl) (enc cl)
  | [] => .nil
  | (y, c) :: r => .cons (.str y) (.cons (.int _) (dvs_enc r))
theorem encV_inj : ∀ {a b : List (Str × Addr)}, encV a = encV b → a = b
  | [], [], _ => rfl
  | [], _ :: _, h => by cases h
  | _ :: _, [], h => by cases h
  | (y, c) :: r, (y', c') :: r', h => by
    unfold encV at h
    injection h with h1 h2
    injection h2 with h2 h3
    injection h1 with h1
    injection h2 with h2
    rw [encV_inj h3, h1, Int.ofNat_inj.mp h2]
theorem dvs_encV : ∀ {vs : List V} {cl : List (Str × Addr)}, DvAll L G vs (enc cl) → vs = encV cl
  | _, [], h => by cases h; rfl
  | _, (y, c) :: r, h => by
    cases h with
    | cons h1 h =>
      cases h with
      | cons h2 h =>
        cases h1
        cases h2
        rw [dvs_encV h]
        rfl
theorem dv_lamO (LF : LyF L M q) {v : V} {i : Nat} {cl : List (Str × Addr)} (h : Dv L G v (lamO i cl)) : ∃ (f c : Addr) (pm ctv : Value), v = .ref f ∧ G f = some (FnO f (PySem.W.kla_obj "<lambda>" q (M i).1 (M i).2.1 (M i).2.2 cl pm c ctv)) ∧ G c = some (LamX.CodeO c q) := by
  cases h with
  | obj h t =>
    cases t with
    | @cons v0 vs _ _ h0 t =>
      cases h0
      have e := dvs_encV t
      obtain ⟨i', cl', f, c, pm, ctv, a, b, d, g⟩ := LF.lam.mp h
      injection b with b1 b2
      injection b1 with b1
      have ei : i = i' := Int.ofNat_inj.mp b1
      have ec : cl = cl' := encV_inj (e.symm.trans b2)
      subst ei ec
      exact ⟨f, c, pm, ctv, a, d, g⟩
end
section
variable {X : Cx} {L : Ly} {M : Nat → Lm} {q : Str}
/-- lambda ..: body, as data -/
def pLamO (T : List (Addr × Str)) (i : Nat) (cl : List (Str × Addr)) : Px := ⟨fun ρ k => some (.tab T) ∈ ρ ∧ k (lamO i cl) ρ, fun h => by
  rintro ⟨a, z⟩
  exact ⟨a, h _ _ z⟩⟩
theorem w_lamO {T : List (Addr × Str)} {i : Nat} {params : Arguments} {body : Expr} {scope : Scope} {lpos : Pos} {N ps cs : List Str} {is : List Nat} (LF : LyF L M q) (hq : X.env.qual ++ "<lambda>" = q) (hi : M i = (params, body, scope))
    (LT : LamT X T params scope N ps cs is) (stk : X.stack = X.env :: X.outer) (frm : X.env.frame = some X.env.locals) : PE X (.Lambda params body scope lpos) (tW L (pLamO T i (cloFrom X.env.cells scope.names []))) := by
  refine ⟨?_⟩
  rintro pins s σ H Q I ⟨B, G, ρ, r, hT, h⟩
  obtain ⟨c, P, TB, hcode, hmT, hu⟩ := LT.tab
  have eT := r.ft T hT
  have hfree : ∀ y ∈ scope.names, y.2 = .free → ∃ c, X.env.cells.lookup y.1 = some c := fun y hy e => I.ok.has _ (LT.sc _ (LT.nm.free y hy e))
  refine lam_make I r TB hcode (by rw [← eT]; exact hmT) (by rw [← eT]; exact hu) LT.defs hfree fun f c' pm ctv G1 H1 s1 I1 r1 s01 hf hfn hfr hge hco => ?_
  have nl : f ≠ X.env.locals := fun z => Nat.lt_irrefl _ (Nat.lt_of_lt_of_le (by rw [z]; exact I.lt) hge)
  have nf : f ∉ X.fs := I.nofs hge
  have I2 : Inv X ((f, PySem.W.kla_obj "<lambda>" (X.env.qual ++ "<lambda>") params body scope (cloFrom X.env.cells scope.names []) pm c' ctv) :: pins) σ H1 s1 := I1.pins_of fun p hp => by
    rcases List.mem_cons.mp hp with rfl | hp
    · exact ⟨hf, hfn, nl, nf, fun v z => by cases z⟩
    · exact I1.pin p (List.mem_append_right _ hp)
  have I3 := track2 I2 (fun ob e _ _ => Nat.lt_irrefl _ (Nat.lt_of_lt_of_le (Heap.lt_size e) (Nat.le_trans I.sz hge))) fun p hp z => by
    have := (I.pin p hp).1
    have l := Heap.lt_size this
    rw [z] at l
    exact Nat.lt_irrefl _ (Nat.lt_of_lt_of_le l hge)
  refine ⟨.ref f, _, I3, rfl, h _ _ _ (r1.lay hfn) (s01.trans (same_upd (r1.gh.free hfn))) (.obj (LF.lam.mpr ⟨i, _, f, c', pm, ctv, rfl, rfl, ?_, ?_⟩) (.cons (.int _) (dvs_enc _)))⟩
  · rw [upd_same, hi, hq]
  · have n : c' ≠ f := fun z => by
      have := r1.gh _ _ hco
      rw [z, hfn] at this
      cases this
    rw [upd_ne n, hco, hq]
/-- g(y), y a lambda as data -/
def pCallO {α : Type} (emb : Nat → α → List Da) (C : Nat → α → Prop) (T : List (Addr × Str)) (j : Nat) (is : Nat → List Nat) (cl : Nat → List (Str × Addr)) (n : Nat) (FF : Nat → α → Pf) : Px := ⟨fun ρ k => some (.tab T) ∈ ρ ∧ ∃ i a, i < n ∧ ρ[j]? = some (some (.dat (lamO i (cl i)))) ∧ Caught ρ (is i) (emb i a) ∧ noFs (emb i a) = true ∧ C i a ∧ (FF i a).f [lamD] fun z => no9 z = true ∧ k z ρ,
  fun h => by
    rintro ⟨a, i, b, l, c, d, e, g, q⟩
    exact ⟨a, i, b, l, c, d, e, g, (FF i b).mono (fun z ⟨y, w⟩ => ⟨y, h _ _ w⟩) q⟩⟩
theorem w_callO {α : Type} {emb : Nat → α → List Da} {C : Nat → α → Prop} {T : List (Addr × Str)} {n j : Nat} {is : Nat → List Nat} {FF : Nat → α → Pf} {N ps cs : Nat → List Str} {x y : Str} {g : Addr} {kk : Nat} {p py pos : Pos} (LF : LyF L M q) (hq : X.env.qual ++ "<lambda>" = q)
    (LT : ∀ i, i < n → LamT X T (M i).1 (M i).2.2 (N i) (ps i) (cs i) (is i)) (hKL : X.K = L.K) (hex : X.ex = []) (hg : Gl X x) (hm : X.mg x = some (.ref g)) (hk : PySem.W.keepIn X.K (.ref g) = true) (hr : Room kk X.A) (hgu : X.A.guards = some []) (hy : PE X (.Name y py) (tVar j))
    (hc : ∀ (i : Nat), i < n → ∀ (B' : Heap) (f c : Addr) (G0 : Hp) (ws : List V) (z : α) (cl : List (Str × Addr)), LamAt B' G0 f c q (M i).1 (M i).2.1 (M i).2.2 cl (cs i) ws → DvAll L G0 ws (emb i z) → C i z → CalG X.prog X.w X.K X.mg B' C8.CX0 kk x (spF (L.lam f G0) (FF i z)))
    (hdb : (x == ("__debug__" : Str)) = false := by decide) (hst : starEach [.Name y py] X.env = (false, eval (.Name y py) X.env) :: starEach [] X.env := by rfl) (hpl : (backTo pos (starEach [] X.env)).any (·.1) = false := by rfl) :
    PE X (.Call (.Name x p) [.Name y py] [] pos) (tW L (pCallO emb C T j is (fun i => cloFrom X.env.cells (M i).2.2.names []) n FF)) := by
  refine ⟨?_⟩
  rintro pins s σ H Q I ⟨B, G, ρ, r, hT, i, a, hin, hi, hcs, hno, hC, hF⟩
  refine wpAny_Call_Name_kw (ld_glob I hg hm ?_ hdb)
  obtain ⟨sv, hs, hv⟩ := paired_get r.env hi
  cases sv with
  | none => exact (reps_none hv).elim
  | some v =>
  obtain ⟨f, c, pm, ctv, rfl, hGf, hGc⟩ := dv_lamO LF hv
  have hHf := r.gh _ _ hGf
  refine PySem.W.callWith_K (h₀ := X.base) I.ok.mod.kin hk (thn ((pa_cons hy pa_nil hst).run pos pins s σ H (fun vs H1 => vs = [.ref f] ∧ H1 = H) I ⟨.ref f, hs, rfl, rfl⟩) ?_) hst hpl
  rintro us s2 ⟨vs, H2, I2, rv, rfl, rfl⟩
  refine ⟨I2.kIn, ?_⟩
  have I3 := untrack I2 hHf (fun v z => by cases z)
  obtain ⟨B', e0, hB⟩ := base_sw I3
  obtain ⟨ws, w1, w2, w3⟩ := caught_vals r hcs
  have LTi := LT i hin
  have hlen : ws.length = (cs i).length := by
    have := congrArg List.length LTi.ix
    rw [List.length_map, List.length_map] at this
    omega
  have Cp := caps_of I3 LTi.fn LTi.nm LTi.sc hlen (fun i' y v h1 h2 => by
    obtain ⟨j', j1, j2⟩ := map_at LTi.ix h1
    obtain ⟨v', q', b⟩ := w3 i' j' j1
    rw [h2] at q'
    cases q'
    exact ⟨j', j2, b⟩) hB
  have hfr : f ∉ frs X.stack := fun z => by
    have := I2.stkFree f z
    rw [hHf] at this
    cases this
  have hsG : Same (del G f) (del H2 f) := fun b o e => by
    by_cases hb : b = f
    · rw [hb, del_same] at e
      cases e
    · rw [del_ne hb] at e ⊢
      exact r.gh _ _ e
  have ncf : c ≠ f := fun z => by
    rw [z, hGf] at hGc
    have e := HO.ext.inj (Option.some.inj hGc)
    have e2 := congrFun e s2.heap
    have e1 : s2.heap.get? f = some (PySem.W.kla_obj "<lambda>" q (M i).1 (M i).2.1 (M i).2.2 (cloFrom X.env.cells (M i).2.2.names []) pm c ctv) := fn_get I2 hHf
    have h1 : (s2.heap.get? f = some (PySem.W.kla_obj "<lambda>" q (M i).1 (M i).2.1 (M i).2.2 (cloFrom X.env.cells (M i).2.2.names []) pm c ctv)) = _ := e2
    rw [eq_true e1] at h1
    have h2 := of_eq_true h1.symm
    obtain ⟨oc, vs', t, q1, q2, q3⟩ := h2
    rw [e1] at q1
    cases q1
    cases q2
  obtain ⟨g', fd, ps', Fg, hmg, kp, b⟩ := (hc i hin B' f c (del G f) ws a _ ⟨⟨pm, ctv, hB f _ (fn_get I2 hHf) del_same hfr⟩, Cp, by rw [del_ne ncf]; exact hGc⟩ (dvs_del LF hGf w2 hno) hC).ex
  have hgg : g' = g := by
    have := hmg.symm.trans hm
    injection this with this
    injection this
  subst hgg
  have dv2 : DvAll (L.lam f (del G f)) (del G f) [.ref f] [lamD] := .cons (lam_dv (Same.refl _)) .nil
  have q1 : spF (L.lam f (del G f)) (FF i a) [.ref f] (del H2 f) (fun v H' => ∃ G' z, Grow M0 (del G f) (del H2 f) G' H' ∧ Dv (L.lam f (del G f)) G' v z ∧ no9 z = true ∧ ∀ v G' H', Rep L B G' H' σ ρ → Same G G' → Dv L G' v z → Q v H') C8.E0 := by
    refine ⟨del G f, [lamD], hsG, dv2, (FF i a).mono ?_ hF⟩
    rintro z ⟨hy', hz⟩ v G' H' gr dvz
    exact ⟨G', z, gr, dvz, hy', hz⟩
  have hl : us.length = ps'.length := rv.length.symm.trans (Fg.len _ _ _ _ q1)
  have hbb := b s2 us I2.kIn (by simpa using hl)
  rw [List.append_nil] at hbb
  have z := Fg.run X.A X.stack s2 (del H2 f) ⟨us, []⟩ _ _ _ C8.E0 hr hgu e0 hbb rv q1
  refine wpAny_call (codeAny_mono z ?_)
  rintro (er | fl) s' hq'
  · exact (show False from hq').elim
  · cases fl with
    | next => cases hq'
    | brk => cases hq'
    | cont => cases hq'
    | ret u =>
      obtain ⟨v, H4, I4, r4, G4, z, gr, dvz, hno9, hQ⟩ := I3.after hq'
      have n4 : H4 f = none := (I4.pin _ (List.mem_append_right _ List.mem_cons_self)).2.1
      have g4 : G4 f = none := by
        cases e : G4 f with
        | none => rfl
        | some o =>
          have := gr.gh _ _ e
          rw [n4] at this
          cases this
      have I5 := track2 I4 (fun ob e n hx => by
        have := I2.base.free f ob e n hx
        rw [hHf] at this
        cases this) fun p hp z => by
          have := (I2.pin p hp).2.1
          rw [z, hHf] at this
          cases this
      refine ⟨v, _, I5, r4, hQ v (upd G4 f (FnO f (PySem.W.kla_obj "<lambda>" q (M i).1 (M i).2.1 (M i).2.2 (cloFrom X.env.cells (M i).2.2.names []) pm c ctv))) (upd H4 f (FnO f (PySem.W.kla_obj "<lambda>" q (M i).1 (M i).2.1 (M i).2.2 (cloFrom X.env.cells (M i).2.2.names []) pm c ctv))) (r.go ⟨fun b' o e => ?_, fun b' o e => ?_, fun b' o _ e => ?_, fun b' e => ?_, fun b' e n => ?_⟩) (fun b' o e => ?_) (dv_same (same_upd g4) (dv_fr dvz hno9))⟩
      · by_cases hb : b' = f
        · subst hb
          rw [upd_same, ← hGf, e]
        · rw [upd_ne hb]
          exact gr.gg _ _ (by rw [del_ne hb]; exact e)
      · by_cases hb : b' = f
        · subst hb
          rw [upd_same] at e ⊢
          exact e
        · rw [upd_ne hb] at e ⊢
          exact gr.gh _ _ e
      · by_cases hb : b' = f
        · subst hb
          rw [upd_same, ← hHf, e]
        · rw [upd_ne hb]
          exact gr.hh _ _ (fun z => z) (by rw [del_ne hb]; exact e)
      · by_cases hb : b' = f
        · subst hb
          rw [upd_same]
          simp
        · rw [upd_ne hb]
          exact gr.tr b' (by rw [del_ne hb]; exact e)
      · by_cases hb : b' = f
        · subst hb
          rw [hGf] at n
          cases n
        · rw [upd_ne hb]
          exact gr.nw b' (by rw [del_ne hb]; exact e) (by rw [del_ne hb]; exact n)
      · by_cases hb : b' = f
        · subst hb
          rw [upd_same, ← hGf, e]
        · rw [upd_ne hb]
          exact gr.gg _ _ (by rw [del_ne hb]; exact e)
end
end Fw
namespace Fw
open PySem PySem.Spec PyProof.Rows L2 Fr
/-! # what is caught, as data; lambdas that raise -/
def edD (e : Ed) : Da := .obj (20 + e.n) e.ds
def ObE (T : Xt) (n : Nat) (H : Hp) (v : V) (vs : List V) : Prop := ∃ a : Addr, v = .ref a ∧ (((T n).2 = none ∧ H a = some (exv a (T n).1 none) ∧ vs = []) ∨ ∃ (nm : Str) (d : Addr) (p : V), (T n).2 = some nm ∧ H a = some (exv a (T n).1 (some d)) ∧ H d = some (.xd [(nm, p)]) ∧ vs = [p])
theorem obE_mo {T : Xt} {n : Nat} {H H' : Hp} {v : V} {vs : List V} (s : Same H H') (h : ObE T n H v vs) : ObE T n H' v vs := by
  obtain ⟨a, e, h⟩ := h
  refine ⟨a, e, ?_⟩
  rcases h with ⟨h1, h2, h3⟩ | ⟨nm, d, p, h1, h2, h3, h4⟩
  · exact .inl ⟨h1, s _ _ h2, h3⟩
  · exact .inr ⟨nm, d, p, h1, s _ _ h2, s _ _ h3, h4⟩
structure LyE (L : Ly) (T : Xt) : Prop where
  err : ∀ {n H v vs}, L.Ob (20 + n) H v vs ↔ ObE T n H v vs
def spLamE (L : Ly) (T : Xt) (G0 : Hp) (F : Pe) : L2.Sp := fun vs H Q E => vs = [] ∧ ∃ G, Same G0 G ∧ Same G H ∧ F.f [] (AnsE L G H Q) (OutE L T G H E)
def fCaE (F : Pe) : Pf := ⟨fun xs k => xs = [lamD] ∧ F.f [] (fun _ => k .non) fun e => no9s e.ds = true ∧ k (edD e), fun h ⟨a, b⟩ => ⟨a, F.mono (fun _ => h _) (fun _ z => ⟨z.1, h _ z.2⟩) b⟩⟩
section
variable {P : Program} {w : World} {L : Ly} {T : Xt} {mg : Str → Option Value} {base : Heap} {f c : Addr} {G0 : Hp} {N cs : List Str} {qual : Str} {params : Arguments} {scope : Scope} {cl : List (Str × Addr)} {ws : List V} {cds : List Da} {n k : Nat} {p pos : Pos} {gg : Pl} {F F' : Pe} {x : Str} {e1 : Expr} {es : List Expr}
/-- the context of a raising lambda's body -/
abbrev lcx (P : Program) (w : World) (K : Frag) (mg : Str → Option Value) (base : Heap) (N : List Str) (qual : Str) (scope : Scope) (cl : List (Str × Addr)) (f c : Addr) (A : Around) (outer : List Env) (s : Shared) (H : Hp) (E : XK) : Cx := lamCx (L2.CX P w) P w K mg base N qual scope cl f c A outer s H E
theorem lam_body {body : Expr} (LN : LamN N [] cs scope) (at_ : LamAt base G0 f c qual params body scope cl cs ws) (hcd : DvAll L G0 ws cds)
    (hbind : ∀ (pm ctv : Value), bindArgs (PySem.W.kla_fn "<lambda>" qual params body scope cl pm (.ref c) ctv) ⟨[], []⟩ = pure []) (hN : N.length = cs.length + n)
    (hb : ∀ (A : Around) (outer : List Env) (s : Shared) (H : Hp) (E : XK), Room k (A.deeper (PySem.W.envX qual scope s.heap.objs.size f (.ref c) cl)) → A.guards = some [] →
      PE (lcx P w L.K mg base N qual scope cl f c A outer s H E) body (tCallS (spE L T F) (fun _ => E) (tWA L gg)))
    (hgr : ∀ kk xx, F'.f [] kk xx → gg.f (ent cds n) fun ds _ => F.f ds kk xx) : LamG P w L.K mg base (L2.CX P w) (k + 1) f (spLamE L T G0 F') := by
  obtain ⟨⟨pm, ctv, ho⟩, Cp, hcode⟩ := at_
  refine ⟨⟨_, _, _, _, ho⟩, ?_⟩
  rintro A outer s H us vs Q E hr hgu e0 rv ⟨rfl, G, s0, sG, hW⟩
  cases rv
  refine run_lam (us := []) (vs := []) (ps := []) LN Cp ho (hbind pm ctv) hr e0 rfl .nil (sG _ _ (s0 _ _ hcode)) fun hr2 => ?_
  refine ⟨_, hb A outer s H E hr2 hgu, ?_⟩
  have hst : L2.start N (([] : List V) ++ ws) = ws.map some ++ List.replicate n none := by
    unfold L2.start
    rw [List.nil_append, hN, Cp.len, Nat.add_sub_cancel_left]
  rw [hst]
  exact ⟨⟨M0, G, H, [], []⟩, G, ent cds n, rep_ent sG (dvs_same s0 hcd), gg.mono (fun ds ρ1 h1 vs G1 H1 r1 s1 d1 => ⟨G1, ds, r1.gh, d1, F.mono (fun z hz => AnsE.go r1.gr hz) (fun e he => OutE.go r1.gr he) h1⟩) (hgr _ _ hW)⟩
/-- lambda: x(e, ..), x a def -/
theorem lam_E (C : CalG P w L.K mg base (L2.CX P w) k x (spE L T F)) (LN : LamN N [] cs scope) (at_ : LamAt base G0 f c qual params (.Call (.Name x p) (e1 :: es) [] pos) scope cl cs ws) (hcd : DvAll L G0 ws cds)
    (hbind : ∀ (pm ctv : Value), bindArgs (PySem.W.kla_fn "<lambda>" qual params (.Call (.Name x p) (e1 :: es) [] pos) scope cl pm (.ref c) ctv) ⟨[], []⟩ = pure []) (hN : N.length = cs.length + n)
    (hpa : ∀ (A : Around) (outer : List Env) (s : Shared) (H : Hp) (E : XK), Gl (lcx P w L.K mg base N qual scope cl f c A outer s H E) x ∧ PA (lcx P w L.K mg base N qual scope cl f c A outer s H E) (e1 :: es) (tWA L gg) ∧
      starEach (e1 :: es) (lcx P w L.K mg base N qual scope cl f c A outer s H E).env = (false, eval e1 (lcx P w L.K mg base N qual scope cl f c A outer s H E).env) :: starEach es (lcx P w L.K mg base N qual scope cl f c A outer s H E).env ∧
      (backTo pos (starEach es (lcx P w L.K mg base N qual scope cl f c A outer s H E).env)).any (·.1) = false)
    (hgr : ∀ kk xx, F'.f [] kk xx → gg.f (ent cds n) fun ds _ => F.f ds kk xx) (hdb : (x == ("__debug__" : Str)) = false := by decide) : LamG P w L.K mg base (L2.CX P w) (k + 1) f (spLamE L T G0 F') :=
  lam_body LN at_ hcd hbind hN (fun A outer s H E hr hgu => by
    obtain ⟨hgl, hp, he, hpl⟩ := hpa A outer s H E
    exact pe_cgS C hr (Nat.le_refl _) hgu hgl (fun σ => passAt (takes_of (X := lcx P w L.K mg base N qual scope cl f c A outer s H E) (E := E) rfl rfl rfl rfl) σ) hp hdb he hpl) hgr
/-- a(e, ..), a a local that holds a def, which may raise -/
theorem pe_vgS {X : Cx} {CX : CXT} {j i : Nat} {t : TA} {fa : Addr} {fd : FuncData} {ps : List Str} {sp : L2.Sp} {E : L2.St → XK} (Fg : FnG X.prog X.w X.K X.mg X.base CX k fa fd ps sp) (kp : PySem.W.keepIn X.K (.ref fa) = true) (b : Binds X.K fd ps [])
    (hr : Room j X.A) (hk : k ≤ j) (hgu : X.A.guards = some []) (hN : X.N[i]? = some x) (hv : Vis X.env.scope x) (hx : ∀ σ, PassesAt CX X σ (E σ)) (ha : PA X (e1 :: es) t)
    (hd : (x == ("__debug__" : Str)) = false := by decide) (hcd : (x == ("__classdict__" : Str)) = false := by decide)
    (he : starEach (e1 :: es) X.env = (false, eval e1 X.env) :: starEach es X.env := by rfl) (hpl : (backTo pos (starEach es X.env)).any (·.1) = false := by rfl) :
    PE X (.Call (.Name x p) (e1 :: es) [] pos) (fun σ H Q => σ[i]? = some (some (.ref fa)) ∧ tCallS sp E t σ H Q) := by
  refine ⟨?_⟩
  rintro pins s σ H Q I ⟨hs, ht⟩
  refine wpAny_Call_Name_kw (thn ((pe_var (pos := p) hN hv hd hcd).run pins s σ H (fun v H1 => v = .ref fa ∧ H1 = H) I ⟨.ref fa, hs, rfl, rfl⟩) ?_)
  rintro u s1 ⟨v, H1, I1, r1, rfl, rfl⟩
  cases r1
  refine PySem.W.callWith_K (h₀ := X.base) I1.ok.mod.kin kp (thn (ha.run pos pins s1 σ _ _ I1 ht) ?_) he hpl
  rintro us s2 ⟨vs, H2, I2, r, q⟩
  exact ⟨I2.kIn, run_g Fg (hr.mono hk) hgu b (fun e s' z => hx σ pins H2 s2 e s' I2 z) I2 r q⟩
/-- a def's own value -/
def fnD (f : Addr) : Da := .obj 11 [.int (f : Nat)]
structure LyV (L : Ly) : Prop where
  fn : ∀ {H v vs}, L.Ob 11 H v vs ↔ ∃ f : Addr, v = .ref f ∧ vs = [.int (f : Nat)]
theorem dv_fnD (LV : LyV L) (H : Hp) (fa : Addr) : Dv L H (.ref fa) (fnD fa) := .obj (LV.fn.mpr ⟨fa, rfl, rfl⟩) (.cons (.int _) .nil)
theorem fnD_dv (LV : LyV L) {H : Hp} {v : V} {fa : Addr} (h : Dv L H v (fnD fa)) : v = .ref fa := by
  cases h with
  | obj h t =>
    obtain ⟨f', rfl, rfl⟩ := LV.fn.mp h
    cases t with
    | cons a t =>
      cases a
      rfl
/-- lambda: x(e, ..), x a captured def: of the defs at fs -/
theorem lam_ask {fa : Addr} {fd : FuncData} {ps : List Str} {ci : Nat} (LV : LyV L) (Fg : FnG P w L.K mg base (L2.CX P w) k fa fd ps (spE L T F)) (kp : PySem.W.keepIn L.K (.ref fa) = true) (b : Binds L.K fd ps [])
    (LN : LamN N [] cs scope) (at_ : LamAt base G0 f c qual params (.Call (.Name x p) (e1 :: es) [] pos) scope cl cs ws) (hcd : DvAll L G0 ws cds)
    (hbind : ∀ (pm ctv : Value), bindArgs (PySem.W.kla_fn "<lambda>" qual params (.Call (.Name x p) (e1 :: es) [] pos) scope cl pm (.ref c) ctv) ⟨[], []⟩ = pure []) (hN : N.length = cs.length + n) (hci : cds[ci]? = some (fnD fa)) (hx : N[ci]? = some x)
    (hpa : ∀ (A : Around) (outer : List Env) (s : Shared) (H : Hp) (E : XK), Vis (lcx P w L.K mg base N qual scope cl f c A outer s H E).env.scope x ∧ PA (lcx P w L.K mg base N qual scope cl f c A outer s H E) (e1 :: es) (tWA L gg) ∧
      starEach (e1 :: es) (lcx P w L.K mg base N qual scope cl f c A outer s H E).env = (false, eval e1 (lcx P w L.K mg base N qual scope cl f c A outer s H E).env) :: starEach es (lcx P w L.K mg base N qual scope cl f c A outer s H E).env ∧
      (backTo pos (starEach es (lcx P w L.K mg base N qual scope cl f c A outer s H E).env)).any (·.1) = false)
    (hgr : ∀ kk xx, F'.f [] kk xx → gg.f (ent cds n) fun ds _ => F.f ds kk xx) (hd : (x == ("__debug__" : Str)) = false := by decide) (hcd' : (x == ("__classdict__" : Str)) = false := by decide) : LamG P w L.K mg base (L2.CX P w) (k + 1) f (spLamE L T G0 F') := by
  obtain ⟨⟨pm, ctv, ho⟩, Cp, hcode⟩ := at_
  refine ⟨⟨_, _, _, _, ho⟩, ?_⟩
  rintro A outer s H us vs Q E hr hgu e0 rv ⟨rfl, G, s0, sG, hW⟩
  cases rv
  refine run_lam (us := []) (vs := []) (ps := []) LN Cp ho (hbind pm ctv) hr e0 rfl .nil (sG _ _ (s0 _ _ hcode)) fun hr2 => ?_
  obtain ⟨hvi, hp, he, hpl⟩ := hpa A outer s H E
  refine ⟨_, pe_vgS (X := lcx P w L.K mg base N qual scope cl f c A outer s H E) (E := fun _ => E) Fg kp b hr2 (Nat.le_refl _) hgu hx hvi (fun σ => passAt (takes_of (X := lcx P w L.K mg base N qual scope cl f c A outer s H E) (E := E) rfl rfl rfl rfl) σ) hp hd hcd' he hpl, ?_⟩
  have hst : L2.start N (([] : List V) ++ ws) = ws.map some ++ List.replicate n none := by
    unfold L2.start
    rw [List.nil_append, hN, Cp.len, Nat.add_sub_cancel_left]
  rw [hst]
  refine ⟨?_, ⟨M0, G, H, [], []⟩, G, ent cds n, rep_ent sG (dvs_same s0 hcd), gg.mono (fun ds ρ1 h1 vs G1 H1 r1 s1 d1 => ⟨G1, ds, r1.gh, d1, F.mono (fun z hz => AnsE.go r1.gr hz) (fun e he => OutE.go r1.gr he) h1⟩) (hgr _ _ hW)⟩
  obtain ⟨v, hv1, hv2⟩ := dvs_at hcd hci
  obtain rfl := fnD_dv LV hv2
  rw [List.getElem?_append_left (by rw [List.length_map]; exact (List.getElem?_eq_some_iff.mp hv1).1), List.getElem?_map, hv1]
  rfl
end
/-! ## isinstance of what was caught; its field -/
section
variable {X : Cx} {L : Ly} {T : Xt} {e : Expr}
def isErr (T : Xt) (K : Frag) (C : Addr) (d : Da) (b : Bool) : Prop := (d = .non ∧ b = false) ∨ ∃ e : Ed, d = edD e ∧ PySem.W.kitOne K (.ref (T e.n).1) (.ref C) = some b
theorem w_isE (LE : LyE L T) {C : Addr} (xc : ∀ n, ExcC L.K (T n).1) (kN : PySem.W.kitOne L.K (.type "NoneType") (.ref C) = some false) {g : Px} (p : PE X e (tCB (Fv.rIsB L.K) (tCons (tW L g) (tCons (tC (.ref C)) tNil)))) : PE X e (tW L (pIsi (isErr T L.K C) g)) :=
  PE.imp p fun σ H Q ⟨B, G, ρ, r, h⟩ => ⟨B, G, ρ, r, g.mono (fun d ρ1 ⟨b, ha, h1⟩ v G1 H1 r1 s1 d1 => by
    rcases ha with ⟨rfl, rfl⟩ | ⟨x, rfl, hk⟩
    · cases d1
      exact .inl ⟨.non, .ref C, .type "NoneType", .ref C, false, rfl, .own C, .base .non, kN, h1 _ _ _ r1 s1 (.bl false)⟩
    · cases d1 with
      | obj o t =>
        obtain ⟨a, rfl, q⟩ := LE.err.mp o
        rcases q with ⟨_, q1, _⟩ | ⟨nm, dd, p, _, q1, q2, _⟩
        · exact .inr ⟨a, (T x.n).1, none, .ref C, .ref C, b, rfl, .inl (r1.gh _ _ q1), (fun d' z => by cases z), xc x.n, (fun u ru => ru), hk, h1 _ _ _ r1 s1 (.bl b)⟩
        · refine .inr ⟨a, (T x.n).1, some dd, .ref C, .ref C, b, rfl, .inl (r1.gh _ _ q1), (fun d' z => ?_), xc x.n, (fun u ru => ru), hk, h1 _ _ _ r1 s1 (.bl b)⟩
          cases z
          exact ⟨_, .inl (r1.gh _ _ q2)⟩) h⟩
/-- err.part -/
def pErr (n : Nat) (g : Px) : Px := ⟨fun ρ k => g.f ρ fun d ρ1 => ∃ x, d = edD ⟨n, [x]⟩ ∧ k x ρ1, fun h => g.mono fun _ _ ⟨x, a, q⟩ => ⟨x, a, h _ _ q⟩⟩
theorem w_err (LE : LyE L T) {n : Nat} {nm : Str} (hn : (T n).2 = some nm) (xf : XfC L.K (T n).1) (no : PySem.W.findIn L.K (.ref (T n).1) nm = some none) {g : Px} (p : PE X e (tXv L.K nm (tW L g))) : PE X e (tW L (pErr n g)) :=
  PE.imp p fun σ H Q ⟨B, G, ρ, r, h⟩ => ⟨B, G, ρ, r, g.mono (fun d ρ1 ⟨x, hd, h1⟩ v G1 H1 r1 s1 d1 => by
    subst hd
    cases d1 with
    | obj o t =>
      obtain ⟨a, rfl, q⟩ := LE.err.mp o
      rcases q with ⟨q1, _⟩ | ⟨nm', dd, p, q0, q1, q2, rfl⟩
      · have q1 : (T n).2 = none := q1
        rw [hn] at q1
        cases q1
      · have q0 : (T n).2 = some nm' := q0
        rw [hn] at q0
        cases q0
        cases t with
        | cons dp t =>
          refine ⟨a, (T n).1, dd, _, p, rfl, .inl (r1.gh _ _ q1), .inl (r1.gh _ _ q2), xf, no, ?_, h1 _ _ _ r1 s1 dp⟩
          simp only [List.lookup, beq_self_eq_true]) h⟩
end
end Fw
namespace Fv
open PySem PySem.Spec PyProof.Rows L2 Fr Fw Fs
section
variable {P : Program} {w : World} {L : Ly} {T : Xt} {mg : Str → Option Value} {base : Heap} {f g : Addr} {fd : FuncData} {cF : Addr} {G0 : Hp} {F : Pe}
theorem ok_caughtE {kl : Nat} (LE : LyE L T) (Fd : C8.Def L.K mg "_law_caught" s_law_caught g fd) (b : Binds L.K fd ["work"] []) (gF : mg "FlatError" = some (.ref cF)) (eF : ∀ n, PySem.W.exmOne L.K (.ref (T n).1) (.ref cF) = some true)
    (cl : LamG P w L.K mg base (L2.CX P w) kl f (spLamE L T G0 F)) : CalG P w L.K mg base C8.CX0 (kl + 1) "_law_caught" (spF (L.lam f G0) (fCaE F)) := by
  have sc := sc_law_caught
  refine calGc Fd b sc ?_ ?_
  · rintro vs H Q E ⟨G, ds, _, dv, rfl, _⟩
    exact dvs_len dv
  · rintro cdv A outer s H vs Q E hcd hr hgu ⟨G, ds, sG, dv, rfl, hW⟩
    obtain ⟨v, rfl, hv⟩ : ∃ v, vs = [v] ∧ Dv (L.lam f G0) G v lamD := by
      cases dv with
      | cons d t =>
        cases t
        exact ⟨_, rfl, d⟩
    obtain ⟨rfl, s0⟩ := dv_lam hv
    refine ⟨_, pss_cons (ps_set (i := 1) sc.nd rfl (by first | exact Or.inl rfl | exact Or.inr rfl) pe_non)
      (pss_cons (ps_try_keep (i := 2) (Wout := fun _ _ _ _ => False) rfl rfl rfl sc.nd rfl rfl ⟨rfl, by decide, .inl gF⟩ (fun _ _ ⟨_, _, _, _, _, _, _, _, _, _, _, _, _, _, _, _, z⟩ => z.elim)
        (fun W pn xe tk _ => pss_one (ps_expr (pe_vS (i := 0) cl hr (Nat.le_refl _) hgu rfl (Or.inl rfl) (fun σ => passAt tk σ))))
        (fun a oe cls d pn _ _ => pss_one (ps_set (i := 1) sc.nd rfl (by first | exact Or.inl rfl | exact Or.inr rfl) (pv 2))))
      (pss_one (ps_ret (pv 1)))), ?_⟩
    refine ⟨rfl, rfl, G, s0, sG, F.mono ?_ ?_ hW⟩
    · intro z hz
      cases z with
      | dat d => exact fun v G' H' gr _ => ⟨.non, rfl, hz .non G' H' gr .non⟩
      | new es => exact fun p us G' H' gr _ _ _ _ => ⟨.non, rfl, hz .non G' H' gr .non⟩
    · rintro e ⟨h9, he⟩
      show OutC L G H _ (T e.n).1 e.ds (T e.n).2
      cases hT : (T e.n).2 with
      | none =>
        intro hds G' H' gr
        refine ⟨true, eF e.n, fun _ => ⟨(T e.n).1, rfl, fun a na => ⟨.ref a, rfl, .ref a, rfl, ?_⟩⟩, fun q => by cases q⟩
        exact he _ (upd G' a (exv a (T e.n).1 none)) _ (gr.trans (Grow.lay gr.gh na)) (.obj (.inr ⟨by omega, LE.err.mpr ⟨a, rfl, .inl ⟨hT, upd_same, rfl⟩⟩⟩) (by rw [hds]; exact .nil))
      | some nm =>
        intro dx v d G' H' hd gr hx hv
        refine ⟨true, eF e.n, fun _ => ⟨(T e.n).1, rfl, fun a na => ⟨.ref a, rfl, .ref a, rfl, ?_⟩⟩, fun q => by cases q⟩
        have ne : dx ≠ a := fun z => by
          have := gr.gh _ _ hx
          rw [z, na] at this
          cases this
        exact he _ (upd G' a (exv a (T e.n).1 (some dx))) _ (gr.trans (Grow.lay gr.gh na)) (.obj (.inr ⟨by omega, LE.err.mpr ⟨a, rfl, .inr ⟨nm, dx, v, hT, upd_same, by rw [upd_ne ne]; exact hx, rfl⟩⟩⟩) (by rw [hd]; exact .cons (dv_same (same_upd (gr.gh.free na)) (dv_to hv (by rw [hd] at h9; exact (Bool.and_eq_true_iff.mp h9).1))) .nil))
end
end Fv
namespace Fw
open PySem PySem.Spec PyProof.Rows L2 Fr Fv
/-! # sorted of tuples of numbers of any lengths: none empty, or the first one -/
theorem lex_lexI : ∀ a b : List Int, HT.lexLt a b = lexI a b
  | [], [] => rfl
  | [], _ :: _ => rfl
  | _ :: _, [] => rfl
  | x :: a, y :: b => by
    rw [HT.lexLt_cons, lex_lexI a b]
    rfl
theorem paired_of {α β : Type} {F : α → β → Prop} : ∀ {l : List α} {m : List β}, l.length = m.length → (∀ (i : Nat) (a : α) (b : β), l[i]? = some a → m[i]? = some b → F a b) → Paired F l m
  | [], [], _, _ => .nil
  | [], _ :: _, h, _ => by cases h
  | _ :: _, [], h, _ => by cases h
  | a :: l, b :: m, h, f => .cons (f 0 a b rfl rfl) (paired_of (by simpa using h) fun i x y h1 h2 => f (i + 1) x y (by simpa using h1) (by simpa using h2))
section
variable {prog : Program} {w : World} {A : Around} {E : Value → Shared → Prop} {s : Shared}
theorem kat_intsA {Q : Bool → Shared → Prop} {fin : Bool} : ∀ {us vs : List Value} {ns ms : List Int} (i : Nat), IntsAre us ns → IntsAre vs ms → fin = decide (ns.length < ms.length) → Q (lexI ns ms) s → PySem.W.KatLex prog w A true fin Q (us.zip vs) i s
  | _, _, [], [], i, .nil, .nil, h, q => PySem.W.kat_nil (by rw [h]; exact q)
  | _, _, [], _ :: _, i, .nil, .cons _ _ _, h, q => by
    rw [List.zip_nil_left]
    refine PySem.W.kat_nil ?_
    have e : fin = true := by rw [h]; exact decide_eq_true (by simp)
    rw [e]
    exact q
  | _, _, _ :: _, [], i, .cons _ _ _, .nil, h, q => by
    rw [List.zip_nil_right]
    refine PySem.W.kat_nil ?_
    have e : fin = false := by rw [h]; exact decide_eq_false (by simp)
    rw [e]
    exact q
  | _, _, n :: ns, m :: ms, i, .cons _ t r, .cons _ u r', hl, q => by
    have q : Q (if n = m then lexI ns ms else decide (n < m)) s := q
    refine PySem.W.kat_cons (SeqAt.EqAt.int_int n t m u prog w _ _ (PySem.W.kat_go (fun e => ?_) fun e => ?_))
    · have e : n = m := by simpa using e
      rw [if_pos e] at q
      exact PySem.W.kat_yes (kat_intsA (i + 1) r r' (by simpa using hl) q)
    · have e : ¬ n = m := by simpa using e
      rw [if_neg e] at q
      refine PySem.W.kat_no ?_
      cases hi : (true && i == 0) with
      | true => exact oneLt_int q
      | false => exact PySem.W.kat_one _ _ (lt_int q)
theorem tups_cmpA {vs : List Value} (hv : ∀ v ∈ vs, ∃ ns, TS.TupInts s.heap v ns) : SrtO.Cmp prog w A s (tuples' true) (fun p => p.1 ∈ vs) (SrtO.lt2 (ltT s.heap)) := by
  intro p q hp hq
  obtain ⟨ns, t1⟩ := hv _ hp
  obtain ⟨ms, t2⟩ := hv _ hq
  show wpAny (model prog w) A (keyLt' (tuples' true) p.1 q.1) (fun r s' => s' = s ∧ r = lexI (TS.intsOf s.heap p.1) (TS.intsOf s.heap q.1)) (fun _ _ => False) s
  rw [t1.ints, t2.ints]
  obtain ⟨a, xs, e1, ⟨o, ho, hc, n, hd⟩, i1⟩ := t1
  obtain ⟨b, ys, e2, ⟨o2, ho2, hc2, n2, hd2⟩, i2⟩ := t2
  rw [e1, e2]
  refine PySem.W.kat_lt ho hd ho2 hd2 ?_
  have s1 : xs.size = ns.length := by
    have := i1.length
    rwa [Array.length_toList] at this
  have s2 : ys.size = ms.length := by
    have := i2.length
    rwa [Array.length_toList] at this
  rw [s1, s2]
  exact kat_intsA 0 i1 i2 rfl ⟨rfl, rfl⟩
theorem call_ltT {a b : Addr} {dd dd2 : Option Addr} {items items2 : Array Value} {n n2 : Nat} {sl sl2 : Array (Option Value)} {ns ms : List Int} {Q : Value → Shared → Prop} (ga : s.heap.get? a = some { cls := .type "tuple", dict := dd, data := .seq items n, slots := sl })
    (gb : s.heap.get? b = some { cls := .type "tuple", dict := dd2, data := .seq items2 n2, slots := sl2 }) (ia : IntsAre items.toList ns) (ib : IntsAre items2.toList ms) (iv : PySem.W.Looks (model prog w) s.heap (isInstance (.ref a) (.type "tuple")) true)
    (iu : ∀ M : Model, PySem.W.Looks M s.heap (isInstance (.ref b) (.type "tuple")) true) (h : Q (.bool (HT.lexLt ns ms)) s) : wpAny (model prog w) A (call (.builtin "tuple.__lt__") [.ref a, .ref b]) Q E s := by
  refine wpAny_call (codeAny_call_builtin PySem.F.slot_tuple_lt.plain PySem.F.entry_tuple_lt (@PySem.W.check_slot (model prog w) _ _ _ "tuple.__lt__" "tuple" "__lt__" (.ref a) [.ref b] [] _ (by decide +kernel) (by decide +kernel) iv (PySem.F.args_tuple_lt_2 _ _) ?_))
  refine wpAny_mono (NtL.nt_lt_ints a b (.type "tuple") (.type "tuple") items items2 n n2 dd dd2 sl sl2 ns ms ia ib prog w _ (wants Q E) s ⟨ga, gb, iu, h⟩) (fun fin s' q => ?_) fun _ _ z => z
  cases fin with
  | done f => exact q
  | again c => exact q
/-- < of two tuples where all keys are of one class -/
theorem lt_tup {v u : Value} {ns ms : List Int} {Q : Bool → Shared → Prop} (hu : A.units < cLine) (t1 : TS.TupInts s.heap v ns) (t2 : TS.TupInts s.heap u ms) (h : Q (lexI ns ms) s) : wpAny (model prog w) A (keyLt' oneType' v u) Q E s := by
  obtain ⟨a, xs, rfl, ⟨o, ho, hc, n, hd⟩, i1⟩ := t1
  obtain ⟨b, ys, rfl, ⟨o2, ho2, hc2, n2, hd2⟩, i2⟩ := t2
  obtain ⟨oc, od, oda, osl⟩ := o
  obtain ⟨oc2, od2, oda2, osl2⟩ := o2
  dsimp only at hc hd hc2 hd2
  subst hc hd hc2 hd2
  have tv : ∀ M : Model, PySem.W.Looks M s.heap (typeOf (.ref a)) (.type "tuple") := fun M => (PySem.W.Looks.ld ho).andThen .now
  have tu : ∀ M : Model, PySem.W.Looks M s.heap (typeOf (.ref b)) (.type "tuple") := fun M => (PySem.W.Looks.ld ho2).andThen .now
  have sp : PySem.W.Looks (model prog w) s.heap (specialOf (.ref a) "__lt__") (some (.builtin "tuple.__lt__")) := (tv _).andThen (PySem.W.Looks.of_pure PySem.F.slot_tuple_lt.lookup)
  have sub : ∀ {M : Model} {z : Value}, PySem.W.Looks M s.heap (typeOf z) (.type "tuple") → PySem.W.Looks M s.heap (isInstance z (.type "tuple")) true := fun {M z} t => t.andThen (PySem.W.Looks.of_pure PySem.F.sub_tuple_tuple)
  rw [keyLt'_oneType, oneLt'_eq]
  simp only [if_true]
  refine wpAny_bind (wpAny_cRoomFor hu ?_)
  refine wpAny_bind (NtL.csib (E := E) sp (PySem.F.slot_tuple_lt.bind _) ?_)
  refine call_ltT ho ho2 i1 i2 (sub (tv _)) (fun M => sub (tu M)) ?_
  rw [lex_lexI]
  exact wpAny_truthy_bool h
theorem paired_mem2 {α β : Type} {F : α → β → Prop} : ∀ {l : List α} {m : List β} {a : α}, Paired F l m → a ∈ l → ∃ b ∈ m, F a b
  | _, _, _, .nil, h => by cases h
  | _, _, _, .cons h t, hb => by
    rcases List.mem_cons.mp hb with e | hb
    · exact ⟨_, List.mem_cons_self, by rw [e]; exact h⟩
    · obtain ⟨a, h1, h2⟩ := paired_mem2 t hb
      exact ⟨a, List.mem_cons_of_mem _ h1, h2⟩
theorem firstsA {M : Model} : ∀ {vs : List Value} {nss : List (List Int)} {Q : List (Option Value) → Shared → Prop}, Paired (fun v ns => TS.TupInts s.heap v ns) vs nss →
    (∀ fs : List (Option Value), Paired (fun f (ns : List Int) => f.isSome = !ns.isEmpty) fs nss → Q fs s) → wpAny M A (vs.mapM firstOfTuple') Q E s
  | [], [], _, _, h => by
    rw [List.mapM_nil]
    exact wpAny_pure (h [] .nil)
  | v :: vs, ns :: nss, Q, .cons t r, h => by
    obtain ⟨a, xs, rfl, ⟨o, ho, hc, n, hd⟩, i1⟩ := t
    rw [List.mapM_cons]
    refine wpAny_bind ?_
    rw [PySem.W.kas_first_eq]
    refine wpAny_bind (PySem.W.Looks.here (show PySem.W.Looks M s.heap (typeOf (.ref a)) o.cls from (PySem.W.Looks.ld ho).andThen .now) ?_)
    rw [hc, if_neg (by first | decide | simp)]
    refine wpAny_bind (listItems_at ho hd (wpAny_pure ?_))
    refine wpAny_bind (firstsA (Q := fun bs s' => wpAny M A (pure (xs[0]? :: bs)) Q E s') r fun fs hp => wpAny_pure (h _ (.cons ?_ hp)))
    rw [← Array.getElem?_toList]
    cases i1' : xs.toList with
    | nil =>
      rw [i1'] at i1
      cases i1
      rfl
    | cons z zs =>
      rw [i1'] at i1
      cases i1
      rfl
/-- the empty one first: all of one class -/
theorem kind_one {M : Model} {vs : List Value} {nss : List (List Int)} {Q : SortKind → Shared → Prop} (h : Paired (fun v ns => TS.TupInts s.heap v ns) vs ([] :: nss)) (q : Q oneType' s) : wpAny M A (keyKind' vs.toArray) Q E s := by
  rw [PyProof.Rows.kat_kind_eq, List.mapM_toArray, map_eq_pure_bind]
  refine wpAny_bind (wpAny_bind (firstsA h fun fs hf => wpAny_pure ?_))
  cases hf with
  | @cons f _ fs' _ hf0 hr =>
    have e : f = none := by
      cases f with
      | none => rfl
      | some z => cases hf0
    subst e
    have h1 : ((none :: fs').toArray.all fun x : Option Value => x.isSome) = false := by simp
    rw [if_neg (by rw [h1]; decide)]
    have h2 : ((none :: fs').toArray[0]?.bind id : Option Value) = none := by simp
    rw [h2]
    simp only [Option.isSome_none, Bool.false_eq_true, if_false]
    cases h with
    | @cons v _ vs' _ hv hvs =>
      rw [oneTypeOnly'_eq, List.mapM_toArray, map_eq_pure_bind]
      have ht : ∀ u ∈ v :: vs', PySem.W.Looks M s.heap (typeOf u) (.type "tuple") := fun u hu => by
        obtain ⟨ns, _, ⟨a, xs, rfl, ⟨o, ho, hc, n, hd⟩, _⟩⟩ := paired_mem2 (.cons hv hvs) hu
        rw [← hc]
        exact (PySem.W.Looks.ld ho).andThen .now
      refine wpAny_bind (wpAny_bind (wpAny_bind (PySem.W.kas_mapM (r := .type "tuple") _ (fun u hu Q' hq => (ht u hu).here hq) (wpAny_pure ?_))))
      have hall2 : ((List.map (fun _ => Value.type "tuple") (v :: vs')).toArray.all fun x => x == Value.type "tuple") = true := by
        simp only [List.all_toArray, List.all_map, List.all_eq_true]
        intro _ _
        rfl
      have h0 : (List.map (fun _ => Value.type "tuple") (v :: vs')).toArray[0]? = some (.type "tuple") := by simp
      rw [h0]
      simp only [hall2, if_true]
      exact wpAny_pure (wpAny_pure q)
theorem tups_firstsA {h : Heap} : ∀ {vs : List Value} {nss : List (List Int)}, Paired (fun v ns => TS.TupInts h v ns) vs nss → (∀ t ∈ nss, t ≠ []) → ∃ fs, PySem.W.KatTups h vs fs ∧ fs.length = vs.length ∧ ∀ f ∈ fs, ∃ n t, f = Value.int n t
  | [], _, _, _ => ⟨[], PySem.W.KatTups.nil, rfl, fun f hf => by cases hf⟩
  | v :: vs, ns :: nss, .cons t r, hn => by
    obtain ⟨fs, k, hl, hi⟩ := tups_firstsA r fun u hu => hn u (List.mem_cons_of_mem _ hu)
    obtain ⟨a, xs, rfl, ⟨o, ho, hc, n, hd⟩, i⟩ := t
    have hne := hn ns List.mem_cons_self
    cases ns with
    | nil => exact absurd rfl hne
    | cons z zs =>
      generalize hxs : xs.toList = l at i
      cases i with
      | cons _ t r =>
        have h0 : xs[0]? = some (Value.int z t) := by
          rw [← Array.getElem?_toList, hxs]
          rfl
        refine ⟨Value.int z t :: fs, PySem.W.KatTups.cons ho hc hd h0 k, by rw [List.length_cons, List.length_cons, hl], fun f hf => ?_⟩
        rcases List.mem_cons.mp hf with e | hf
        · exact ⟨z, t, e⟩
        · exact hi f hf
def SortOk (ts : List (List Int)) : Prop := (∀ t ∈ ts, t ≠ []) ∨ ∃ r, ts = [] :: r
theorem paired_keep {vs : List Value} {nss : List (List Int)} {h h' : Heap} (kp : ∀ b o, h.get? b = some o → o.cls = .type "tuple" → h'.get? b = some o) (r : Paired (fun v ns => TS.TupInts h v ns) vs nss) : Paired (fun v ns => TS.TupInts h' v ns) vs nss :=
  Paired.mapP r fun a b t => t.keeps kp
theorem tups_sortA {a : Addr} {vs : List Value} {nss : List (List Int)} (hu : A.units < cLine) (h2 : 2 ≤ vs.length) (hk : SortOk nss) (hv : Paired (fun v ns => TS.TupInts s.heap v ns) vs nss) (ha : ∀ o, s.heap.get? a = some o → o.cls ≠ .type "tuple") : SrtO.SortableO prog w A s a vs (ltT s.heap) := by
  intro h' keep
  have kp : ∀ b o, s.heap.get? b = some o → o.cls = .type "tuple" → h'.get? b = some o := fun b o e c => keep b o (fun z => ha o (by rw [← z]; exact e) c) e
  have hv' := paired_keep kp hv
  have all' : ∀ v ∈ vs, ∃ ns, TS.TupInts s.heap v ns ∧ TS.TupInts h' v ns := fun v hm => by
    obtain ⟨ns, _, t⟩ := paired_mem2 hv hm
    exact ⟨ns, t, t.keeps kp⟩
  have conv : ∀ {κ}, SrtO.Cmp prog w A { s with heap := h' } κ (fun p => p.1 ∈ vs) (SrtO.lt2 (ltT h')) → SrtO.Cmp prog w A { s with heap := h' } κ (fun p => p.1 ∈ vs) (SrtO.lt2 (ltT s.heap)) := fun {κ} c p q hp hq => by
    have z := c p q hp hq
    obtain ⟨ns, t1, t1'⟩ := all' _ hp
    obtain ⟨ms, t2, t2'⟩ := all' _ hq
    have e : SrtO.lt2 (ltT h') p q = SrtO.lt2 (ltT s.heap) p q := by
      show lexI (TS.intsOf h' p.1) (TS.intsOf h' q.1) = lexI (TS.intsOf s.heap p.1) (TS.intsOf s.heap q.1)
      rw [t1.ints, t2.ints, t1'.ints, t2'.ints]
    rw [← e]
    exact z
  rcases hk with hk | ⟨r, rfl⟩
  · obtain ⟨fs, f1, f2, f3⟩ := tups_firstsA hv' hk
    refine ⟨tuples' true, fun Q E hq => ?_, conv (tups_cmpA (s := { s with heap := h' }) fun v hm => (all' v hm).imp fun ns t => t.2)⟩
    refine PySem.W.kat_kind (T := .type "int") f1 (by omega) (fun f hf => ?_) (by rfl) ?_
    · obtain ⟨n, t, rfl⟩ := f3 f hf
      exact PySem.W.Looks.now
    · have e : (Value.type "int" != Value.type "tuple") = true := by first | decide +kernel | rfl | decide
      rw [e]
      exact hq
  · refine ⟨oneType', fun Q E hq => kind_one hv' hq, conv fun p q hp hq => ?_⟩
    obtain ⟨ns, t1, t1'⟩ := all' _ hp
    obtain ⟨ms, t2, t2'⟩ := all' _ hq
    refine lt_tup (s := { s with heap := h' }) hu t1' t2' ?_
    refine ⟨rfl, ?_⟩
    show lexI ns ms = lexI (TS.intsOf h' p.1) (TS.intsOf h' q.1)
    rw [t1'.ints, t2'.ints]
end
def rSortedTA (K : Frag) : List V → Hp → VK → Prop := fun vs H Q => ∃ (R : V → List Int → Prop) (a : Addr) (xs : List V) (ts : List (List Int)), vs = [V.ref a] ∧ SqL K H a xs ∧ Paired (fun x t => R x t ∧ TupV K H x t) xs ts ∧ SortOk ts ∧
  ∀ (zs : List V) (ts' : List (List Int)) (p : Addr), Paired R zs ts' → ts'.Perm ts → ts'.Pairwise (fun a b => lexI b a = false) → H p = none → Q (.ref p) (upd H p (.lst zs))
section
variable {X : Cx}
theorem cr_sortedTA (hu : X.A.in1.in1.units < cLine) : CallR X (.builtin "sorted") (rSortedTA X.K) := by
  intro pins s σ H vs us Q I r h
  obtain ⟨R, a, xs, ts, rfl, hs, hp, hk, q⟩ := h
  obtain ⟨its, rv, hL, hz⟩ := I.list hs
  rw [Vals.ref1 r]
  -- the items' ints
  have hlen : its.length = ts.length := by rw [← rv.length, Paired.length hp]
  have item : ∀ (i : Nat) (u : Value), its[i]? = some u → ∃ (x : V) (t : List Int) (p : Addr), xs[i]? = some x ∧ ts[i]? = some t ∧ R x t ∧ x = V.ref p ∧ u = Value.ref p ∧ TS.TupInts s.heap u t := by
    intro i u hu
    have hi : i < xs.length := by
      rw [rv.length]
      exact (List.getElem?_eq_some_iff.mp hu).1
    have hx := List.getElem?_eq_getElem hi
    obtain ⟨u', hu', ru⟩ := rv.get hx
    rw [hu] at hu'
    cases hu'
    obtain ⟨t, ht, hR, p, e, hS⟩ := paired_at hp hx
    rw [e] at ru
    cases ru
    exact ⟨_, t, p, hx, ht, hR, e, rfl, tupInts_of (P := X.prog) (w := X.w) (I.isT hS)⟩
  have hv : ∀ v ∈ its, ∃ ns, TS.TupInts s.heap v ns := fun v hm' => by
    obtain ⟨i, hi⟩ := List.mem_iff_getElem?.mp hm'
    obtain ⟨x, t, p, h1, h2, _, _, _, h3⟩ := item i v hi
    exact ⟨t, h3⟩
  have ets : its.map (TS.intsOf s.heap) = ts := by
    refine List.ext_getElem? fun i => ?_
    rw [List.getElem?_map]
    cases hu : its[i]? with
    | none =>
      have : ¬ i < its.length := fun z => by
        rw [List.getElem?_eq_getElem z] at hu
        cases hu
      rw [List.getElem?_eq_none (by omega)]
      rfl
    | some u =>
      obtain ⟨x, t, p, _, h2, _, _, _, h3⟩ := item i u hu
      rw [h2, Option.map_some, h3.ints]
  refine SrtO.sorted_ord (swo_T s.heap) hL.isList (by rw [← rv.length]; exact hz) (fun h2 h₁ a' ha kk => ?_) fun out o1 o2 => ?_
  · have kp : ∀ b o, s.heap.get? b = some o → o.cls = .type "tuple" → h₁.get? b = some o := fun b o e _ => (kk b o e).2
    have hpt : Paired (fun v ns => TS.TupInts h₁ v ns) its ts := by
      refine paired_of hlen fun i v ns h1 h2 => ?_
      obtain ⟨x, t, p, _, h3, _, _, _, h4⟩ := item i v h1
      rw [h2] at h3
      cases h3
      exact h4.keeps kp
    have hS := tups_sortA (prog := X.prog) (w := X.w) (A := X.A.in1.in1) (s := { s with heap := h₁ }) (a := a') hu h2 hk hpt fun o e => by
        have e' : some o = some (seqObj "list" its.toArray 0) := e.symm.trans ha
        cases e'
        intro c
        exact absurd (Value.type.inj c) (by decide)
    intro h' keep
    obtain ⟨κ, k1, k2⟩ := hS h' keep
    refine ⟨κ, k1, fun p q hp hq => ?_⟩
    have z := k2 p q hp hq
    obtain ⟨ns, t1⟩ := hv _ hp
    obtain ⟨ms, t2⟩ := hv _ hq
    have e : SrtO.lt2 (ltT h₁) p q = SrtO.lt2 (ltT s.heap) p q := by
      show lexI (TS.intsOf h₁ p.1) (TS.intsOf h₁ q.1) = lexI (TS.intsOf s.heap p.1) (TS.intsOf s.heap q.1)
      rw [t1.ints, t2.ints, (t1.keeps kp).ints, (t2.keeps kp).ints]
    rw [← e]
    exact z
  · obtain ⟨ep, he'⟩ := sortedAll_at s.heap its out.toArray
    have pm := o2.perm
    have refs : ∀ u ∈ out, ∃ p, u = Value.ref p := fun u hu => by
      obtain ⟨i, hi⟩ := List.mem_iff_getElem?.mp (pm.mem_iff.mp hu)
      obtain ⟨x, t, p, _, _, _, _, h3, _⟩ := item i u hi
      exact ⟨p, h3⟩
    have hzl : (out.map bkV).length ≤ sizeLine := by
      rw [List.length_map, pm.length_eq, ← rv.length]
      exact hz
    have hpr : Paired R (out.map bkV) (out.map (TS.intsOf s.heap)) := by
      have : ∀ l : List Value, (∀ u ∈ l, u ∈ its) → Paired R (l.map bkV) (l.map (TS.intsOf s.heap)) := by
        intro l
        induction l with
        | nil => intro _; exact .nil
        | cons u l ih =>
          intro hl
          obtain ⟨i, hi⟩ := List.mem_iff_getElem?.mp (hl u List.mem_cons_self)
          obtain ⟨x, t, p, _, _, hR, e1, e2, h3⟩ := item i u hi
          refine .cons ?_ (ih fun v hv' => hl v (List.mem_cons_of_mem _ hv'))
          rw [h3.ints, e2]
          show R (V.ref p) t
          rw [← e1]
          exact hR
      exact this out fun u hu => pm.mem_iff.mp hu
    refine ⟨.ref _, upd H (s.heap.objs.size + 1) (.lst (out.map bkV)), I.laid (t' := s.toks) (fun _ _ => sortedAll_old) (Nat.le_succ _) ⟨hzl, out, ep, bkV_vals refs, he'⟩, rfl, q _ _ _ hpr ?_ ?_ (I.hok.fresh (Nat.le_succ _))⟩
    · have := pm.map (TS.intsOf s.heap)
      rwa [ets] at this
    · exact List.pairwise_map.mpr o1
end
def pSortA (g : Px) : Px := ⟨fun ρ k => g.f ρ fun d ρ1 => ∃ ts : List (List Int), d = lti ts ∧ SortOk ts ∧ ∀ ts' : List (List Int), ts'.Perm ts → ts'.Pairwise (fun a b => lexI b a = false) → k (lti ts') ρ1,
  fun h => by
    refine g.mono ?_
    rintro d ρ1 ⟨ts, a, b, q⟩
    exact ⟨ts, a, b, fun ts' p1 p2 => h _ _ (q ts' p1 p2)⟩⟩
theorem w_sortA {X : Cx} {L : Ly} {e : Expr} {g : Px} (p : PE X e (tCB (rSortedTA L.K) (tCons (tW L g) tNil))) : PE X e (tW L (pSortA g)) := PE.imp p fun σ H Q ⟨B, G, ρ, r, h⟩ => by
  refine ⟨B, G, ρ, r, g.mono ?_ h⟩
  rintro d ρ1 ⟨ts, rfl, h1, q⟩ v G1 H1 r1 s1 d1
  obtain ⟨a, xs, rfl, hs, ha⟩ := dv_lst d1
  refine ⟨fun x t => Dv L G1 x (ti t), a, xs, ts, rfl, .inl (.inl (r1.gh _ _ hs)), dvs_lti r1.gh ha, h1, fun zs ts' p hz p1 p2 hp => ?_⟩
  have s2 := same_upd (r1.gh.free hp) (o := .lst zs)
  exact q ts' p1 p2 _ _ _ (r1.lay hp) (s1.trans s2) (.lst upd_same (dvs_same s2 (lti_dvs hz)))
/-- .. a new list -/
def plSortA (g : Px) : Pl := ⟨fun ρ k => g.f ρ fun d ρ1 => ∃ ts : List (List Int), d = lti ts ∧ SortOk ts ∧ ∀ ts' : List (List Int), ts'.Perm ts → ts'.Pairwise (fun a b => lexI b a = false) → k (ts'.map ti) ρ1,
  fun h => by
    refine g.mono ?_
    rintro d ρ1 ⟨ts, a, b, q⟩
    exact ⟨ts, a, b, fun ts' p1 p2 => h _ _ (q ts' p1 p2)⟩⟩
theorem w_nsortA {X : Cx} {L : Ly} {e : Expr} {g : Px} (p : PE X e (tCB (rSortedTA L.K) (tCons (tW L g) tNil))) : PE X e (tWN L (plSortA g)) := PE.imp p fun σ H Q ⟨B, G, ρ, r, h⟩ => by
  refine ⟨B, G, ρ, r, g.mono ?_ h⟩
  rintro d ρ1 ⟨ts, rfl, h1, q⟩ v G1 H1 r1 s1 d1
  obtain ⟨a, xs, rfl, hs, ha⟩ := dv_lst d1
  refine ⟨fun x t => Dv L G1 x (ti t), a, xs, ts, rfl, .inl (.inl (r1.gh _ _ hs)), dvs_lti r1.gh ha, h1, fun zs ts' p hz p1 p2 hp => ?_⟩
  exact q ts' p1 p2 p zs G1 _ (r1.kp hp) (r1.h0 hp) (fun q hq e => by
    have := (r1.ks q hq).1
    rw [e, hp] at this
    cases this) s1 (lti_dvs hz)
end Fw
namespace Fw
open PySem PySem.Spec PyProof.Rows L2 Fr
theorem fnE {L : Ly} {T : Xt} {P : Program} {w : World} {mg : Str → Option Value} {base : Heap} {x : Str} {st : Stmt} {f : Addr} {fd : FuncData} {N ps : List Str} {k n : Nat} {F : Pe} (Fd : C8.Def L.K mg x st f fd) (S : FnScope N ps (C8.fnScope st))
    (hlen : ∀ ds k x, F.f ds k x → ds.length = ps.length) (hN : ∀ vs : List V, vs.length = ps.length → L2.start N vs = vs.map some ++ List.replicate n none)
    (hbody : ∀ (cdv : Value) (A : Around) (outer : List Env) (s : Shared) (G H : Hp) (E : XK), Room k (A.deeper (envOfC x (C8.fnScope st) s.heap.objs.size f cdv)) → A.guards = some [] →
      Takes (cxOf (L2.CX P w) P w L.K mg base N x (C8.fnScope st) f cdv A outer s H E) (fun cls d _ H => E cls d H) →
      ∃ g : Pse, PSs (cxOf (L2.CX P w) P w L.K mg base N x (C8.fnScope st) f cdv A outer s H E) (C8.fnBody st) (tX L T G H E g) ∧
        ∀ ds kk xx, F.f ds kk xx → g.f (ent ds n) (fun _ => kk (.dat .non)) kk xx) : FnG P w L.K mg base (L2.CX P w) (k + 1) f fd ps (spE L T F) := by
  refine mkc Fd.fn S ?_ ?_
  · rintro vs H Q E ⟨G, ds, _, dv, h⟩
    exact (dvs_len dv).trans (hlen _ _ _ h)
  · rintro cdv A outer s H vs Q E hcd hr hgu ⟨G, ds, sg, dv, h⟩
    obtain ⟨g, hp, hF⟩ := hbody cdv A outer s G H E hr hgu (takes_of rfl rfl rfl rfl)
    refine ⟨_, hp, ?_⟩
    rw [hN vs ((dvs_len dv).trans (hlen _ _ _ h))]
    exact ⟨G, ent ds n, rep_ent sg dv, g.mono (fun ρ1 h1 σ' G' H' r' => h1 .non G' H' r'.gr .non) (fun _ z => z) (fun _ z => z) (hF ds _ _ h)⟩
theorem calmF {L : Ly} {T : Xt} {P : Program} {w : World} {mg : Str → Option Value} {base : Heap} {f : Addr} {fd : FuncData} {ps : List Str} {k : Nat} {F : Pe} (Fg : FnG P w L.K mg base (L2.CX P w) k f fd ps (spE L T F)) : FnG P w L.K mg base C8.CX0 k f fd ps (spE0 L F) := by
  have up : ∀ vs H Q E, spE0 L F vs H Q E → spE L T F vs H Q fun _ _ _ => False := fun vs H Q E ⟨G, ds, s, dv, h⟩ => ⟨G, ds, s, dv, F.mono (fun _ z => z) (fun _ z => z.elim) h⟩
  refine ⟨fun vs H Q E h => Fg.len vs H Q _ (up vs H Q E h), fun A outer s H args us vs Q E a1 a2 a3 a4 a5 h => ?_⟩
  refine codeAny_mono (Fg.run A outer s H args us vs Q _ a1 a2 a3 a4 a5 (up vs H Q E h)) fun r s' q => ?_
  cases r with
  | error e => exact (Fv.no_pass q).elim
  | ok fl =>
    cases fl with
    | ret u => exact q
    | next => cases q
    | brk => cases q
    | cont => cases q
end Fw
namespace Fv
open PySem PySem.Spec PyProof.Rows L2 Fr Fw Fs
/-! # the program's defs that ask a book -/
theorem units_in {k : Nat} {A : Around} (r : Room k A) : A.in1.in1.units < cLine := by
  have h := r.un
  have e1 : A.in1.in1.units ≤ A.units + 2 := by
    first
      | exact Nat.le_refl _
      | (show _ ≤ _; simp [Around.in1]; done)
      | (simp only [Around.in1]; omega)
  omega
/-- classes of the kit that are no books -/
structure BkN (K : Frag) (cB : Addr) : Prop where
  no : ∀ T ∈ (["NoneType", "bool", "int", "str", "list", "tuple", "dict"] : List String), PySem.W.kitOne K (.type T) (.ref cB) = some false
def isBkA (d : Da) (b : Bool) : Prop := (∃ xs, d = .obj 1 xs ∧ b = true) ∨ (Kn d ∧ b = false)
section
variable {P : Program} {w : World} {L : Ly} {T : Xt} {mg : Str → Option Value} {base : Heap} {f fI : Addr} {fd : FuncData} {cB cE cL : Addr}
theorem isA_bookA (LB : LyB L cB cE) (Cl : Cls L.K cB) (TK : BkT L.K cB) (BN : BkN L.K cB) (LK : LyK L) : IsA L (.ref cB) isBkA := by
  intro G v d b h dv
  rcases h with ⟨xs, rfl, rfl⟩ | ⟨⟨t, ht⟩, rfl⟩
  · exact isA_book LB Cl TK (.inl ⟨xs, rfl, rfl⟩) dv
  · refine ⟨.type t, dv_ty LK dv ht, BN.no t ?_⟩
    cases d with
    | non => cases ht; decide
    | bl b => cases ht; decide
    | int i => cases ht; decide
    | str x => cases ht; decide
    | lst xs => cases ht; decide
    | tup xs => cases ht; decide
    | obj n xs =>
      cases n with
      | zero => cases ht; decide
      | succ n => cases ht
/-- the classes of errors: BadBook with part, BadLot -/
structure ErB (P : Program) (w : World) (K : Frag) (mg : Str → Option Value) (base : Heap) (T : Xt) (cE cL : Addr) : Prop where
  t2 : T 2 = (cE, some ("part" : Str))
  t4 : T 4 = (cL, none)
  te : ExB P w K mg base "BadBook" "part" cE
  gL : mg "BadLot" = some (.ref cL)
  kL : PySem.W.keepIn K (.ref cL) = true
  qL : PySem.W.excIn K cL [.type "ValueError", .type "Exception", .type "BaseException", .type "object"] "ValueError.__new__" = true
  bL : PySem.W.subIn K (.ref cL) (.type "BaseException") = some true
  yL : PySem.W.typeIn K (.ref cL) = some (.type "type")
/-! ### need_book, need_lot -/
abbrev s_need_book : Stmt := topS 20
theorem sc_need_book : FnScope ["book"] ["book"] (C8.fnScope s_need_book) := C8.fnScope_by (by decide +kernel)
def eBook : Ed := ⟨2, [.non]⟩
def eLot : Ed := ⟨4, []⟩
def fNeedBook : Pe := ⟨fun xs k x => ∃ d, xs = [d] ∧ ((∃ n m bs, d = bkD n bs m ∧ k (.dat .non)) ∨ (Kn d ∧ x eBook)), by
  rintro xs k k' x x' hk hx ⟨d, e, h⟩
  refine ⟨d, e, ?_⟩
  rcases h with ⟨n, m, bs, e2, q⟩ | ⟨a, q⟩
  · exact .inl ⟨n, m, bs, e2, hk _ q⟩
  · exact .inr ⟨a, hx _ q⟩⟩
theorem ok_need_book (LB : LyB L cB cE) (LK : LyK L) (Fd : C8.Def L.K mg "need_book" s_need_book f fd) (b : Binds L.K fd ["book"] []) (Bx : Bx mg) (C : BkC L.K mg cB fI) (TK : BkT L.K cB) (BN : BkN L.K cB) (TE : ErB P w L.K mg base T cE cL) :
    CalG P w L.K mg base (L2.CX P w) 3 "need_book" (spE L T fNeedBook) := by
  have sc := sc_need_book
  refine calE (n := 0) Fd b sc ?_ (fun vs h => start_eq (by rw [h]; rfl)) fun cdv A outer s G H E hr hgu tk => ?_
  · rintro ds k x ⟨d, rfl, _⟩
    rfl
  have e1 : (T 2).1 = cE := by rw [TE.t2]
  refine ⟨_, x_one (x_if (ps_if (w_notT (pt_not (w_val (pt_val (w_isi (.own cB) (isA_bookA LB C.cls TK BN LK) (pe_callB call_isi (by rfl) Bx.isinstance (by decide +kernel) (pa_cons (w_v (pv 0)) (pa_cons (pe_glob (v := .ref cB) rfl C.g rfl) pa_nil))))))))
    (x_one (x_raise (n := 2) (nm := "part") (v0 := .non) (d0 := .non) (by rw [TE.t2]) (fun _ => .non) (by rw [e1]; exact ps_bad TE.te rfl tk hr rfl pe_non))) (x_nil pss_nil))), ?_⟩
  rintro ds kk xx ⟨d, rfl, h⟩
  rcases h with ⟨n, m, bs, rfl, q⟩ | ⟨hk, q⟩
  · refine ⟨_, rfl, true, .inl ⟨_, rfl, rfl⟩, _, rfl, ?_⟩
    exact q
  · refine ⟨_, rfl, false, .inr ⟨hk, rfl⟩, _, rfl, ?_⟩
    exact q
abbrev s_need_lot : Stmt := topS 30
theorem sc_need_lot : FnScope ["book", "lot"] ["book", "lot"] (C8.fnScope s_need_lot) := C8.fnScope_by (by decide +kernel)
/-- no book, no lot of the book, or a lot -/
def lotsE (d e : Da) (ok : Nat → Nat → List (List Int) → List Int → Prop) (x : Ed → Prop) : Prop := (Kn d ∧ x eBook) ∨ ∃ n m bs, d = bkD n bs m ∧ Kn2 e ∧ (∀ t, e = ti t → LotOk n t → ok n m bs t) ∧ (lotB n e = false → x eLot)
theorem lotsE_mono {d e : Da} {ok ok' : Nat → Nat → List (List Int) → List Int → Prop} {x x' : Ed → Prop} (h1 : ∀ n m bs t, ok n m bs t → ok' n m bs t) (h2 : ∀ e, x e → x' e) (h : lotsE d e ok x) : lotsE d e ok' x' := by
  rcases h with ⟨a, q⟩ | ⟨n, m, bs, a, b, c, q⟩
  · exact .inl ⟨a, h2 _ q⟩
  · exact .inr ⟨n, m, bs, a, b, fun t z z2 => h1 _ _ _ _ (c t z z2), fun z => h2 _ (q z)⟩
def fNeedLot : Pe := ⟨fun xs k x => ∃ d e, xs = [d, e] ∧ lotsE d e (fun _ _ _ _ => k (.dat .non)) x, by
  rintro xs k k' x x' hk hx ⟨d, e, z, h⟩
  exact ⟨d, e, z, lotsE_mono (fun _ _ _ _ => hk _) hx h⟩⟩
theorem ok_need_lot (LB : LyB L cB cE) (Fd : C8.Def L.K mg "need_lot" s_need_lot f fd) (b : Binds L.K fd ["book", "lot"] []) (C : BkC L.K mg cB fI) (TE : ErB P w L.K mg base T cE cL) (c_need_book : CalG P w L.K mg base (L2.CX P w) 3 "need_book" (spE L T fNeedBook))
    (c_is_lot : CalG P w L.K mg base C8.CX0 3 "is_lot" (spF L fIsLot)) : CalG P w L.K mg base (L2.CX P w) 4 "need_lot" (spE L T fNeedLot) := by
  have sc := sc_need_lot
  refine calE (n := 0) Fd b sc ?_ (fun vs h => start_eq (by rw [h]; rfl)) fun cdv A outer s G H E hr hgu tk => ?_
  · rintro ds k x ⟨d, e, rfl, _⟩
    rfl
  have e1 : (T 4).1 = cL := by rw [TE.t4]
  refine ⟨_, x_seq (x_call (ps_expr (pe_cgS c_need_book hr (by decide) hgu rfl (fun σ => passAt tk σ) (w_cons (w_v (pv 0)) w_nil))))
    (x_one (x_if (ps_if (w_notT (pt_not (w_val (pt_val (w_call c_is_lot hr (by decide) hgu rfl (w_cons (w_v (pv 1)) (w_cons (w_fld LB C.cls C.size lk_size (pe_fld (w_v (pv 0)) (by rfl))) w_nil)))))))
    (x_one (x_raise0 (n := 4) (by rw [TE.t4]) (by rw [e1]; exact ps_raise rfl tk (pmk_own PySem.F.excBase_ValueError TE.qL TE.gL TE.kL (raises_own TE.bL TE.yL) rfl)))) (x_nil pss_nil)))), ?_⟩
  rintro ds kk xx ⟨d, e, rfl, h⟩
  rcases h with ⟨hk, q⟩ | ⟨n, m, bs, rfl, hk, h1, h2⟩
  · exact ⟨_, rfl, d, rfl, .inr ⟨hk, q⟩⟩
  · refine ⟨_, rfl, _, rfl, .inl ⟨n, m, bs, rfl, ?_⟩⟩
    refine ⟨_, rfl, _, rfl, _, _, rfl, rfl, e, (n : Int), rfl, hk, _, rfl, bite (fun z => ?_) fun z => ?_⟩
    · exact h2 (by simpa using z)
    · obtain ⟨t, e1, e2⟩ := lotB_iff.mp (show lotB n e = true by simpa using z)
      exact h1 t e1 e2
/-! ### _uses, idle, sure -/
abbrev s_uses : Stmt := topS 31
theorem sc_uses : FnScope ["book", "thing", "base"] ["book", "thing"] (C8.fnScope s_uses) := C8.fnScope_by (by decide +kernel)
def usesN (bs : List (List Int)) (t : Int) : Nat := (bs.filter fun b => decide (t ∈ b)).length
def fUses : Pf := ⟨fun xs k => ∃ n m bs t, xs = [bkD n bs m, .int t] ∧ bs.length ≤ 1000 ∧ k (.int (usesN bs t : Nat)), fun h ⟨n, m, bs, t, a, b, q⟩ => ⟨n, m, bs, t, a, b, h _ q⟩⟩
theorem ok_uses (LB : LyB L cB cE) (Fd : C8.Def L.K mg "_uses" s_uses f fd) (b : Binds L.K fd ["book", "thing"] []) (B : Bw mg) (C : BkC L.K mg cB fI) : CalG P w L.K mg base C8.CX0 1 "_uses" (spF L fUses) := by
  have sc := sc_uses
  refine calF (n := 1) Fd b sc ?_ (fun vs h => start_eq (by rw [h]; rfl)) fun cdv A outer s H E hr hgu => ?_
  · rintro ds k ⟨n, m, bs, t, rfl, _⟩
    rfl
  refine ⟨_, w_one (w_ret (ps_ret (w_tCB snd_len (pe_callB call_len_seq (by rfl) B.len (by decide +kernel) (w_cons (w_lc (sndv_N (by decide)) (pe_lc (own := [("base", 2)]) (by rfl) sc.nd (w_it (pi_tup (w_fld LB C.cls C.bases lk_bases (pe_fld (w_v (pv 0)) (by rfl)))))
    (blkOk_by (by kernel_rfl)) (fun _ _ _ _ _ => (pg_name (i := 2) sc.nd rfl (by first | exact Or.inl rfl | exact Or.inr rfl))) (fun _ _ _ _ _ => w_tone (w_cmpT op_in_seq snd_inI (w_v (pv 1)) (w_v (pv 2)) (by rfl))) (fun _ _ _ _ _ => (w_v (pv 2))))) w_nil))))), ?_⟩
  rintro ds kk ⟨n, m, bs, t, rfl, hl, k⟩
  refine ⟨_, rfl, _, _, rfl, rfl, _, rfl, lcP_src ti (fun b => decide (t ∈ b)) ti (fun b _ => ?_) (by simp only [List.length_nil, Nat.zero_add]; exact Nat.le_trans hl (by decide)) ?_⟩
  · refine ⟨_, rfl, _, rfl, t, b, rfl, .inr rfl, _, rfl, ?_, fun _ => ⟨_, rfl, rfl, rfl⟩, fun _ => rfl⟩
    by_cases hc : t ∈ b <;> simp [hc]
  · refine ⟨_, .inl rfl, ?_⟩
    rw [List.nil_append, List.length_map]
    exact k
/-- what is asked of a book, or no book -/
def bookE (d : Da) (ok : Nat → Nat → List (List Int) → Prop) (x : Ed → Prop) : Prop := (Kn d ∧ x eBook) ∨ ∃ n m bs, d = bkD n bs m ∧ Sk n m bs ∧ ok n m bs
theorem bookE_mono {d : Da} {ok ok' : Nat → Nat → List (List Int) → Prop} {x x' : Ed → Prop} (h1 : ∀ n m bs, ok n m bs → ok' n m bs) (h2 : ∀ e, x e → x' e) (h : bookE d ok x) : bookE d ok' x' := by
  rcases h with ⟨a, q⟩ | ⟨n, m, bs, a, b, c⟩
  · exact .inl ⟨a, h2 _ q⟩
  · exact .inr ⟨n, m, bs, a, b, h1 _ _ _ c⟩
def fBook1 (r : Nat → Nat → List (List Int) → Nv) : Pe := ⟨fun xs k x => ∃ d, xs = [d] ∧ bookE d (fun n m bs => k (r n m bs)) x, by
  rintro xs k k' x x' hk hx ⟨d, z, h⟩
  exact ⟨d, z, bookE_mono (fun _ _ _ => hk _) hx h⟩⟩
def idleL (n : Nat) (bs : List (List Int)) : List Int := ((List.range n).filter fun i : Nat => decide (usesN bs i = 0)).map fun i : Nat => (i : Int)
def sureL (n : Nat) (bs : List (List Int)) : List Int := ((List.range n).filter fun i : Nat => decide (usesN bs i = bs.length)).map fun i : Nat => (i : Int)
abbrev s_idle : Stmt := topS 28
theorem sc_idle : FnScope ["book", "thing"] ["book"] (C8.fnScope s_idle) := C8.fnScope_by (by decide +kernel)
theorem eqv_nat (a b : Nat) : PyData.eqv (.int (a : Int)) (.int (b : Int)) = decide (a = b) := by
  show ((a : Int) == (b : Int)) = decide (a = b)
  by_cases h : a = b
  · simp [h]
  · have h' : ¬ ((a : Int) = (b : Int)) := by omega
    simp [h, h']
theorem fn_idle (LB : LyB L cB cE) (Fd : C8.Def L.K mg "idle" s_idle f fd) (b : Binds L.K fd ["book"] []) (B : Bw mg) (C : BkC L.K mg cB fI) (c_need_book : CalG P w L.K mg base (L2.CX P w) 3 "need_book" (spE L T fNeedBook))
    (c_uses : CalG P w L.K mg base C8.CX0 1 "_uses" (spF L fUses)) : FnG P w L.K mg base (L2.CX P w) 4 f fd ["book"] (spE L T (fBook1 fun n m bs => .dat (ti (idleL n bs)))) := by
  have sc := sc_idle
  refine fnE (n := 1) Fd sc ?_ (fun vs h => start_eq (by rw [h]; rfl)) fun cdv A outer s G H E hr hgu tk => ?_
  · rintro ds k x ⟨d, rfl, _⟩
    rfl
  refine ⟨_, x_seq (x_call (ps_expr (pe_cgS c_need_book hr (by decide) hgu rfl (fun σ => passAt tk σ) (w_cons (w_v (pv 0)) w_nil))))
    (x_ups (w_one (w_ret (ps_ret (w_tCB snd_tupOf (pe_callTy call_tuple_of (by rfl) B.tuple (by decide +kernel) (w_cons (w_lc (sndv_N (by decide)) (pe_lc (own := [("thing", 1)]) (by rfl) sc.nd (w_ir1 (pi_range1 rfl B.range (w_cons (w_fld LB C.cls C.size lk_size (pe_fld (w_v (pv 0)) (by rfl))) w_nil)))
      (blkOk_by (by kernel_rfl)) (fun _ _ _ _ _ => (pg_name (i := 1) sc.nd rfl (by first | exact Or.inl rfl | exact Or.inr rfl))) (fun _ _ _ _ _ => w_tone (w_cmpT (op_eqD hr.units) snd_eq (w_call c_uses hr (by decide) hgu rfl (w_cons (w_v (pv 0)) (w_cons (w_v (pv 1)) w_nil))) (w_int (kd := 0) pe_int) (nomark _))) (fun _ _ _ _ _ => (w_v (pv 1))))) w_nil))))))), ?_⟩
  rintro ds kk xx ⟨d, rfl, h⟩
  rcases h with ⟨hk, q⟩ | ⟨n, m, bs, rfl, S, k⟩
  · exact ⟨_, rfl, d, rfl, .inr ⟨hk, q⟩⟩
  have hn := S.n8
  have hbl : bs.length ≤ 1000 := Nat.le_trans (sk_len S) (by decide)
  refine ⟨_, rfl, _, rfl, .inl ⟨n, m, bs, rfl, ?_⟩⟩
  refine ⟨_, rfl, _, _, rfl, rfl, (n : Int), rfl, by omega, by omega, ?_⟩
  rw [rgD0]
  refine lcP_src (fun i : Nat => Da.int (i : Int)) (fun i => decide (usesN bs i = 0)) (fun i => Da.int (i : Int)) (fun i _ => ?_) (by simp only [List.length_nil, Nat.zero_add, List.length_range]; exact Nat.le_trans (by omega : (n : Int).toNat ≤ 8) (by decide)) ?_
  · exact ⟨_, rfl, _, rfl, n, m, bs, (i : Int), rfl, hbl, .int (usesN bs i : Nat), .int 0, rfl, rfl, rfl, rfl, _, rfl, eqv_nat _ 0, fun _ => ⟨_, rfl, rfl, rfl⟩, fun _ => rfl⟩
  · refine ⟨_, .inl rfl, ?_⟩
    have e2 : ([] ++ ((List.range (n : Int).toNat).filter fun i : Nat => decide (usesN bs i = 0)).map fun i : Nat => Da.int (i : Int)) = (idleL n bs).map Da.int := by
      rw [List.nil_append, idleL, List.map_map]
      rfl
    rw [e2]
    exact k
theorem ok_idle (LB : LyB L cB cE) (Fd : C8.Def L.K mg "idle" s_idle f fd) (b : Binds L.K fd ["book"] []) (B : Bw mg) (C : BkC L.K mg cB fI) (c_need_book : CalG P w L.K mg base (L2.CX P w) 3 "need_book" (spE L T fNeedBook))
    (c_uses : CalG P w L.K mg base C8.CX0 1 "_uses" (spF L fUses)) : CalG P w L.K mg base (L2.CX P w) 4 "idle" (spE L T (fBook1 fun n m bs => .dat (ti (idleL n bs)))) := ⟨f, fd, ["book"], fn_idle LB Fd b B C c_need_book c_uses, Fd.mgf, Fd.kp, b⟩
abbrev s_sure : Stmt := topS 29
theorem sc_sure : FnScope ["book", "thing"] ["book"] (C8.fnScope s_sure) := C8.fnScope_by (by decide +kernel)
theorem fn_sure (LB : LyB L cB cE) (Fd : C8.Def L.K mg "sure" s_sure f fd) (b : Binds L.K fd ["book"] []) (B : Bw mg) (C : BkC L.K mg cB fI) (c_need_book : CalG P w L.K mg base (L2.CX P w) 3 "need_book" (spE L T fNeedBook))
    (c_uses : CalG P w L.K mg base C8.CX0 1 "_uses" (spF L fUses)) : FnG P w L.K mg base (L2.CX P w) 4 f fd ["book"] (spE L T (fBook1 fun n m bs => .dat (ti (sureL n bs)))) := by
  have sc := sc_sure
  refine fnE (n := 1) Fd sc ?_ (fun vs h => start_eq (by rw [h]; rfl)) fun cdv A outer s G H E hr hgu tk => ?_
  · rintro ds k x ⟨d, rfl, _⟩
    rfl
  refine ⟨_, x_seq (x_call (ps_expr (pe_cgS c_need_book hr (by decide) hgu rfl (fun σ => passAt tk σ) (w_cons (w_v (pv 0)) w_nil))))
    (x_ups (w_one (w_ret (ps_ret (w_tCB snd_tupOf (pe_callTy call_tuple_of (by rfl) B.tuple (by decide +kernel) (w_cons (w_lc (sndv_N (by decide)) (pe_lc (own := [("thing", 1)]) (by rfl) sc.nd (w_ir1 (pi_range1 rfl B.range (w_cons (w_fld LB C.cls C.size lk_size (pe_fld (w_v (pv 0)) (by rfl))) w_nil)))
      (blkOk_by (by kernel_rfl)) (fun _ _ _ _ _ => (pg_name (i := 1) sc.nd rfl (by first | exact Or.inl rfl | exact Or.inr rfl))) (fun _ _ _ _ _ => w_tone (w_cmpT (op_eqD hr.units) snd_eq (w_call c_uses hr (by decide) hgu rfl (w_cons (w_v (pv 0)) (w_cons (w_v (pv 1)) w_nil))) (w_tCB snd_len (pe_callB call_len_seq (by rfl) B.len (by decide +kernel) (w_cons (w_fld LB C.cls C.bases lk_bases (pe_fld (w_v (pv 0)) (by rfl))) w_nil))) (nomark _))) (fun _ _ _ _ _ => (w_v (pv 1))))) w_nil))))))), ?_⟩
  rintro ds kk xx ⟨d, rfl, h⟩
  rcases h with ⟨hk, q⟩ | ⟨n, m, bs, rfl, S, k⟩
  · exact ⟨_, rfl, d, rfl, .inr ⟨hk, q⟩⟩
  have hn := S.n8
  have hbl : bs.length ≤ 1000 := Nat.le_trans (sk_len S) (by decide)
  refine ⟨_, rfl, _, rfl, .inl ⟨n, m, bs, rfl, ?_⟩⟩
  refine ⟨_, rfl, _, _, rfl, rfl, (n : Int), rfl, by omega, by omega, ?_⟩
  rw [rgD0]
  refine lcP_src (fun i : Nat => Da.int (i : Int)) (fun i => decide (usesN bs i = bs.length)) (fun i => Da.int (i : Int)) (fun i _ => ?_) (by simp only [List.length_nil, Nat.zero_add, List.length_range]; exact Nat.le_trans (by omega : (n : Int).toNat ≤ 8) (by decide)) ?_
  · refine ⟨_, rfl, _, rfl, n, m, bs, (i : Int), rfl, hbl, _, rfl, _, _, rfl, rfl, _, .inr rfl, .int (usesN bs i : Nat), .int (bs.length : Nat), rfl, ?_, rfl, rfl, _, rfl, eqv_nat _ _, fun _ => ⟨_, rfl, rfl, rfl⟩, fun _ => rfl⟩
    rw [List.length_map]
    rfl
  · refine ⟨_, .inl rfl, ?_⟩
    have e2 : ([] ++ ((List.range (n : Int).toNat).filter fun i : Nat => decide (usesN bs i = bs.length)).map fun i : Nat => Da.int (i : Int)) = (sureL n bs).map Da.int := by
      rw [List.nil_append, sureL, List.map_map]
      rfl
    rw [e2]
    exact k
theorem ok_sure (LB : LyB L cB cE) (Fd : C8.Def L.K mg "sure" s_sure f fd) (b : Binds L.K fd ["book"] []) (B : Bw mg) (C : BkC L.K mg cB fI) (c_need_book : CalG P w L.K mg base (L2.CX P w) 3 "need_book" (spE L T fNeedBook))
    (c_uses : CalG P w L.K mg base C8.CX0 1 "_uses" (spF L fUses)) : CalG P w L.K mg base (L2.CX P w) 4 "sure" (spE L T (fBook1 fun n m bs => .dat (ti (sureL n bs)))) := ⟨f, fd, ["book"], fn_sure LB Fd b B C c_need_book c_uses, Fd.mgf, Fd.kp, b⟩
/-! ### rank -/
abbrev s_rank : Stmt := topS 25
theorem sc_rank : FnScope ["book", "lot", "thing", "base"] ["book", "lot"] (C8.fnScope s_rank) := C8.fnScope_by (by decide +kernel)
def fLot2 (r : Nat → Nat → List (List Int) → List Int → Nv) : Pe := ⟨fun xs k x => ∃ d e, xs = [d, e] ∧ lotsE d e (fun n m bs t => Sk n m bs ∧ k (r n m bs t)) x, by
  rintro xs k k' x x' hk hx ⟨d, e, z, h⟩
  exact ⟨d, e, z, lotsE_mono (fun _ _ _ _ q => ⟨q.1, hk _ q.2⟩) hx h⟩⟩
theorem fn_rank (LB : LyB L cB cE) (Fd : C8.Def L.K mg "rank" s_rank f fd) (b : Binds L.K fd ["book", "lot"] []) (B : Bw mg) (C : BkC L.K mg cB fI) (c_need_lot : CalG P w L.K mg base (L2.CX P w) 4 "need_lot" (spE L T fNeedLot)) : FnG P w L.K mg base (L2.CX P w) 5 f fd ["book", "lot"] (spE L T (fLot2 fun n m bs t => .dat (.int (rankL bs t : Nat)))) := by
  have sc := sc_rank
  refine fnE (n := 2) Fd sc ?_ (fun vs h => start_eq (by rw [h]; rfl)) fun cdv A outer s G H E hr hgu tk => ?_
  · rintro ds k x ⟨d, e, rfl, _⟩
    rfl
  refine ⟨_, x_seq (x_call (ps_expr (pe_cgS c_need_lot hr (by decide) hgu rfl (fun σ => passAt tk σ) (w_cons (w_v (pv 0)) (w_cons (w_v (pv 1)) w_nil)))))
    (x_ups (w_one (w_ret (ps_ret (w_tCB snd_max (pe_callB (cr_max rfl) (by rfl) B.max (by decide +kernel) (w_cons (w_lc (sndv_N (by decide)) (pe_lc (own := [("base", 3)]) (by rfl) sc.nd (w_it (pi_tup (w_fld LB C.cls C.bases lk_bases (pe_fld (w_v (pv 0)) (by rfl))))) (blkOk_by (by kernel_rfl)) (fun _ _ _ _ _ => (pg_name (i := 3) sc.nd rfl (by first | exact Or.inl rfl | exact Or.inr rfl)))
      (fun _ _ _ _ _ => w_tnil) (fun _ _ _ _ _ => (w_tCB snd_len (pe_callB call_len_seq (by rfl) B.len (by decide +kernel) (w_cons (w_lc (sndv_N (by decide)) (pe_lc (own := [("thing", 2)]) (by rfl) sc.nd (w_it (pi_tup (w_v (pv 1)))) (blkOk_by (by kernel_rfl)) (fun _ _ _ _ _ => (pg_name (i := 2) sc.nd rfl (by first | exact Or.inl rfl | exact Or.inr rfl)))
      (fun _ _ _ _ _ => w_tone (w_cmpT op_in_seq snd_inI (w_v (pv 2)) (w_v (pv 3)) (by rfl))) (fun _ _ _ _ _ => (w_v (pv 2))))) w_nil)))))) w_nil))))))), ?_⟩
  rintro ds kk xx ⟨d, e, rfl, h⟩
  rcases h with ⟨hk, q⟩ | ⟨n, m, bs, rfl, hk, h1, h2⟩
  · exact ⟨_, rfl, _, rfl, d, e, rfl, .inl ⟨hk, q⟩⟩
  refine ⟨_, rfl, _, rfl, _, e, rfl, .inr ⟨n, m, bs, rfl, hk, fun a he hlot => ?_, h2⟩⟩
  subst he
  obtain ⟨S, k⟩ := h1 a rfl hlot
  have hbl : bs.length ≤ 1000 := Nat.le_trans (sk_len S) (by decide)
  have hal : a.length ≤ 8 := by
    have : a.Nodup := pw_nodup hlot.1
    have h2 : a.length ≤ (rangeI n).length := nd_len this fun x hx => mem_rangeI.mpr (hlot.2 x hx)
    rw [len_rangeI] at h2
    exact Nat.le_trans h2 S.n8
  refine ⟨_, rfl, _, _, rfl, rfl, _, rfl, lcP_all ti (fun c => .int (sharedL a c).length) (fun c _ => ?_) (Nat.le_trans hbl (by decide)) ?_⟩
  · refine ⟨_, rfl, _, rfl, lcP_src Da.int (fun i => decide (i ∈ c)) Da.int (fun i _ => ?_) (by simp only [List.length_nil, Nat.zero_add]; exact Nat.le_trans hal (by decide)) ?_⟩
    · refine ⟨_, rfl, _, rfl, i, c, rfl, .inr rfl, _, rfl, ?_, fun _ => ⟨_, rfl, rfl, rfl⟩, fun _ => rfl⟩
      by_cases hc : i ∈ c <;> simp [hc]
    · refine ⟨_, .inl rfl, ?_, rfl⟩
      rw [List.nil_append, List.length_map]
      rfl
  · refine ⟨bs.map fun c => ((sharedL a c).length : Int), ?_, ?_, fun m' h1 h2 => ?_⟩
    · rw [List.map_map]
      rfl
    · rw [List.length_map]
      exact List.length_pos_iff.mpr S.ne
    · have e : m' = (rankL bs a : Int) := by
        have hn : (bs.map fun b => (sharedL a b).length) ≠ [] := by simpa using S.ne
        have h3 := maxN_mem hn
        obtain ⟨c, hc, e3⟩ := List.mem_map.mp h3
        have h4 := h2 ((sharedL a c).length : Int) (List.mem_map.mpr ⟨c, hc, rfl⟩)
        obtain ⟨c', hc', e4⟩ := List.mem_map.mp h1
        have h5 : (sharedL a c').length ≤ rankL bs a := maxN_le (List.mem_map.mpr ⟨c', hc', rfl⟩)
        have h6 : rankL bs a = (sharedL a c).length := e3.symm
        omega
      rw [e]
      exact k
theorem ok_rank (LB : LyB L cB cE) (Fd : C8.Def L.K mg "rank" s_rank f fd) (b : Binds L.K fd ["book", "lot"] []) (B : Bw mg) (C : BkC L.K mg cB fI) (c_need_lot : CalG P w L.K mg base (L2.CX P w) 4 "need_lot" (spE L T fNeedLot)) : CalG P w L.K mg base (L2.CX P w) 5 "rank" (spE L T (fLot2 fun n m bs t => .dat (.int (rankL bs t : Nat)))) := ⟨f, fd, ["book", "lot"], fn_rank LB Fd b B C c_need_lot, Fd.mgf, Fd.kp, b⟩
end
end Fv
namespace Fv
open PySem PySem.Spec PyProof.Rows L2 Fr Fw Fs
/-! # masks and lots; which masks are free; ranks of masks -/
def lotN (m : Nat) : List Int := ((List.range (Builtin.Int.intBits (m : Int))).filter fun t => m.testBit t).map fun t : Nat => (t : Int)
theorem mem_lotN {m : Nat} {x : Int} : x ∈ lotN m ↔ ∃ t : Nat, m.testBit t = true ∧ x = (t : Int) := by
  unfold lotN
  rw [List.mem_map]
  constructor
  · rintro ⟨t, ht, rfl⟩
    exact ⟨t, (List.mem_filter.mp ht).2, rfl⟩
  · rintro ⟨t, ht, rfl⟩
    exact ⟨t, List.mem_filter.mpr ⟨List.mem_range.mpr (bit_lt ht), ht⟩, rfl⟩
theorem mem_lotN' {m t : Nat} : (t : Int) ∈ lotN m ↔ m.testBit t = true := by
  rw [mem_lotN]
  constructor
  · rintro ⟨u, hu, e⟩
    rw [Int.ofNat_inj.mp e]
    exact hu
  · exact fun h => ⟨t, h, rfl⟩
theorem pw_rangeN (n : Nat) : (List.range n).Pairwise (· < ·) := List.pairwise_lt_range
theorem lotN_pw (m : Nat) : (lotN m).Pairwise (· < ·) := by
  unfold lotN
  refine List.pairwise_map.mpr ?_
  refine List.Pairwise.imp ?_ ((pw_rangeN _).filter _)
  intro a b h
  omega
theorem bit_below {n m t : Nat} (hm : m < 2 ^ n) (h : m.testBit t = true) : t < n := by
  rcases Nat.lt_or_ge t n with z | z
  · exact z
  · have : m.testBit t = false := Nat.testBit_lt_two_pow (Nat.lt_of_lt_of_le hm (Nat.pow_le_pow_right (by decide) z))
    rw [h] at this
    cases this
theorem lotN_ok {n m : Nat} (hm : m < 2 ^ n) : LotOk n (lotN m) := ⟨lotN_pw m, fun x hx => by
  obtain ⟨t, ht, rfl⟩ := mem_lotN.mp hx
  have := bit_below hm ht
  omega⟩
theorem lot_nn {n : Int} {t : List Int} (h : LotOk n t) : ∀ x ∈ t, 0 ≤ x := fun x hx => (h.2 x hx).1
theorem mask_lotN (m : Nat) : maskN (lotN m) = m := by
  refine Nat.eq_of_testBit_eq fun i => ?_
  have nn : ∀ x ∈ lotN m, 0 ≤ x := fun x hx => by
    obtain ⟨t, _, rfl⟩ := mem_lotN.mp hx
    omega
  have h := maskN_bit (i := i) nn
  rw [mem_lotN'] at h
  cases a : (maskN (lotN m)).testBit i <;> cases b : m.testBit i
  · rfl
  · rw [h.mpr b] at a; cases a
  · rw [h.mp a] at b; cases b
  · rfl
theorem lotN_mask {n : Int} {t : List Int} (h : LotOk n t) : lotN (maskN t) = t := by
  refine pw_ext (lotN_pw _) h.1 fun x => ?_
  rw [mem_lotN]
  constructor
  · rintro ⟨i, hi, rfl⟩
    exact (maskN_bit (lot_nn h)).mp hi
  · intro hx
    have := (h.2 x hx).1
    refine ⟨x.toNat, (maskN_bit (lot_nn h)).mpr ?_, by omega⟩
    rwa [Int.toNat_of_nonneg this]
theorem mask_lt {n : Nat} {t : List Int} (h : LotOk n t) : maskN t < 2 ^ n := by
  refine Nat.lt_pow_two_of_testBit _ fun i hi => ?_
  cases q : (maskN t).testBit i with
  | false => rfl
  | true =>
    have := h.2 _ ((maskN_bit (lot_nn h)).mp q)
    omega
theorem bits_len (m : Nat) : (bitsN m).length = (lotN m).length := by
  unfold bitsN lotN
  rw [List.length_map, List.length_map]
/-! ## a mask in a base -/
def SubB (bs : List (List Int)) (m : Nat) : Prop := ∃ b ∈ bs, ∀ t : Nat, m.testBit t = true → (t : Int) ∈ b
def rkN (bs : List (List Int)) (m : Nat) : Nat := rankL bs (lotN m)
def frN (bs : List (List Int)) (m : Nat) : Bool := decide (rkN bs m = (lotN m).length)
theorem shared_full {a b : List Int} : (sharedL a b).length = a.length ↔ ∀ x ∈ a, x ∈ b := by
  unfold sharedL
  rw [List.length_filter_eq_length_iff]
  constructor
  · exact fun h x hx => of_decide_eq_true (h x hx)
  · exact fun h x hx => decide_eq_true (h x hx)
theorem shared_le (a b : List Int) : (sharedL a b).length ≤ a.length := List.length_filter_le _ _
theorem rank_le' {bs : List (List Int)} (ne : bs ≠ []) (a : List Int) : rankL bs a ≤ a.length := by
  obtain ⟨b, hb, e⟩ := rankL_at ne a
  rw [← e]
  exact shared_le a b
theorem frN_iff {bs : List (List Int)} (ne : bs ≠ []) {m : Nat} : frN bs m = true ↔ SubB bs m := by
  unfold frN rkN
  rw [decide_eq_true_eq]
  constructor
  · intro h
    obtain ⟨b, hb, e⟩ := rankL_at ne (lotN m)
    exact ⟨b, hb, fun t ht => shared_full.mp (e.trans h) _ (mem_lotN'.mpr ht)⟩
  · rintro ⟨b, hb, h⟩
    refine Nat.le_antisymm (rank_le' ne _) ?_
    have e : (sharedL (lotN m) b).length = (lotN m).length := shared_full.mpr fun x hx => by
      obtain ⟨t, ht, rfl⟩ := mem_lotN.mp hx
      exact h t ht
    rw [← e]
    exact rankL_ge hb
theorem test_xor {m t u : Nat} (h : m.testBit t = true) : (m ^^^ 2 ^ t).testBit u = (m.testBit u && !decide (u = t)) := by
  rw [Nat.testBit_xor, bit_pow]
  by_cases e : u = t
  · subst e
    rw [h]
    simp
  · have e' : ¬ t = u := fun z => e z.symm
    simp [e, e']
theorem test_or {m t u : Nat} : (m ||| 2 ^ t).testBit u = (m.testBit u || decide (u = t)) := by
  rw [Nat.testBit_or, bit_pow]
  by_cases e : u = t
  · subst e
    simp
  · have e' : ¬ t = u := fun z => e z.symm
    simp [e, e']
theorem lotN_xor {m t : Nat} (h : m.testBit t = true) : lotN (m ^^^ 2 ^ t) = lessL (lotN m) [(t : Int)] := by
  refine pw_ext (lotN_pw _) ((lotN_pw m).filter _) fun x => ?_
  rw [mem_lessL, mem_lotN, mem_lotN, List.mem_singleton]
  constructor
  · rintro ⟨u, hu, rfl⟩
    rw [test_xor h, Bool.and_eq_true] at hu
    refine ⟨⟨u, hu.1, rfl⟩, fun z => ?_⟩
    rw [decide_eq_true (Int.ofNat_inj.mp z)] at hu
    exact absurd hu.2 (by decide)
  · rintro ⟨⟨u, hu, rfl⟩, n⟩
    refine ⟨u, ?_, rfl⟩
    rw [test_xor h, hu, decide_eq_false (fun z => n (by rw [z]))]
    rfl
theorem lotN_or {m t : Nat} : lotN (m ||| 2 ^ t) = withL (lotN m) [(t : Int)] := by
  refine pw_ext (lotN_pw _) (pw_asc _) fun x => ?_
  rw [mem_with, mem_lotN, mem_lotN, List.mem_singleton]
  constructor
  · rintro ⟨u, hu, rfl⟩
    rw [test_or, Bool.or_eq_true] at hu
    rcases hu with z | z
    · exact .inl ⟨u, z, rfl⟩
    · exact .inr (by rw [of_decide_eq_true z])
  · rintro (⟨u, hu, rfl⟩ | rfl)
    · exact ⟨u, by rw [test_or, hu]; rfl, rfl⟩
    · exact ⟨t, by rw [test_or, decide_eq_true rfl]; simp, rfl⟩
theorem xor_lt {m t : Nat} (h : m.testBit t = true) : m ^^^ 2 ^ t < m := by
  have e : m &&& (m ^^^ 2 ^ t) = m ^^^ 2 ^ t := by
    refine Nat.eq_of_testBit_eq fun u => ?_
    rw [Nat.testBit_and, test_xor h]
    cases m.testBit u <;> rfl
  have l : m ^^^ 2 ^ t ≤ m := by
    rw [← e]
    exact Nat.and_le_left
  refine Nat.lt_of_le_of_ne l fun z => ?_
  have q := test_xor (u := t) h
  rw [z, h, decide_eq_true rfl] at q
  cases q
theorem or_xor {m t : Nat} (h : m.testBit t = true) : (m ^^^ 2 ^ t) ||| 2 ^ t = m := by
  refine Nat.eq_of_testBit_eq fun u => ?_
  rw [test_or, test_xor h]
  by_cases e : u = t
  · subst e
    rw [h]
    simp
  · simp [e]
theorem xor_or {m t : Nat} (h : m.testBit t = false) : (m ||| 2 ^ t) ^^^ 2 ^ t = m := by
  have h2 : (m ||| 2 ^ t).testBit t = true := by rw [test_or, decide_eq_true rfl]; simp
  refine Nat.eq_of_testBit_eq fun u => ?_
  rw [test_xor h2, test_or]
  by_cases e : u = t
  · subst e
    rw [h]
    simp
  · simp [e]
theorem lt_or {m t : Nat} (h : m.testBit t = false) : m < m ||| 2 ^ t := by
  have h2 : (m ||| 2 ^ t).testBit t = true := by rw [test_or, decide_eq_true rfl]; simp
  have := xor_lt h2
  rwa [xor_or h] at this
theorem or_bound {n m t : Nat} (hm : m < 2 ^ n) (ht : t < n) : m ||| 2 ^ t < 2 ^ n := Nat.or_lt_two_pow hm (Nat.pow_lt_pow_right (by decide) ht)
/-! ## the table of free masks, step by step -/
/-- behind the masks from c on: marked are only masks in bases; marked are the bases, and what has a thing more from c on -/
structure Frs (n : Nat) (bs : List (List Int)) (c : Nat) (fr : Nat → Bool) : Prop where
  so : ∀ m, m < 2 ^ n → fr m = true → SubB bs m
  co : ∀ b ∈ bs, ∀ m, (∀ t : Nat, m.testBit t = true → (t : Int) ∈ b) → (m = maskN b ∨ ∃ t : Nat, (t : Int) ∈ b ∧ m.testBit t = false ∧ c ≤ m ||| 2 ^ t) → fr m = true
theorem frs_end {n : Nat} {bs : List (List Int)} {c : Nat} (hc : c ≤ 1) (ne : bs ≠ []) (hb : ∀ b ∈ bs, LotOk n b) {fr : Nat → Bool} (F : Frs n bs c fr) : ∀ m, m < 2 ^ n → fr m = frN bs m := by
  intro m hm
  have key : fr m = true ↔ SubB bs m := by
    refine ⟨F.so m hm, ?_⟩
    rintro ⟨b, hbm, h⟩
    refine F.co b hbm m h ?_
    by_cases e : m = maskN b
    · exact .inl e
    · right
      by_cases q : ∃ t : Nat, (t : Int) ∈ b ∧ m.testBit t = false
      · obtain ⟨t, h1, h2⟩ := q
        have := lt_or h2
        exact ⟨t, h1, h2, by omega⟩
      · refine absurd (Nat.eq_of_testBit_eq fun i => ?_) e
        cases a : m.testBit i with
        | true => exact ((maskN_bit (lot_nn (hb b hbm))).mpr (h i a)).symm
        | false =>
          cases z : (maskN b).testBit i with
          | false => rfl
          | true => exact absurd ⟨i, (maskN_bit (lot_nn (hb b hbm))).mp z, a⟩ q
  have k2 := key.trans (frN_iff ne).symm
  cases a : fr m <;> cases b : frN bs m
  · rfl
  · rw [k2.mpr b] at a; cases a
  · rw [k2.mp a] at b; cases b
  · rfl
theorem mem_xors {y m : Nat} : m ∈ ((bitsN y).map fun x => y ^^^ x) ↔ ∃ t : Nat, y.testBit t = true ∧ m = y ^^^ 2 ^ t := by
  rw [List.mem_map]
  constructor
  · rintro ⟨x, hx, rfl⟩
    obtain ⟨t, ht, rfl⟩ := mem_bits.mp hx
    exact ⟨t, ht, rfl⟩
  · rintro ⟨t, ht, rfl⟩
    exact ⟨_, mem_bits.mpr ⟨t, ht, rfl⟩, rfl⟩
/-- the mask y is walked -/
theorem frs_step {n : Nat} {bs : List (List Int)} {y : Nat} (hy : y < 2 ^ n) (hb : ∀ b ∈ bs, LotOk n b) {fr fr' : Nat → Bool} (F : Frs n bs (y + 1) fr)
    (h : ∀ m, fr' m = (fr m || (fr y && decide (m ∈ (bitsN y).map fun x => y ^^^ x)))) : Frs n bs y fr' where
  so := fun m hm hf => by
    rw [h, Bool.or_eq_true, Bool.and_eq_true, decide_eq_true_eq, mem_xors] at hf
    rcases hf with z | ⟨z, t, ht, e⟩
    · exact F.so m hm z
    · obtain ⟨b, hbm, q⟩ := F.so y hy z
      refine ⟨b, hbm, fun u hu => q u ?_⟩
      rw [e, test_xor ht, Bool.and_eq_true] at hu
      exact hu.1
  co := fun b hbm m hm hx => by
    rw [h, Bool.or_eq_true, Bool.and_eq_true, decide_eq_true_eq, mem_xors]
    rcases hx with e | ⟨t, h1, h2, h3⟩
    · exact .inl (F.co b hbm m hm (.inl e))
    · by_cases hge : y + 1 ≤ m ||| 2 ^ t
      · exact .inl (F.co b hbm m hm (.inr ⟨t, h1, h2, hge⟩))
      · have e : m ||| 2 ^ t = y := by omega
        right
        have ht : y.testBit t = true := by rw [← e, test_or, decide_eq_true rfl]; simp
        refine ⟨?_, t, ht, by rw [← e, xor_or h2]⟩
        have hyb : ∀ u : Nat, y.testBit u = true → (u : Int) ∈ b := fun u hu => by
          rw [← e, test_or, Bool.or_eq_true] at hu
          rcases hu with z | z
          · exact hm u z
          · rw [of_decide_eq_true z]; exact h1
        refine F.co b hbm y hyb ?_
        by_cases e2 : y = maskN b
        · exact .inl e2
        · right
          by_cases q : ∃ u : Nat, (u : Int) ∈ b ∧ y.testBit u = false
          · obtain ⟨u, u1, u2⟩ := q
            have := lt_or u2
            exact ⟨u, u1, u2, by omega⟩
          · refine absurd (Nat.eq_of_testBit_eq fun i => ?_) e2
            cases a : y.testBit i with
            | true => exact ((maskN_bit (lot_nn (hb b hbm))).mpr (hyb i a)).symm
            | false =>
              cases z : (maskN b).testBit i with
              | false => rfl
              | true => exact absurd ⟨i, (maskN_bit (lot_nn (hb b hbm))).mp z, a⟩ q
theorem frs_start {n : Nat} {bs : List (List Int)} (hb : ∀ b ∈ bs, LotOk n b) {fr : Nat → Bool} (h : ∀ m, m < 2 ^ n → (fr m = true ↔ ∃ b ∈ bs, m = maskN b)) : Frs n bs (2 ^ n) fr where
  so := fun m hm hf => by
    obtain ⟨b, hbm, rfl⟩ := (h m hm).mp hf
    exact ⟨b, hbm, fun t ht => (maskN_bit (lot_nn (hb b hbm))).mp ht⟩
  co := fun b hbm m hm hx => by
    have key : ∀ m, (∀ t : Nat, m.testBit t = true → (t : Int) ∈ b) → m < 2 ^ n := fun m hm => by
      refine Nat.lt_pow_two_of_testBit _ fun i hi => ?_
      cases q : m.testBit i with
      | false => rfl
      | true =>
        have := (hb b hbm).2 _ (hm i q)
        omega
    rcases hx with e | ⟨t, h1, h2, h3⟩
    · exact (h m (key m hm)).mpr ⟨b, hbm, e⟩
    · have : m ||| 2 ^ t < 2 ^ n := key _ fun u hu => by
        rw [test_or, Bool.or_eq_true] at hu
        rcases hu with z | z
        · exact hm u z
        · rw [of_decide_eq_true z]; exact h1
      omega
/-! ## ranks of masks -/
theorem rank_mono {bs : List (List Int)} (ne : bs ≠ []) {a c : List Int} (na : a.Nodup) (h : ∀ x ∈ a, x ∈ c) : rankL bs a ≤ rankL bs c := by
  obtain ⟨b, hb, e⟩ := rankL_at ne a
  rw [← e]
  refine Nat.le_trans ?_ (rankL_ge (a := c) hb)
  refine nd_len ((na.filter _ : (sharedL a b).Nodup)) fun x hx => ?_
  obtain ⟨h1, h2⟩ := ms.mp hx
  exact ms.mpr ⟨h x h1, h2⟩
theorem lotN_nd (m : Nat) : (lotN m).Nodup := pw_nodup (lotN_pw m)
/-- no free mask: the rank is one of a thing less, and none is more -/
theorem rk_max {bs : List (List Int)} (ne : bs ≠ []) {m : Nat} (hf : frN bs m = false) : (∃ t : Nat, m.testBit t = true ∧ rkN bs (m ^^^ 2 ^ t) = rkN bs m) ∧ ∀ t : Nat, m.testBit t = true → rkN bs (m ^^^ 2 ^ t) ≤ rkN bs m := by
  have up : ∀ t : Nat, m.testBit t = true → rkN bs (m ^^^ 2 ^ t) ≤ rkN bs m := fun t ht => by
    refine rank_mono ne (lotN_nd _) fun x hx => ?_
    rw [lotN_xor ht] at hx
    exact (mem_lessL.mp hx).1
  refine ⟨?_, up⟩
  obtain ⟨b, hb, e⟩ := rankL_at ne (lotN m)
  have hn : ¬ ∀ x ∈ lotN m, x ∈ b := fun z => by
    have h2 : frN bs m = true := (frN_iff ne).mpr ⟨b, hb, fun t ht => z _ (mem_lotN'.mpr ht)⟩
    rw [h2] at hf
    cases hf
  obtain ⟨x, hx, hxb⟩ : ∃ x, x ∈ lotN m ∧ x ∉ b := by
    refine Classical.byContradiction fun z => hn fun x hx => Classical.byContradiction fun y => z ⟨x, hx, y⟩
  obtain ⟨t, ht, rfl⟩ := mem_lotN.mp hx
  refine ⟨t, ht, Nat.le_antisymm (up t ht) ?_⟩
  show rankL bs (lotN m) ≤ rankL bs (lotN (m ^^^ 2 ^ t))
  rw [← e, lotN_xor ht]
  refine Nat.le_trans ?_ (rankL_ge (a := lessL (lotN m) [(t : Int)]) hb)
  refine nd_len ((lotN_nd m).filter _ : (sharedL (lotN m) b).Nodup) fun y hy => ?_
  obtain ⟨h1, h2⟩ := ms.mp hy
  refine ms.mpr ⟨mem_lessL.mpr ⟨h1, fun z => ?_⟩, h2⟩
  rw [List.mem_singleton.mp z] at h2
  exact hxb h2
end Fv
namespace Fw
open PySem PySem.Spec PyProof.Rows L2 Fr
section
variable {X : Cx} {L : Ly} {e : Expr}
/-- [x] * n -/
def plRep (ga gb : Px) : Pl := ⟨fun ρ k => ga.f ρ fun x ρ1 => gb.f ρ1 fun y ρ2 => ∃ ds i, x = .lst ds ∧ y = .int i ∧ (0 ≤ i ∧ i < 2 ^ 62) ∧ ds.length * i.toNat ≤ sizeLine ∧ k (List.replicate i.toNat ds).flatten ρ2,
  fun h => ga.mono fun _ _ => gb.mono fun _ _ ⟨ds, i, a, b, c, d, q⟩ => ⟨ds, i, a, b, c, d, h _ _ q⟩⟩
theorem dvs_rep {G : Hp} {xs : List V} {ds : List Da} (h : DvAll L G xs ds) : ∀ n : Nat, DvAll L G (List.replicate n xs).flatten (List.replicate n ds).flatten
  | 0 => .nil
  | n + 1 => by
    rw [List.replicate_succ, List.replicate_succ, List.flatten_cons, List.flatten_cons]
    exact dvs_app h (dvs_rep h n)
theorem w_nrep {ga gb : Px} (p : PE X e (tOp rRep (tW L ga) (tW L gb))) : PE X e (tWN L (plRep ga gb)) := PE.imp p fun σ H Q ⟨B, G, ρ, r, h⟩ => by
  refine ⟨B, G, ρ, r, ga.mono (fun x ρ1 h1 v G1 H1 r1 s1 d1 => ⟨B, G1, ρ1, r1, gb.mono ?_ h1⟩) h⟩
  rintro y ρ2 ⟨ds, i, rfl, rfl, ⟨i0, i1⟩, hl, q⟩ u G2 H2 r2 s2 d2
  cases d2
  obtain ⟨a, xs, rfl, hs, ha⟩ := dv_lst (dv_same s2 d1)
  refine ⟨a, i, xs, rfl, rfl, r2.gh _ _ hs, by omega, by omega, by rw [dvs_len ha]; exact hl, fun p hp => ?_⟩
  exact q p _ G2 _ (r2.kp hp) (r2.h0 hp) (fun q hq e => by
    have := (r2.ks q hq).1
    rw [e, hp] at this
    cases this) (s1.trans s2) (dvs_rep ha _)
end
end Fw
namespace Fv
open PySem PySem.Spec PyProof.Rows L2 Fr Fw Fs
/-! # the tables -/
def freeTab (n : Nat) (bs : List (List Int)) : List Bool := (List.range (2 ^ n)).map (frN bs)
def rankTab (n : Nat) (bs : List (List Int)) : List Nat := (List.range (2 ^ n)).map (rkN bs)
theorem getD_set {α : Type} {fl : List α} {i m : Nat} {v d : α} (hi : i < fl.length) : (fl.set i v).getD m d = if m = i then v else fl.getD m d := by
  rw [List.getD_eq_getElem?_getD, List.getD_eq_getElem?_getD, List.getElem?_set]
  by_cases e : i = m
  · subst e
    simp [hi]
  · have e' : ¬ m = i := fun z => e z.symm
    simp [e, e']
theorem tab_ext {α : Type} {fl : List α} {N : Nat} {f : Nat → α} {d : α} (hl : fl.length = N) (h : ∀ m, m < N → fl.getD m d = f m) : fl = (List.range N).map f := by
  refine List.ext_getElem? fun i => ?_
  by_cases hi : i < N
  · rw [List.getElem?_map, List.getElem?_range hi]
    have q := h i hi
    have hi' : i < fl.length := by omega
    rw [List.getD_eq_getElem?_getD, List.getElem?_eq_getElem hi'] at q
    rw [List.getElem?_eq_getElem hi']
    simpa using q
  · rw [List.getElem?_eq_none (by omega), List.getElem?_eq_none (by simp; omega)]
theorem tab_at {α : Type} {N m : Nat} {f : Nat → α} (h : m < N) : ((List.range N).map f)[m]? = some (f m) := by
  rw [List.getElem?_map, List.getElem?_range h]
  rfl
theorem getD_at2 {α : Type} {fl : List α} {m : Nat} {d : α} (h : m < fl.length) : fl[m]? = some (fl.getD m d) := by
  rw [List.getD_eq_getElem?_getD, List.getElem?_eq_getElem h]
  rfl
theorem ixN_nat2 {n j : Nat} (hj : j < n) : L2.ixN n (j : Int) = some j := by
  unfold L2.ixN
  rw [if_pos (by omega), if_pos (by omega)]
  simp
theorem pow_256 {n : Nat} (h : n ≤ 8) : 1 ≤ 2 ^ n ∧ 2 ^ n ≤ 256 := ⟨Nat.two_pow_pos n, Nat.le_trans (Nat.pow_le_pow_right (by decide) h) (by decide)⟩
theorem rep_one {α : Type} (k : Nat) (x : α) : (List.replicate k [x]).flatten = List.replicate k x := by simp
section
variable {P : Program} {w : World} {L : Ly} {T : Xt} {mg : Str → Option Value} {base : Heap} {f fI : Addr} {fd : FuncData} {cB cE cL : Addr}
abbrev s_lot_of : Stmt := topS 11
theorem sc_lot_of : FnScope ["mask", "thing"] ["mask"] (C8.fnScope s_lot_of) := C8.fnScope_by (by decide +kernel)
def fLotOf : Pf := ⟨fun xs k => ∃ m : Nat, xs = [.int (m : Int)] ∧ m < 2 ^ 64 ∧ k (ti (lotN m)), fun h ⟨t, a, c, q⟩ => ⟨t, a, c, h _ q⟩⟩
theorem ok_lot_of (Fd : C8.Def L.K mg "lot_of" s_lot_of f fd) (b : Binds L.K fd ["mask"] []) (B : Bw mg) : CalG P w L.K mg base C8.CX0 1 "lot_of" (spF L fLotOf) := by
  have sc := sc_lot_of
  refine calF (n := 1) Fd b sc ?_ (fun vs h => start_eq (by rw [h]; rfl)) fun cdv A outer s H E hr hgu => ?_
  · rintro ds k ⟨t, rfl, _⟩
    rfl
  refine ⟨_, w_one (w_ret (ps_ret (w_tCB snd_tupOf (pe_callTy call_tuple_of (by rfl) B.tuple (by decide +kernel) (w_cons (w_lc (sndv_N (by decide)) (pe_lc (own := [("thing", 1)]) (by rfl) sc.nd (w_ir1 (pi_range1 rfl B.range (w_cons (w_bits (pe_bits (w_v (pv 0)) (by rfl))) w_nil))) (blkOk_by (by kernel_rfl)) (fun _ _ _ _ _ => (pg_name (i := 1) sc.nd rfl (by first | exact Or.inl rfl | exact Or.inr rfl)))
    (fun _ _ _ _ _ => w_tone (w_truI (pt_truth (w_op op_and snd_andI (w_op op_shr snd_shr (w_v (pv 0)) (w_v (pv 1))) (w_int (kd := 0) pe_int)) (fun _ => rfl)))) (fun _ _ _ _ _ => (w_v (pv 1))))) w_nil))))), ?_⟩
  rintro ds kk ⟨m, rfl, hm, k⟩
  have hb := bits_le hm
  refine ⟨_, rfl, (m : Int), rfl, _, rfl, by omega, by omega, ?_⟩
  rw [Int.toNat_natCast]
  refine lcP_src (fun i : Nat => Da.int (0 + (i : Nat))) (fun t => m.testBit t) (fun t : Nat => Da.int (t : Int)) (fun t ht => ?_) (by simp only [List.length_nil, Nat.zero_add, List.length_range]; exact Nat.le_trans hb (by decide)) ?_
  · have ht' : t < 64 := Nat.lt_of_lt_of_le (List.mem_range.mp ht) hb
    rw [Int.zero_add]
    exact ⟨_, rfl, _, rfl, (m : Int), (t : Int), rfl, rfl, by omega, _, 1, rfl, rfl, trivial, _, rfl, shr_bit m t, fun _ => ⟨_, rfl, rfl, rfl⟩, fun _ => rfl⟩
  · have e : ((List.range (Builtin.Int.intBits (m : Int))).filter fun t => m.testBit t).map (fun t : Nat => Da.int (t : Int)) = (lotN m).map Da.int := by
      unfold lotN
      rw [List.map_map]
      rfl
    rw [List.nil_append, e]
    exact ⟨_, .inl rfl, k⟩
abbrev s_free_table : Stmt := topS 13
theorem sc_free_table : FnScope ["book", "free", "base", "mask", "bit"] ["book"] (C8.fnScope s_free_table) := C8.fnScope_by (by decide +kernel)
def fTabB (r : Nat → List (List Int) → Da) : Pf := ⟨fun xs k => ∃ n m bs, xs = [bkD n bs m] ∧ Sk n m bs ∧ k (r n bs), fun h ⟨n, m, bs, a, b, q⟩ => ⟨n, m, bs, a, b, h _ q⟩⟩
def freeD (n : Nat) (bs : List (List Int)) : Da := .lst ((freeTab n bs).map Da.bl)
def rankD (n : Nat) (bs : List (List Int)) : Da := .lst (kd (rankTab n bs))
theorem sk_lot {n m : Nat} {bs : List (List Int)} (S : Sk n m bs) : ∀ b ∈ bs, LotOk n b := fun b hb => (sk_lots S b hb).1
theorem ok_free_table (LB : LyB L cB cE) (Fd : C8.Def L.K mg "free_table" s_free_table f fd) (b : Binds L.K fd ["book"] []) (B : Bw mg) (C : BkC L.K mg cB fI) (c_mask_of : CalG P w L.K mg base C8.CX0 1 "mask_of" (spF L fMask)) (c_bits_of : CalG P w L.K mg base C8.CX0 1 "bits_of" (spF L fBits)) :
    CalG P w L.K mg base C8.CX0 2 "free_table" (spF L (fTabB freeD)) := by
  have sc := sc_free_table
  refine calF (n := 4) Fd b sc ?_ (fun vs h => start_eq (by rw [h]; rfl)) fun cdv A outer s H E hr hgu => ?_
  · rintro ds k ⟨n, m, bs, rfl, _⟩
    rfl
  refine ⟨_, w_seq (w_setZ (ps_set (i := 1) sc.nd rfl (by first | exact Or.inl rfl | exact Or.inr rfl) (w_zN (w_nrep (pe_op op_rep (w_lst (w_cons (w_bl pe_bl) w_nil)) (w_op op_shl snd_shl (w_int (kd := 0) pe_int) (w_fld LB C.cls C.size lk_size (pe_fld (w_v (pv 0)) (by rfl)))))))))
  (w_seq (w_forI snd_tgN (ps_for PassesOwn.never rfl (w_it (pi_tup (w_fld LB C.cls C.bases lk_bases (pe_fld (w_v (pv 0)) (by rfl))))) (pg_name (i := 2) sc.nd rfl (by first | exact Or.inl rfl | exact Or.inr rfl))
   (w_one (w_put (ps_asg (w_bl pe_bl) (pg_sub (pv 1) (w_call c_mask_of hr (by decide) hgu rfl (w_cons (w_v (pv 2)) w_nil)) set_list))))))
  (w_seq (w_forI snd_tgN (ps_for PassesOwn.never rfl (w_ir3 (pi_range3 rfl B.range (w_cons (w_op op_sub snd_sub (w_lenG (pe_callB call_len_seq (by rfl) B.len (by decide +kernel) (pa_cons (pv 1) pa_nil))) (w_int (kd := 0) pe_int)) (w_cons (w_int (kd := 0) pe_int) (w_cons (w_neg (pe_un un_neg (w_int (kd := 0) pe_int))) w_nil))))) (pg_name (i := 3) sc.nd rfl (by first | exact Or.inl rfl | exact Or.inr rfl))
   (w_one (w_if (ps_if (w_val (pt_val (w_ixG (pe_ix ix_list (pv 1) (w_v (pv 3)) (fun _ _ => rfl)))))
     (w_one (w_forI snd_tgN (ps_for PassesOwn.never rfl (w_il (pi_list (w_call c_bits_of hr (by decide) hgu rfl (w_cons (w_v (pv 3)) w_nil)))) (pg_name (i := 4) sc.nd rfl (by first | exact Or.inl rfl | exact Or.inr rfl))
       (w_one (w_put (ps_asg (w_bl pe_bl) (pg_sub (pv 1) (w_op op_xor snd_xorI (w_v (pv 3)) (w_v (pv 4))) set_list)))))))
     (w_snil pss_nil))))))
  (w_one (w_ret (ps_ret (w_frz (pv 1))))))), ?_⟩
  rintro ds kk ⟨n, m, bs, rfl, S, k⟩
  have hn := S.n8
  obtain ⟨hN1, hN2⟩ := pow_256 hn
  have hlo := sk_lot S
  refine ⟨by decide, _, rfl, _, _, rfl, rfl, 1, (n : Int), rfl, rfl, ⟨by omega, by omega, by decide⟩, [.bl false], _, rfl, rfl, ?_, ?_, ?_⟩
  · rw [shl_int]
    have : (2 ^ n : Nat) < 2 ^ 62 := by
      have : (256 : Nat) < 2 ^ 62 := by decide
      omega
    exact ⟨by omega, by exact_mod_cast this⟩
  · rw [shl_int, Int.toNat_natCast, List.length_singleton, Nat.one_mul]
    exact Nat.le_trans hN2 (by decide)
  rw [shl_int, Int.toNat_natCast, rep_one]
  intro p hp
  -- the bases are marked
  have e0 : List.replicate (2 ^ n) (Da.bl false) = (List.replicate (2 ^ n) false).map Da.bl := by rw [List.map_replicate]
  rw [e0]
  have hp' : p ∉ own [some (Sl.dat (bkD n bs m)), none, none, none, none] := hp
  refine ⟨_, rfl, _, _, rfl, rfl, _, rfl, ?_⟩
  refine loopF_inv (fun j ρ => ∃ (fl : List Bool) (x2 : Option Sl), ρ = [some (.dat (bkD n bs m)), some (.gro p (fl.map Da.bl)), x2, none, none] ∧ fl.length = 2 ^ n ∧ ∀ x, x < 2 ^ n → fl.getD x false = decide (x ∈ (bs.take j).map maskN)) ⟨_, none, rfl, by simp, fun x hx => ?_⟩ ?_ ?_
  · rw [List.getD_eq_getElem?_getD, List.getElem?_replicate, if_pos hx]
    simp
  · rintro j x ρ hj ⟨fl, x2, rfl, hfl, hfr⟩
    obtain ⟨c, hc, rfl⟩ := map_get hj
    have hcb := List.mem_of_getElem? hc
    have hlc := hlo c hcb
    have hml := mask_lt hlc
    refine ⟨p, _, rfl, _, rfl, c, rfl, fun y hy => by have := hlc.2 y hy; omega, _, (maskN c : Nat), maskN c, rfl, rfl, ?_, ?_⟩
    · rw [List.length_map, hfl]
      exact ixN_nat2 hml
    · refine ⟨fl.set (maskN c) true, some (.dat (ti c)), ?_, by rw [List.length_set]; exact hfl, fun x hx => ?_⟩
      · rw [List.map_set]
        rfl
      · rw [getD_set (by omega), take_more hc, List.map_append, hfr x hx]
        by_cases e : x = maskN c
        · simp [e]
        · simp [e]
  rintro ρ ⟨fl, x2, rfl, hfl, hfr⟩
  rw [List.length_map, List.take_length] at hfr
  have F0 : Frs n bs (2 ^ n) fun x => fl.getD x false := frs_start hlo fun x hx => by
    rw [hfr x hx, decide_eq_true_eq, List.mem_map]
    exact ⟨fun ⟨c, h1, h2⟩ => ⟨c, h1, h2.symm⟩, fun ⟨c, h1, h2⟩ => ⟨c, h1, h2.symm⟩⟩
  refine ⟨p, _, rfl, _, 1, rfl, rfl, trivial, _, rfl, _, _, rfl, ⟨?_, ?_, by decide, by decide⟩, ?_⟩
  · rw [List.length_map, hfl]; omega
  · rw [List.length_map, hfl]
    have : (256 : Int) < 2 ^ 62 := by decide
    omega
  have ecnt : (((fl.map Da.bl).length : Int) - 1 - 0).toNat = 2 ^ n - 1 := by rw [List.length_map, hfl]; omega
  have elo : (((fl.map Da.bl).length : Int) - 1) = ((2 ^ n - 1 : Nat) : Int) := by rw [List.length_map, hfl]; omega
  rw [ecnt, elo]
  have hlen : (dnD ((2 ^ n - 1 : Nat) : Int) (2 ^ n - 1)).length = 2 ^ n - 1 := by simp [dnD]
  refine loopF_inv (fun j ρ => ∃ (fl : List Bool) (x2 x3 x4 : Option Sl), ρ = [some (.dat (bkD n bs m)), some (.gro p (fl.map Da.bl)), x2, x3, x4] ∧ fl.length = 2 ^ n ∧ Frs n bs (2 ^ n - j) fun x => fl.getD x false) ⟨fl, x2, none, none, rfl, hfl, F0⟩ ?_ ?_
  · rintro j x ρ hj ⟨fl, x2, x3, x4, rfl, hfl, F⟩
    have hjn : j < 2 ^ n - 1 := by
      have := (List.getElem?_eq_some_iff.mp hj).1
      rwa [hlen] at this
    obtain ⟨j', hj', rfl⟩ := map_get hj
    have ej : j' = j := by
      rw [List.getElem?_range hjn] at hj'
      exact (Option.some.inj hj').symm
    subst ej
    have em : ((2 ^ n - 1 : Nat) : Int) - (j' : Int) = ((2 ^ n - 1 - j' : Nat) : Int) := by omega
    rw [em]
    generalize hy : 2 ^ n - 1 - j' = y
    have hyn : y < 2 ^ n := by omega
    have ey : 2 ^ n - j' = y + 1 := by omega
    have ey2 : 2 ^ n - (j' + 1) = y := by omega
    rw [ey] at F
    rw [ey2]
    have hat : L2.atI (fl.map Da.bl) (y : Int) = some (Da.bl (fl.getD y false)) := by
      refine Fw.atI_nat ?_
      rw [List.getElem?_map, getD_at2 (d := false) (by omega)]
      rfl
    refine ⟨p, _, rfl, _, rfl, _, (y : Int), _, rfl, rfl, hat, _, rfl, bite (fun hb => ?_) fun hb => ?_⟩
    · refine ⟨_, rfl, y, rfl, Nat.lt_of_lt_of_le hyn (Nat.le_trans hN2 (by decide)), _, rfl, ?_⟩
      refine loopF_inv (fun i ρ => ∃ (gl : List Bool) (x4 : Option Sl), ρ = [some (.dat (bkD n bs m)), some (.gro p (gl.map Da.bl)), x2, some (.dat (.int (y : Int))), x4] ∧ gl.length = 2 ^ n ∧ ∀ z, gl.getD z false = (fl.getD z false || decide (z ∈ ((bitsN y).take i).map fun x => y ^^^ x))) ⟨fl, x4, rfl, hfl, fun z => by simp⟩ ?_ ?_
      · rintro i z ρ hi ⟨gl, x4, rfl, hgl, hg⟩
        obtain ⟨bt, hbt, rfl⟩ := map_get hi
        obtain ⟨t, ht, rfl⟩ := mem_bits.mp (List.mem_of_getElem? hbt)
        have hlt : y ^^^ 2 ^ t < 2 ^ n := Nat.lt_trans (xor_lt ht) hyn
        refine ⟨p, _, rfl, _, rfl, _, rfl, (y : Int), ((2 ^ t : Nat) : Int), rfl, rfl, trivial, _, _, y ^^^ 2 ^ t, rfl, rfl, ?_, ?_⟩
        · rw [xor_int, List.length_map, hgl]
          exact ixN_nat2 hlt
        · refine ⟨gl.set (y ^^^ 2 ^ t) true, some (.dat (.int ((2 ^ t : Nat) : Int))), ?_, by rw [List.length_set]; exact hgl, fun z => ?_⟩
          · rw [List.map_set]
            rfl
          · rw [getD_set (by omega), take_more hbt, List.map_append, hg z]
            by_cases e : z = y ^^^ 2 ^ t
            · simp [e]
            · simp [e]
      · rintro ρ ⟨gl, x4, rfl, hgl, hg⟩
        have el : (kd (bitsN y)).length = (bitsN y).length := by unfold kd; rw [List.length_map]
        rw [el, List.take_length] at hg
        refine ⟨gl, x2, some (.dat (.int (y : Int))), x4, rfl, hgl, frs_step hyn hlo F fun z => ?_⟩
        show gl.getD z false = (fl.getD z false || (fl.getD y false && decide (z ∈ (bitsN y).map fun x => y ^^^ x)))
        rw [hg z, hb, Bool.true_and]
    · refine ⟨fl, x2, some (.dat (.int (y : Int))), x4, rfl, hfl, frs_step hyn hlo F fun z => ?_⟩
      show fl.getD z false = (fl.getD z false || (fl.getD y false && decide (z ∈ (bitsN y).map fun x => y ^^^ x)))
      rw [hb, Bool.false_and, Bool.or_false]
  · rintro ρ ⟨fl, x2, x3, x4, rfl, hfl, F⟩
    rw [hlen] at F
    refine ⟨p, _, rfl, ?_⟩
    have e := tab_ext hfl (frs_end (by omega) S.ne hlo F)
    rw [e]
    exact k
end
end Fv
namespace Fv
open PySem PySem.Spec PyProof.Rows L2 Fr Fw Fs
theorem kd_map {l : List Nat} : kd l = l.map fun k : Nat => Da.int (k : Int) := rfl
/-! ## which things a closure has, as a mask -/
theorem mem_clos {n : Nat} {bs : List (List Int)} {a : List Int} {x : Int} : x ∈ closL n bs a ↔ ∃ i : Nat, i < n ∧ rankL bs (withL a [(i : Int)]) = rankL bs a ∧ x = (i : Int) := by
  unfold closL
  rw [List.mem_map]
  constructor
  · rintro ⟨i, hi, rfl⟩
    obtain ⟨h1, h2⟩ := List.mem_filter.mp hi
    exact ⟨i, List.mem_range.mp h1, of_decide_eq_true h2, rfl⟩
  · rintro ⟨i, h1, h2, rfl⟩
    exact ⟨i, List.mem_filter.mpr ⟨List.mem_range.mpr h1, decide_eq_true h2⟩, rfl⟩
theorem clos_ok {n : Nat} {bs : List (List Int)} {a : List Int} : LotOk n (closL n bs a) := ⟨by
  unfold closL
  refine List.pairwise_map.mpr (List.Pairwise.imp ?_ ((pw_rangeN _).filter _))
  intro a b h
  omega, fun x hx => by
  obtain ⟨i, h1, _, rfl⟩ := mem_clos.mp hx
  omega⟩
theorem full_bit {n t : Nat} : (2 ^ n - 1).testBit t = decide (t < n) := Nat.testBit_two_pow_sub_one n t
/-- what the loop makes of the mask -/
theorem clos_mask {n m c : Nat} {bs : List (List Int)} (hm : m < 2 ^ n) (h : ∀ u : Nat, c.testBit u = true ↔ m.testBit u = true ∨ (u < n ∧ rkN bs (m ||| 2 ^ u) = rkN bs m)) : c = maskN (closL n bs (lotN m)) := by
  refine Nat.eq_of_testBit_eq fun u => ?_
  have k1 := maskN_bit (i := u) (lot_nn (clos_ok (n := n) (bs := bs) (a := lotN m)))
  rw [mem_clos] at k1
  have k2 : c.testBit u = true ↔ (maskN (closL n bs (lotN m))).testBit u = true := by
    rw [h, k1]
    constructor
    · rintro (z | ⟨z1, z2⟩)
      · refine ⟨u, bit_below hm z, ?_, rfl⟩
        rw [← lotN_or]
        have e : m ||| 2 ^ u = m := by
          refine Nat.eq_of_testBit_eq fun i => ?_
          rw [test_or]
          by_cases e : i = u
          · subst e; rw [z]; rfl
          · simp [e]
        rw [e]
      · refine ⟨u, z1, ?_, rfl⟩
        rw [← lotN_or]
        exact z2
    · rintro ⟨i, z1, z2, z3⟩
      have e : u = i := Int.ofNat_inj.mp z3
      subst e
      rw [← lotN_or] at z2
      exact .inr ⟨z1, z2⟩
  cases a : c.testBit u <;> cases b : (maskN (closL n bs (lotN m))).testBit u
  · rfl
  · rw [k2.mpr b] at a; cases a
  · rw [k2.mp a] at b; cases b
  · rfl
theorem rk0 {bs : List (List Int)} (ne : bs ≠ []) : rkN bs 0 = 0 := by
  have h := rank_le' ne (lotN 0)
  have e : lotN 0 = [] := by
    cases q : lotN 0 with
    | nil => rfl
    | cons x r =>
      obtain ⟨t, ht, _⟩ := mem_lotN.mp (show x ∈ lotN 0 by rw [q]; exact List.mem_cons_self)
      rw [Nat.zero_testBit] at ht
      cases ht
  rw [e] at h
  unfold rkN
  rw [e]
  simpa using h
section
variable {P : Program} {w : World} {L : Ly} {T : Xt} {mg : Str → Option Value} {base : Heap} {f fI : Addr} {fd : FuncData} {cB cE cL : Addr}
abbrev s_rank_table : Stmt := topS 14
theorem sc_rank_table : FnScope ["book", "free", "ranks", "mask", "bits", "bit"] ["book"] (C8.fnScope s_rank_table) := C8.fnScope_by (by decide +kernel)
theorem ok_rank_table (LB : LyB L cB cE) (Fd : C8.Def L.K mg "rank_table" s_rank_table f fd) (b : Binds L.K fd ["book"] []) (B : Bw mg) (c_free_table : CalG P w L.K mg base C8.CX0 2 "free_table" (spF L (fTabB freeD))) (c_bits_of : CalG P w L.K mg base C8.CX0 1 "bits_of" (spF L fBits)) :
    CalG P w L.K mg base C8.CX0 3 "rank_table" (spF L (fTabB rankD)) := by
  have sc := sc_rank_table
  refine calF (n := 5) Fd b sc ?_ (fun vs h => start_eq (by rw [h]; rfl)) fun cdv A outer s H E hr hgu => ?_
  · rintro ds k ⟨n, m, bs, rfl, _⟩
    rfl
  refine ⟨_, w_seq (w_set (ps_set (i := 1) sc.nd rfl (by first | exact Or.inl rfl | exact Or.inr rfl) (w_call c_free_table hr (by decide) hgu rfl (w_cons (w_v (pv 0)) w_nil))))
  (w_seq (w_setZ (ps_set (i := 2) sc.nd rfl (by first | exact Or.inl rfl | exact Or.inr rfl) (w_zN (w_nrep (pe_op op_rep (w_lst (w_cons (w_int (kd := 0) pe_int) w_nil)) (w_tCB snd_len (pe_callB call_len_seq (by rfl) B.len (by decide +kernel) (w_cons (w_v (pv 1)) w_nil))))))))
  (w_seq (w_forI snd_tgN (ps_for PassesOwn.never rfl (w_ir2 (pi_range2 rfl B.range (w_cons (w_int (kd := 0) pe_int) (w_cons (w_tCB snd_len (pe_callB call_len_seq (by rfl) B.len (by decide +kernel) (w_cons (w_v (pv 1)) w_nil))) w_nil)))) (pg_name (i := 3) sc.nd rfl (by first | exact Or.inl rfl | exact Or.inr rfl))
   (w_seq (w_set (ps_set (i := 4) sc.nd rfl (by first | exact Or.inl rfl | exact Or.inr rfl) (w_call c_bits_of hr (by decide) hgu rfl (w_cons (w_v (pv 3)) w_nil))))
    (w_one (w_if (ps_if (w_val (pt_val (w_ix ix_list snd_ix (w_v (pv 1)) (w_v (pv 3)) (fun _ _ => rfl))))
     (w_one (w_put (ps_asg (w_tCB snd_len (pe_callB call_len_seq (by rfl) B.len (by decide +kernel) (w_cons (w_v (pv 4)) w_nil))) (pg_sub (pv 2) (w_v (pv 3)) set_list))))
     (w_one (w_put (ps_asg (w_tCB snd_max (pe_callB (cr_max rfl) (by rfl) B.max (by decide +kernel) (w_cons (w_lc (sndv_N (by decide)) (pe_lc (own := [("bit", 5)]) (by rfl) sc.nd (w_il (pi_list (w_v (pv 4)))) (blkOk_by (by kernel_rfl)) (fun _ _ _ _ _ => (pg_name (i := 5) sc.nd rfl (by first | exact Or.inl rfl | exact Or.inr rfl))) (fun _ _ _ _ _ => w_tnil) (fun _ _ _ _ _ => (w_ixG (pe_ix ix_list (pv 2) (w_op op_xor snd_xorI (w_v (pv 3)) (w_v (pv 5))) (fun _ _ => rfl)))))) w_nil))) (pg_sub (pv 2) (w_v (pv 3)) set_list))))))))))
  (w_one (w_ret (ps_ret (w_frz (pv 2))))))), ?_⟩
  rintro ds kk ⟨n, m, bs, rfl, S, k⟩
  have hn := S.n8
  obtain ⟨hN1, hN2⟩ := pow_256 hn
  have lF : ((freeTab n bs).map Da.bl).length = 2 ^ n := by unfold freeTab; rw [List.length_map, List.length_map, List.length_range]
  refine ⟨_, rfl, n, m, bs, rfl, S, ?_⟩
  refine ⟨by decide, _, rfl, _, .inl rfl, [.int 0], _, rfl, rfl, ?_, ?_, ?_⟩
  · rw [lF]
    have : (256 : Int) < 2 ^ 62 := by decide
    omega
  · rw [lF, Int.toNat_natCast, List.length_singleton, Nat.one_mul]
    exact Nat.le_trans hN2 (by decide)
  rw [lF, Int.toNat_natCast, rep_one]
  intro p hp
  have e0 : List.replicate (2 ^ n) (Da.int 0) = kd (List.replicate (2 ^ n) 0) := by
    unfold kd
    rw [List.map_replicate]
    rfl
  rw [e0]
  refine ⟨_, rfl, _, .inl rfl, 1, _, rfl, ?_, ?_⟩
  · rw [lF]
    have : (256 : Int) < 2 ^ 62 := by decide
    exact ⟨by omega, by decide, by omega, by omega⟩
  have ecnt : ((((freeTab n bs).map Da.bl).length : Int) - 1).toNat = 2 ^ n - 1 := by rw [lF]; omega
  rw [ecnt]
  have hlen : (rgD 1 (2 ^ n - 1)).length = 2 ^ n - 1 := by simp [rgD]
  refine loopF_inv (fun j ρ => ∃ (rl : List Nat) (x3 x4 : Option Sl), ρ = [some (.dat (bkD n bs m)), some (.dat (freeD n bs)), some (.gro p (kd rl)), x3, x4, none] ∧ rl.length = 2 ^ n ∧ ∀ x, x < j + 1 → rl.getD x 0 = rkN bs x) ⟨_, none, none, rfl, by simp, fun x hx => ?_⟩ ?_ ?_
  · have e : x = 0 := by omega
    subst e
    rw [rk0 S.ne, List.getD_eq_getElem?_getD, List.getElem?_replicate, if_pos (by omega)]
    rfl
  · rintro j x ρ hj ⟨rl, x3, x4, rfl, hrl, hrk⟩
    have hjn : j < 2 ^ n - 1 := by
      have := (List.getElem?_eq_some_iff.mp hj).1
      rwa [hlen] at this
    obtain ⟨j', hj', rfl⟩ := map_get hj
    have ej : j' = j := by
      rw [List.getElem?_range hjn] at hj'
      exact (Option.some.inj hj').symm
    subst ej
    have em : (1 : Int) + (j' : Int) = ((j' + 1 : Nat) : Int) := by omega
    rw [em]
    generalize hy : j' + 1 = y
    have hyn : y < 2 ^ n := by omega
    rw [hy] at hrk
    have hat : L2.atI ((freeTab n bs).map Da.bl) (y : Int) = some (Da.bl (frN bs y)) := by
      refine Fw.atI_nat ?_
      unfold freeTab
      rw [List.getElem?_map, tab_at hyn]
      rfl
    have lk : (kd rl).length = 2 ^ n := by unfold kd; rw [List.length_map, hrl]
    have stp : ∀ v : Nat, v = rkN bs y → ∃ (rl' : List Nat) (x3' x4' : Option Sl), [some (Sl.dat (bkD n bs m)), some (.dat (freeD n bs)), some (.gro p ((kd rl).set y (.int (v : Int)))), some (.dat (.int (y : Int))), some (.dat (.lst (kd (bitsN y)))), none] =
        [some (.dat (bkD n bs m)), some (.dat (freeD n bs)), some (.gro p (kd rl')), x3', x4', none] ∧ rl'.length = 2 ^ n ∧ ∀ x, x < y + 1 → rl'.getD x 0 = rkN bs x := fun v hv => by
      refine ⟨rl.set y v, some (.dat (.int (y : Int))), some (.dat (.lst (kd (bitsN y)))), ?_, by rw [List.length_set]; exact hrl, fun x hx => ?_⟩
      · unfold kd
        rw [List.map_set]
      · rw [getD_set (by omega)]
        by_cases e : x = y
        · rw [if_pos e, e, hv]
        · rw [if_neg e]
          exact hrk x (by omega)
    refine ⟨_, rfl, y, rfl, Nat.lt_of_lt_of_le hyn (Nat.le_trans hN2 (by decide)), _, rfl, _, rfl, _, (y : Int), _, rfl, rfl, hat, _, rfl, bite (fun hb => ?_) fun hb => ?_⟩
    · refine ⟨_, rfl, _, .inl rfl, p, _, rfl, _, rfl, _, (y : Int), y, rfl, rfl, by rw [lk]; exact ixN_nat2 hyn, ?_⟩
      have e : (kd (bitsN y)).length = rkN bs y := by
        unfold kd
        rw [List.length_map, bits_len]
        exact (of_decide_eq_true hb).symm
      exact stp _ e
    · obtain ⟨⟨t0, t1, t2⟩, up⟩ := rk_max S.ne hb
      refine ⟨_, rfl, _, rfl, lcP_all (fun k : Nat => Da.int (k : Int)) (fun k : Nat => Da.int (rkN bs (y ^^^ k) : Nat)) (fun bt hbt => ?_) ?_ ?_⟩
      · obtain ⟨t, ht, rfl⟩ := mem_bits.mp hbt
        have hlt := xor_lt ht
        refine ⟨p, _, rfl, _, rfl, _, rfl, (y : Int), ((2 ^ t : Nat) : Int), rfl, rfl, trivial, _, _, .int (rkN bs (y ^^^ 2 ^ t) : Nat), rfl, rfl, ?_, rfl, rfl⟩
        rw [xor_int]
        refine Fw.atI_nat ?_
        unfold kd
        rw [List.getElem?_map, getD_at2 (d := 0) (by omega), hrk _ hlt]
        rfl
      · have : (bitsN y).length ≤ 64 := by
          unfold bitsN
          rw [List.length_map]
          refine Nat.le_trans (List.length_filter_le _ _) ?_
          rw [List.length_range]
          exact bits_le (Nat.lt_of_lt_of_le hyn (Nat.le_trans hN2 (by decide)))
        exact Nat.le_trans this (by decide)
      · refine ⟨(bitsN y).map fun k => ((rkN bs (y ^^^ k) : Nat) : Int), ?_, ?_, fun m' h1 h2 => ?_⟩
        · rw [List.map_map]
          rfl
        · rw [List.length_map]
          exact List.length_pos_iff.mpr fun z => by
            have : 2 ^ t0 ∈ bitsN y := mem_bits.mpr ⟨t0, t1, rfl⟩
            rw [z] at this
            cases this
        · have e : m' = (rkN bs y : Int) := by
            obtain ⟨k1, hk1, e1⟩ := List.mem_map.mp h1
            obtain ⟨t, ht, rfl⟩ := mem_bits.mp hk1
            have a1 := up t ht
            have a2 := h2 ((rkN bs (y ^^^ 2 ^ t0) : Nat) : Int) (List.mem_map.mpr ⟨_, mem_bits.mpr ⟨t0, t1, rfl⟩, rfl⟩)
            omega
          subst e
          refine ⟨p, _, rfl, _, rfl, _, (y : Int), y, rfl, rfl, by rw [lk]; exact ixN_nat2 hyn, ?_⟩
          exact stp _ rfl
  · rintro ρ ⟨rl, x3, x4, rfl, hrl, hrk⟩
    rw [hlen] at hrk
    refine ⟨p, _, rfl, ?_⟩
    have e : rl = rankTab n bs := tab_ext hrl fun x hx => hrk x (by omega)
    rw [e]
    exact k
/-! ### closure_of, closure, free_lots -/
abbrev s_closure_of : Stmt := topS 15
theorem sc_closure_of : FnScope ["ranks", "mask", "closed", "bit"] ["ranks", "mask"] (C8.fnScope s_closure_of) := C8.fnScope_by (by decide +kernel)
def fCloOf : Pf := ⟨fun xs k => ∃ (n m : Nat) (bs : List (List Int)), xs = [rankD n bs, .int (m : Int)] ∧ n ≤ 8 ∧ m < 2 ^ n ∧ k (.int (maskN (closL n bs (lotN m)) : Nat)), fun h ⟨n, m, bs, a, b, c, q⟩ => ⟨n, m, bs, a, b, c, h _ q⟩⟩
theorem ok_closure_of (Fd : C8.Def L.K mg "closure_of" s_closure_of f fd) (b : Binds L.K fd ["ranks", "mask"] []) (B : Bw mg) (c_bits_of : CalG P w L.K mg base C8.CX0 1 "bits_of" (spF L fBits)) : CalG P w L.K mg base C8.CX0 2 "closure_of" (spF L fCloOf) := by
  have sc := sc_closure_of
  refine calF (n := 2) Fd b sc ?_ (fun vs h => start_eq (by rw [h]; rfl)) fun cdv A outer s H E hr hgu => ?_
  · rintro ds k ⟨n, m, bs, rfl, _⟩
    rfl
  refine ⟨_, w_seq (w_set (ps_set (i := 2) sc.nd rfl (by first | exact Or.inl rfl | exact Or.inr rfl) (w_v (pv 1))))
  (w_seq (w_forI snd_tgN (ps_for PassesOwn.never rfl (w_il (pi_list (w_call c_bits_of hr (by decide) hgu rfl (w_cons (w_op op_sub snd_sub (w_tCB snd_len (pe_callB call_len_seq (by rfl) B.len (by decide +kernel) (w_cons (w_v (pv 0)) w_nil))) (w_int (kd := 0) pe_int)) w_nil)))) (pg_name (i := 3) sc.nd rfl (by first | exact Or.inl rfl | exact Or.inr rfl))
   (w_one (w_if (ps_if (w_cmpT (op_eqD hr.units) snd_eq (w_ix ix_list snd_ix (w_v (pv 0)) (w_op op_or snd_orI (w_v (pv 1)) (w_v (pv 3))) (fun _ _ => rfl)) (w_ix ix_list snd_ix (w_v (pv 0)) (w_v (pv 1)) (fun _ _ => rfl)) (nomark _))
     (w_one (w_aug snd_orI (ps_aug (i := 2) sc.nd rfl (by first | exact Or.inl rfl | exact Or.inr rfl) (w_v (pv 3)) iop_or)))
     (w_snil pss_nil))))))
  (w_one (w_ret (ps_ret (w_v (pv 2)))))), ?_⟩
  rintro ds kk ⟨n, m, bs, rfl, hn, hm, k⟩
  obtain ⟨hN1, hN2⟩ := pow_256 hn
  have lR : (kd (rankTab n bs)).length = 2 ^ n := by unfold kd rankTab; rw [List.length_map, List.length_map, List.length_range]
  have at_ : ∀ y : Nat, y < 2 ^ n → L2.atI (kd (rankTab n bs)) (y : Int) = some (.int (rkN bs y : Nat)) := fun y hy => by
    refine Fw.atI_nat ?_
    unfold kd rankTab
    rw [List.getElem?_map, tab_at hy]
    rfl
  refine ⟨_, rfl, _, rfl, _, .inl rfl, _, 1, rfl, rfl, trivial, 2 ^ n - 1, ?_, Nat.lt_of_le_of_lt (Nat.sub_le _ _) (Nat.lt_of_le_of_lt hN2 (by decide)), _, rfl, ?_⟩
  · rw [lR]
    have : ((2 ^ n : Nat) : Int) - 1 = ((2 ^ n - 1 : Nat) : Int) := by omega
    show [Da.int (((2 ^ n : Nat) : Int) - 1)] = _
    rw [this]
  refine loopF_inv (fun j ρ => ∃ (c : Nat) (x3 : Option Sl), ρ = [some (.dat (rankD n bs)), some (.dat (.int (m : Int))), some (.dat (.int (c : Int))), x3] ∧ ∀ u : Nat, c.testBit u = true ↔ m.testBit u = true ∨ (2 ^ u ∈ (bitsN (2 ^ n - 1)).take j ∧ rkN bs (m ||| 2 ^ u) = rkN bs m)) ⟨m, none, rfl, fun u => by simp⟩ ?_ ?_
  · rintro j x ρ hj ⟨c, x3, rfl, hc⟩
    obtain ⟨bt, hbt, rfl⟩ := map_get hj
    obtain ⟨t, ht, rfl⟩ := mem_bits.mp (List.mem_of_getElem? hbt)
    have htn : t < n := by
      rw [full_bit] at ht
      exact of_decide_eq_true ht
    have hlt := or_bound hm htn
    have inj : ∀ u : Nat, (2 ^ u ∈ (bitsN (2 ^ n - 1)).take (j + 1)) ↔ (2 ^ u ∈ (bitsN (2 ^ n - 1)).take j ∨ u = t) := fun u => by
      rw [take_more hbt, List.mem_append, List.mem_singleton]
      constructor
      · rintro (z | z)
        · exact .inl z
        · exact .inr ((Nat.pow_right_inj (by decide : 1 < 2)).mp z)
      · rintro (z | rfl)
        · exact .inl z
        · exact .inr rfl
    refine ⟨_, rfl, _, rfl, _, rfl, (m : Int), ((2 ^ t : Nat) : Int), rfl, rfl, trivial, _, _, .int (rkN bs (m ||| 2 ^ t) : Nat), rfl, rfl, ?_, _, rfl, _, rfl, _, (m : Int), _, rfl, rfl, at_ m hm, .int (rkN bs (m ||| 2 ^ t) : Nat), .int (rkN bs m : Nat), rfl, rfl, rfl, rfl, _, rfl, bite (fun hb => ?_) fun hb => ?_⟩
    · rw [or_int]
      exact at_ _ hlt
    · have hb := of_decide_eq_true ((eqv_nat _ _).symm.trans hb)
      refine ⟨_, rfl, _, rfl, (c : Int), ((2 ^ t : Nat) : Int), rfl, rfl, trivial, c ||| 2 ^ t, some (.dat (.int ((2 ^ t : Nat) : Int))), ?_, fun u => ?_⟩
      · show [some (Sl.dat (rankD n bs)), some (Sl.dat (Da.int ↑m)), some (Sl.dat (Da.int (Builtin.bitOr (c : Int) ((2 ^ t : Nat) : Int)))), some (Sl.dat (Da.int ((2 ^ t : Nat) : Int)))] = _
        rw [or_int]
      · rw [test_or, Bool.or_eq_true, decide_eq_true_eq, hc u, inj u]
        constructor
        · rintro ((z | z) | z)
          · exact .inl z
          · exact .inr ⟨.inl z.1, z.2⟩
          · exact .inr ⟨.inr z, by rw [z]; exact hb⟩
        · rintro (z | ⟨z1 | z1, z2⟩)
          · exact .inl (.inl z)
          · exact .inl (.inr ⟨z1, z2⟩)
          · exact .inr z1
    · have hb := of_decide_eq_false ((eqv_nat _ _).symm.trans hb)
      refine ⟨c, _, rfl, fun u => ?_⟩
      rw [hc u, inj u]
      constructor
      · rintro (z | z)
        · exact .inl z
        · exact .inr ⟨.inl z.1, z.2⟩
      · rintro (z | ⟨z1 | z1, z2⟩)
        · exact .inl z
        · exact .inr ⟨z1, z2⟩
        · exact absurd (by rw [z1] at z2; exact z2) hb
  · rintro ρ ⟨c, x3, rfl, hc⟩
    have el : (kd (bitsN (2 ^ n - 1))).length = (bitsN (2 ^ n - 1)).length := by unfold kd; rw [List.length_map]
    rw [el, List.take_length] at hc
    refine ⟨_, rfl, ?_⟩
    have e : c = maskN (closL n bs (lotN m)) := clos_mask hm fun u => by
      rw [hc u, mem_bits]
      constructor
      · rintro (z | ⟨⟨t, h1, h2⟩, z⟩)
        · exact .inl z
        · have e : u = t := (Nat.pow_right_inj (by decide : 1 < 2)).mp h2
          rw [← e, full_bit] at h1
          exact .inr ⟨of_decide_eq_true h1, z⟩
      · rintro (z | ⟨z1, z2⟩)
        · exact .inl z
        · exact .inr ⟨⟨u, by rw [full_bit]; exact decide_eq_true z1, rfl⟩, z2⟩
    rw [e]
    exact k
abbrev s_closure : Stmt := topS 26
theorem sc_closure : FnScope ["book", "lot"] ["book", "lot"] (C8.fnScope s_closure) := C8.fnScope_by (by decide +kernel)
theorem fn_closure (Fd : C8.Def L.K mg "closure" s_closure f fd) (b : Binds L.K fd ["book", "lot"] []) (c_need_lot : CalG P w L.K mg base (L2.CX P w) 4 "need_lot" (spE L T fNeedLot)) (c_lot_of : CalG P w L.K mg base C8.CX0 1 "lot_of" (spF L fLotOf))
    (c_closure_of : CalG P w L.K mg base C8.CX0 2 "closure_of" (spF L fCloOf)) (c_rank_table : CalG P w L.K mg base C8.CX0 3 "rank_table" (spF L (fTabB rankD))) (c_mask_of : CalG P w L.K mg base C8.CX0 1 "mask_of" (spF L fMask)) : FnG P w L.K mg base (L2.CX P w) 5 f fd ["book", "lot"] (spE L T (fLot2 fun n m bs t => .dat (ti (closL n bs t)))) := by
  have sc := sc_closure
  refine fnE (n := 0) Fd sc ?_ (fun vs h => start_eq (by rw [h]; rfl)) fun cdv A outer s G H E hr hgu tk => ?_
  · rintro ds k x ⟨d, e, rfl, _⟩
    rfl
  refine ⟨_, x_seq (x_call (ps_expr (pe_cgS c_need_lot hr (by decide) hgu rfl (fun σ => passAt tk σ) (w_cons (w_v (pv 0)) (w_cons (w_v (pv 1)) w_nil)))))
    (x_ups (w_one (w_ret (ps_ret (w_call c_lot_of hr (by decide) hgu rfl (w_cons (w_call c_closure_of hr (by decide) hgu rfl (w_cons (w_call c_rank_table hr (by decide) hgu rfl (w_cons (w_v (pv 0)) w_nil)) (w_cons (w_call c_mask_of hr (by decide) hgu rfl (w_cons (w_v (pv 1)) w_nil)) w_nil))) w_nil)))))), ?_⟩
  rintro ds kk xx ⟨d, e, rfl, h⟩
  rcases h with ⟨hk, q⟩ | ⟨n, m, bs, rfl, hk, h1, h2⟩
  · exact ⟨_, rfl, _, rfl, d, e, rfl, .inl ⟨hk, q⟩⟩
  refine ⟨_, rfl, _, rfl, _, e, rfl, .inr ⟨n, m, bs, rfl, hk, fun a he hlot => ?_, h2⟩⟩
  subst he
  obtain ⟨S, k⟩ := h1 a rfl hlot
  have hn := S.n8
  have h64 : ∀ {c : Nat}, c < 2 ^ n → c < 2 ^ 64 := fun h => Nat.lt_of_lt_of_le h (Nat.le_trans (pow_256 hn).2 (by decide))
  refine ⟨_, rfl, n, m, bs, rfl, S, _, rfl, a, rfl, fun y hy => by have := hlot.2 y hy; omega, n, maskN a, bs, rfl, hn, mask_lt hlot, _, rfl, h64 (mask_lt clos_ok), ?_⟩
  rw [lotN_mask clos_ok, lotN_mask hlot]
  exact k
theorem ok_closure (Fd : C8.Def L.K mg "closure" s_closure f fd) (b : Binds L.K fd ["book", "lot"] []) (c_need_lot : CalG P w L.K mg base (L2.CX P w) 4 "need_lot" (spE L T fNeedLot)) (c_lot_of : CalG P w L.K mg base C8.CX0 1 "lot_of" (spF L fLotOf))
    (c_closure_of : CalG P w L.K mg base C8.CX0 2 "closure_of" (spF L fCloOf)) (c_rank_table : CalG P w L.K mg base C8.CX0 3 "rank_table" (spF L (fTabB rankD))) (c_mask_of : CalG P w L.K mg base C8.CX0 1 "mask_of" (spF L fMask)) : CalG P w L.K mg base (L2.CX P w) 5 "closure" (spE L T (fLot2 fun n m bs t => .dat (ti (closL n bs t)))) := ⟨f, fd, ["book", "lot"], fn_closure Fd b c_need_lot c_lot_of c_closure_of c_rank_table c_mask_of, Fd.mgf, Fd.kp, b⟩
abbrev s_free_lots : Stmt := topS 27
theorem sc_free_lots : FnScope ["book", "free", "mask"] ["book"] (C8.fnScope s_free_lots) := C8.fnScope_by (by decide +kernel)
/-- the ascending list of what is free -/
def FreeOk (n : Nat) (bs ts : List (List Int)) : Prop := LexS ts ∧ ∀ t, t ∈ ts ↔ LotOk n t ∧ rankL bs t = t.length
def fFreeLots : Pe := ⟨fun xs k x => ∃ d, xs = [d] ∧ bookE d (fun n m bs => ∀ ts, FreeOk n bs ts → k (.new (ts.map ti))) x, by
  rintro xs k k' x x' hk hx ⟨d, z, h⟩
  exact ⟨d, z, bookE_mono (fun _ _ _ q ts h => hk _ (q ts h)) hx h⟩⟩
theorem range_pow {n : Nat} (h : n ≤ 8) : ∃ r, List.range (2 ^ n) = 0 :: r := by
  obtain ⟨h1, h2⟩ := pow_256 h
  cases q : List.range (2 ^ n) with
  | nil =>
    have := congrArg List.length q
    rw [List.length_range, List.length_nil] at this
    omega
  | cons a r =>
    have h0 : (List.range (2 ^ n))[0]? = some 0 := List.getElem?_range (by omega)
    rw [q] at h0
    cases h0
    exact ⟨r, rfl⟩
theorem lotN0 : lotN 0 = [] := by
  cases q : lotN 0 with
  | nil => rfl
  | cons x r =>
    obtain ⟨t, ht, _⟩ := mem_lotN.mp (show x ∈ lotN 0 by rw [q]; exact List.mem_cons_self)
    rw [Nat.zero_testBit] at ht
    cases ht
theorem fn_free_lots (Fd : C8.Def L.K mg "free_lots" s_free_lots f fd) (b : Binds L.K fd ["book"] []) (B : Bw mg) (c_need_book : CalG P w L.K mg base (L2.CX P w) 3 "need_book" (spE L T fNeedBook)) (c_free_table : CalG P w L.K mg base C8.CX0 2 "free_table" (spF L (fTabB freeD)))
    (c_lot_of : CalG P w L.K mg base C8.CX0 1 "lot_of" (spF L fLotOf)) : FnG P w L.K mg base (L2.CX P w) 4 f fd ["book"] (spE L T fFreeLots) := by
  have sc := sc_free_lots
  refine fnE (n := 2) Fd sc ?_ (fun vs h => start_eq (by rw [h]; rfl)) fun cdv A outer s G H E hr hgu tk => ?_
  · rintro ds k x ⟨d, rfl, _⟩
    rfl
  refine ⟨_, x_seq (x_call (ps_expr (pe_cgS c_need_book hr (by decide) hgu rfl (fun σ => passAt tk σ) (w_cons (w_v (pv 0)) w_nil))))
    (x_seq (x_up (w_set (ps_set (i := 1) sc.nd rfl (by first | exact Or.inl rfl | exact Or.inr rfl) (w_call c_free_table hr (by decide) hgu rfl (w_cons (w_v (pv 0)) w_nil)))))
    (x_one (x_retN (ps_ret (w_nsortA (pe_callB (cr_sortedTA (units_in hr)) (by rfl) B.sorted (by decide +kernel) (pa_cons (w_lc (sndv_N (by decide)) (pe_lc (own := [("mask", 2)]) (by rfl) sc.nd (w_ir1 (pi_range1 rfl B.range (w_cons (w_tCB snd_len (pe_callB call_len_seq (by rfl) B.len (by decide +kernel) (w_cons (w_v (pv 1)) w_nil))) w_nil)))
      (blkOk_by (by kernel_rfl)) (fun _ _ _ _ _ => (pg_name (i := 2) sc.nd rfl (by first | exact Or.inl rfl | exact Or.inr rfl))) (fun _ _ _ _ _ => w_tone (w_val (pt_val (w_ix ix_list snd_ix (w_v (pv 1)) (w_v (pv 2)) (fun _ _ => rfl))))) (fun _ _ _ _ _ => w_call c_lot_of hr (by decide) hgu rfl (w_cons (w_v (pv 2)) w_nil)))) pa_nil))))))), ?_⟩
  rintro ds kk xx ⟨d, rfl, h⟩
  rcases h with ⟨hk, q⟩ | ⟨n, m, bs, rfl, S, k⟩
  · exact ⟨_, rfl, d, rfl, .inr ⟨hk, q⟩⟩
  have hn := S.n8
  obtain ⟨hN1, hN2⟩ := pow_256 hn
  have lF : ((freeTab n bs).map Da.bl).length = 2 ^ n := by unfold freeTab; rw [List.length_map, List.length_map, List.length_range]
  refine ⟨_, rfl, _, rfl, .inl ⟨n, m, bs, rfl, ?_⟩⟩
  refine ⟨_, rfl, n, m, bs, rfl, S, ?_⟩
  refine ⟨_, rfl, _, .inl rfl, _, rfl, by omega, ?_, ?_⟩
  · rw [lF]
    have : (256 : Int) < 2 ^ 62 := by decide
    omega
  rw [lF, Int.toNat_natCast, rgD0]
  refine lcP_src (fun i : Nat => Da.int (i : Int)) (frN bs) (fun i => ti (lotN i)) (fun i hi => ?_) (by simp only [List.length_nil, Nat.zero_add, List.length_range]; exact Nat.le_trans hN2 (by decide)) ?_
  · have hin := List.mem_range.mp hi
    refine ⟨_, rfl, _, rfl, _, (i : Int), .bl (frN bs i), rfl, rfl, ?_, _, rfl, rfl, fun _ => ⟨_, rfl, i, rfl, Nat.lt_of_lt_of_le hin (Nat.le_trans hN2 (by decide)), rfl, rfl⟩, fun _ => rfl⟩
    refine Fw.atI_nat ?_
    unfold freeTab
    rw [List.getElem?_map, tab_at hin]
    rfl
  · have hmem : ∀ t, t ∈ ((List.range (2 ^ n)).filter (frN bs)).map lotN ↔ LotOk n t ∧ rankL bs t = t.length := fun t => by
      rw [List.mem_map]
      constructor
      · rintro ⟨i, hi, rfl⟩
        obtain ⟨h1, h2⟩ := List.mem_filter.mp hi
        exact ⟨lotN_ok (List.mem_range.mp h1), of_decide_eq_true h2⟩
      · rintro ⟨h1, h2⟩
        refine ⟨maskN t, List.mem_filter.mpr ⟨List.mem_range.mpr (mask_lt h1), ?_⟩, lotN_mask h1⟩
        unfold frN rkN
        rw [lotN_mask h1]
        exact decide_eq_true h2
    have hnd : (((List.range (2 ^ n)).filter (frN bs)).map lotN).Nodup := by
      have key : ∀ l : List Nat, l.Nodup → (l.map lotN).Nodup := by
        intro l
        induction l with
        | nil => intro _; exact List.nodup_nil
        | cons a r ih =>
          intro h
          obtain ⟨h1, h2⟩ := List.nodup_cons.mp h
          rw [List.map_cons, List.nodup_cons]
          refine ⟨fun z => ?_, ih h2⟩
          obtain ⟨b, hb, e⟩ := List.mem_map.mp z
          have : b = a := by
            have := congrArg maskN e
            rwa [mask_lotN, mask_lotN] at this
          rw [this] at hb
          exact h1 hb
      exact key _ (List.nodup_range.filter _)
    refine ⟨((List.range (2 ^ n)).filter (frN bs)).map lotN, ?_, .inr ?_, fun ts' p1 p2 => ?_⟩
    · rw [List.nil_append, lti, List.map_map]
      rfl
    · obtain ⟨r, e⟩ := range_pow hn
      have f0 : frN bs 0 = true := by
        unfold frN
        rw [rk0 S.ne, lotN0]
        rfl
      refine ⟨(r.filter (frN bs)).map lotN, ?_⟩
      rw [e, List.filter_cons, if_pos f0, List.map_cons, lotN0]
    · exact k ts' ⟨lexS_sorted p1 p2 hnd, fun t => (p1.mem_iff).trans (hmem t)⟩
theorem ok_free_lots (Fd : C8.Def L.K mg "free_lots" s_free_lots f fd) (b : Binds L.K fd ["book"] []) (B : Bw mg) (c_need_book : CalG P w L.K mg base (L2.CX P w) 3 "need_book" (spE L T fNeedBook)) (c_free_table : CalG P w L.K mg base C8.CX0 2 "free_table" (spF L (fTabB freeD)))
    (c_lot_of : CalG P w L.K mg base C8.CX0 1 "lot_of" (spF L fLotOf)) : CalG P w L.K mg base (L2.CX P w) 4 "free_lots" (spE L T fFreeLots) := ⟨f, fd, ["book"], fn_free_lots Fd b B c_need_book c_free_table c_lot_of, Fd.mgf, Fd.kp, b⟩
end
end Fv
namespace Fv
/-! # ranks of two lots together and in common; closures twice -/
section
variable {r : List Int → Nat} (R : RankFn r)
include R
theorem rank_app (a : List Int) : ∀ m : List Int, r (m ++ a) ≤ m.length + r a
  | [] => by simp
  | x :: m => by
    have h1 := R.unit x (m ++ a)
    have h2 := rank_app a m
    show r (x :: (m ++ a)) ≤ (m.length + 1) + r a
    omega
/-- as many things of t as can be, beside i -/
theorem most_of (i t : List Int) (hi : r i = i.length) : ∀ (d : Nat) (m : List Int), (∀ y ∈ m, y ∈ t) → r (m ++ i) = m.length + i.length → r (i ++ t) - m.length ≤ d →
    ∃ m' : List Int, (∀ y ∈ m', y ∈ t) ∧ r (m' ++ i) = m'.length + i.length ∧ ∀ y ∈ t, r (y :: (m' ++ i)) = r (m' ++ i)
  | d, m, hm, hr, hd => by
    by_cases h : ∀ y ∈ t, r (y :: (m ++ i)) = r (m ++ i)
    · exact ⟨m, hm, hr, h⟩
    · obtain ⟨y, hy, hn⟩ : ∃ y, y ∈ t ∧ ¬ r (y :: (m ++ i)) = r (m ++ i) := by
        refine Classical.byContradiction fun z => h fun y hy => Classical.byContradiction fun q => z ⟨y, hy, q⟩
      have h1 := R.unit y (m ++ i)
      have h2 : r (m ++ i) ≤ r (y :: (m ++ i)) := R.mono fun x hx => List.mem_cons_of_mem _ hx
      have h3 : r ((y :: m) ++ i) = (y :: m).length + i.length := by
        show r (y :: (m ++ i)) = (m.length + 1) + i.length
        omega
      have h4 : r ((y :: m) ++ i) ≤ r (i ++ t) := R.mono fun x hx => by
        rcases List.mem_append.mp hx with z | z
        · rcases List.mem_cons.mp z with rfl | z
          · exact List.mem_append.mpr (.inr hy)
          · exact List.mem_append.mpr (.inr (hm x z))
        · exact List.mem_append.mpr (.inl z)
      have hl : (y :: m).length = m.length + 1 := rfl
      match d with
      | 0 => exact absurd hd (by omega)
      | d + 1 =>
        exact most_of i t hi d (y :: m) (fun x hx => by
          rcases List.mem_cons.mp hx with rfl | z
          · exact hy
          · exact hm x z) h3 (by omega)
theorem rank_dim {a b : List Int} {x : Int} (hab : ∀ y ∈ a, y ∈ b) (h : r (x :: a) = r a) : r (x :: b) = r b := by
  obtain ⟨i, i1, i2, i3⟩ := most_of R [] a R.nil _ [] (fun y hy => by cases hy) (by simpa using R.nil) (Nat.le_refl _)
  rw [List.append_nil] at i2 i3
  have i2 : r i = i.length := by simpa using i2
  obtain ⟨m, m1, m2, m3⟩ := most_of R i b i2 _ [] (fun y hy => by cases hy) (by simpa using i2) (Nat.le_refl _)
  -- the ranks of a and b
  have ra : r a = i.length := by
    have := R.span i a i3
    have e : r (i ++ a) = r a := rank_ext R fun z => by
      rw [List.mem_append]
      exact ⟨fun q => q.elim (i1 z) id, .inr⟩
    omega
  have ib : ∀ y ∈ i, y ∈ b := fun y hy => hab y (i1 y hy)
  have rb : r b = m.length + i.length := by
    have := R.span (m ++ i) b m3
    have e : r ((m ++ i) ++ b) = r b := rank_ext R fun z => by
      rw [List.mem_append, List.mem_append]
      exact ⟨fun q => q.elim (fun q => q.elim (m1 z) (ib z)) id, .inr⟩
    omega
  have up : r b ≤ r (x :: b) := R.mono fun y hy => List.mem_cons_of_mem _ hy
  refine Nat.le_antisymm ?_ up
  refine Classical.byContradiction fun hc => ?_
  by_cases hx : r (x :: (m ++ i)) = r (m ++ i)
  · have := R.span (m ++ i) (x :: b) fun y hy => by
      rcases List.mem_cons.mp hy with rfl | z
      · exact hx
      · exact m3 y z
    have e : r (x :: b) ≤ r ((m ++ i) ++ (x :: b)) := R.mono fun y hy => List.mem_append.mpr (.inr hy)
    omega
  · have h1 : r (m ++ i) ≤ r (x :: (m ++ i)) := R.mono fun y hy => List.mem_cons_of_mem _ hy
    have h2 := R.unit x (m ++ i)
    have h3 : r (x :: (m ++ i)) = r (m ++ (x :: i)) := rank_ext R fun z => by
      rw [List.mem_append, List.mem_cons, List.mem_append, List.mem_cons]
      constructor
      · rintro (q | q | q)
        · exact .inr (.inl q)
        · exact .inl q
        · exact .inr (.inr q)
      · rintro (q | q | q)
        · exact .inr (.inl q)
        · exact .inl q
        · exact .inr (.inr q)
    have h4 := rank_app R (x :: i) m
    have h5 : r (x :: i) ≤ r (x :: a) := R.mono fun y hy => by
      rcases List.mem_cons.mp hy with rfl | z
      · exact List.mem_cons_self
      · exact List.mem_cons_of_mem _ (i1 y z)
    omega
theorem rank_two (a s : List Int) (hs : ∀ x ∈ s, x ∈ a) : ∀ t : List Int, r (t ++ a) + r s ≤ r (t ++ s) + r a
  | [] => by
    show r a + r s ≤ r s + r a
    omega
  | x :: t => by
    have ih := rank_two a s hs t
    show r (x :: (t ++ a)) + r s ≤ r (x :: (t ++ s)) + r a
    have sub : ∀ y ∈ t ++ s, y ∈ t ++ a := fun y hy => by
      rcases List.mem_append.mp hy with z | z
      · exact List.mem_append.mpr (.inl z)
      · exact List.mem_append.mpr (.inr (hs y z))
    have u1 := R.unit x (t ++ a)
    have u2 : r (t ++ s) ≤ r (x :: (t ++ s)) := R.mono fun y hy => List.mem_cons_of_mem _ hy
    by_cases h : r (x :: (t ++ s)) = r (t ++ s)
    · have := rank_dim R sub h
      omega
    · omega
theorem rank_sub {a b : List Int} : r (a ++ b) + r (sharedL a b) ≤ r a + r b := by
  have h := rank_two R b (sharedL a b) (fun x hx => (ms.mp hx).2) a
  have e : r (a ++ sharedL a b) = r a := rank_ext R fun z => by
    rw [List.mem_append]
    exact ⟨fun q => q.elim id fun q => (ms.mp q).1, .inl⟩
  omega
end
section
variable {n m : Nat} {bs : List (List Int)}
theorem rankL_with (a b : List Int) : rankL bs (withL a b) = (fun a => rankL bs (asc a)) (a ++ b) := rfl
theorem rankL_asc {a : List Int} (h : a.Pairwise (· < ·)) : rankL bs a = (fun a => rankL bs (asc a)) a := by
  show rankL bs a = rankL bs (asc a)
  rw [asc_self h]
theorem rank_submod (K : Bases bs m) {a b : List Int} (ha : a.Pairwise (· < ·)) (hb : b.Pairwise (· < ·)) : rankL bs (withL a b) + rankL bs (sharedL a b) ≤ rankL bs a + rankL bs b := by
  have R := rank_bases K
  have h := rank_sub R (a := a) (b := b)
  have hp : (sharedL a b).Pairwise (· < ·) := ha.filter _
  have h : rankL bs (asc (a ++ b)) + rankL bs (asc (sharedL a b)) ≤ rankL bs (asc a) + rankL bs (asc b) := h
  rw [asc_self ha, asc_self hb, asc_self hp] at h
  exact h
theorem clos_sup (K : Bases bs m) {a : List Int} (ha : LotOk n a) : ∀ x ∈ a, x ∈ closL n bs a := fun x hx => by
  have := ha.2 x hx
  refine mem_clos.mpr ⟨x.toNat, by omega, ?_, by omega⟩
  have e : withL a [(x.toNat : Int)] = a := pw_ext (pw_asc _) ha.1 fun y => by
    rw [mem_with, List.mem_singleton]
    exact ⟨fun q => q.elim id fun q => by rw [q, Int.toNat_of_nonneg this.1]; exact hx, .inl⟩
  rw [e]
theorem rank_clos (K : Bases bs m) {a : List Int} (ha : LotOk n a) : rankL bs (closL n bs a) = rankL bs a := by
  have R := rank_bases K
  have h := R.span a (closL n bs a) fun x hx => by
    obtain ⟨i, h1, h2, rfl⟩ := mem_clos.mp hx
    have e : rankL bs (withL a [(i : Int)]) = (fun a => rankL bs (asc a)) ((i : Int) :: a) := rank_ext R fun y => by simp [or_comm]
    exact e.symm.trans (h2.trans (rankL_asc ha.1))
  have e : (fun a => rankL bs (asc a)) (a ++ closL n bs a) = (fun a => rankL bs (asc a)) (closL n bs a) := rank_ext R fun y => by
    rw [List.mem_append]
    exact ⟨fun q => q.elim (clos_sup K ha y) id, .inr⟩
  rw [rankL_asc (bs := bs) (clos_ok (n := n) (bs := bs) (a := a)).1, rankL_asc (bs := bs) ha.1, ← e]
  exact h
theorem clos_clos (K : Bases bs m) {a : List Int} (ha : LotOk n a) : closL n bs (closL n bs a) = closL n bs a := by
  have R := rank_bases K
  have hc := clos_ok (n := n) (bs := bs) (a := a)
  refine pw_ext (clos_ok (n := n) (bs := bs) (a := closL n bs a)).1 hc.1 fun x => ⟨fun hx => ?_, fun hx => clos_sup K hc x hx⟩
  obtain ⟨i, h1, h2, rfl⟩ := mem_clos.mp hx
  refine mem_clos.mpr ⟨i, h1, ?_, rfl⟩
  have up : rankL bs (withL a [(i : Int)]) ≤ rankL bs (withL (closL n bs a) [(i : Int)]) := by
    rw [rankL_with, rankL_with]
    refine R.mono fun y hy => ?_
    rcases List.mem_append.mp hy with z | z
    · exact List.mem_append.mpr (.inl (clos_sup K ha y z))
    · exact List.mem_append.mpr (.inr z)
  have dn : rankL bs a ≤ rankL bs (withL a [(i : Int)]) := by
    rw [rankL_with, rankL_asc (bs := bs) ha.1]
    exact R.mono fun y hy => List.mem_append.mpr (.inl hy)
  have := rank_clos K ha
  omega
/-! ## single things -/
theorem rank_one (ne : bs ≠ []) (i : Int) : rankL bs [i] = 1 ↔ usesN bs i ≠ 0 := by
  have len : ∀ b : List Int, (sharedL [i] b).length = if i ∈ b then 1 else 0 := fun b => by
    unfold sharedL
    by_cases h : i ∈ b <;> simp [h]
  constructor
  · intro h
    obtain ⟨b, hb, e⟩ := rankL_at ne [i]
    rw [len, h] at e
    have hi : i ∈ b := by
      by_cases q : i ∈ b
      · exact q
      · rw [if_neg q] at e; cases e
    unfold usesN
    have : b ∈ bs.filter fun b => decide (i ∈ b) := List.mem_filter.mpr ⟨hb, decide_eq_true hi⟩
    exact Nat.pos_iff_ne_zero.mp (List.length_pos_of_mem this)
  · intro h
    unfold usesN at h
    obtain ⟨b, hb⟩ := List.exists_mem_of_length_pos (Nat.pos_of_ne_zero h)
    obtain ⟨h1, h2⟩ := List.mem_filter.mp hb
    have g := rankL_ge (a := [i]) h1
    rw [len, if_pos (of_decide_eq_true h2)] at g
    have := rank_le' ne [i]
    simp only [List.length_singleton] at this
    omega
theorem uses_all {i : Int} : usesN bs i = bs.length ↔ (bs.filter fun b => decide (i ∉ b)) = [] := by
  unfold usesN
  rw [List.length_filter_eq_length_iff, List.filter_eq_nil_iff]
  constructor
  · intro h b hb
    have := of_decide_eq_true (h b hb)
    simpa using this
  · intro h b hb
    have := h b hb
    simpa using this
end
end Fv
namespace Fw
open PySem PySem.Spec PyProof.Rows L2 Fr
section
variable {X : Cx} {L : Ly} {e : Expr} {st : Stmt}
/-- xs.clear(), xs a list that may still change -/
def sClear (i : Nat) : Ps := ⟨fun ρ nx _ _ _ => ∃ p ds, ρ[i]? = some (some (.gro p ds)) ∧ nx (ρ.set i (some (.gro p []))), fun h _ _ _ ⟨p, ds, e, q⟩ => ⟨p, ds, e, h _ q⟩⟩
theorem w_clear {i : Nat} (p : PS X st (tDrop (tBM0 L.K "list" rClear (tVar i)))) : PS X st (tWS L (sClear i)) := PS.imp p fun D σ H ⟨B, G, ρ, r, a, ds, hi, h⟩ => by
  obtain ⟨hs, _, _, _, vs, hv, _⟩ := gro_at r hi
  refine ⟨.ref a, hs, .inl ⟨rfl, vs, .inl (.inl hv)⟩, a, vs, rfl, rfl, hv, ?_⟩
  exact h σ G _ (r.chgG hi (vs := []) (es := []) .nil) (Same.refl _)
/-- some of what is walked over, by tests that are drawn -/
theorem lcP_subA {α : Type} {t : Tg} {c : Pt} {el : Px} {vs : List Nat} {k : List Da → En → Prop} {ρ : En} (emb out : α → Da) : ∀ {src : List α} {acc : List Da},
    (∀ a ∈ src, t.f (emb a) ρ fun ρ2 => c.f ρ2 fun b ρ3 => if b = true then el.f ρ3 fun y ρ4 => y = out a ∧ wipeR ρ4 vs = ρ else wipeR ρ3 vs = ρ) → acc.length + src.length ≤ sizeLine → (∀ l : List α, l.Sublist src → k (acc ++ l.map out) ρ) → lcP t c el vs k (src.map emb) acc ρ
  | [], acc, _, _, h => by
    have := h [] (List.Sublist.refl _)
    rw [List.map_nil, List.append_nil] at this
    exact this
  | x :: r, acc, hx, hl, h => t.mono (fun ρ2 h2 => by
      have hl' : acc.length + (r.length + 1) ≤ sizeLine := hl
      refine c.mono (fun b ρ3 h3 => ?_) h2
      by_cases hb : b = true
      · rw [if_pos hb] at h3 ⊢
        refine el.mono (fun y ρ4 ⟨e1, e2⟩ => ⟨by omega, ?_⟩) h3
        show lcP t c el vs k (r.map emb) _ _
        rw [e2, e1]
        refine lcP_subA emb out (fun u hu => hx u (List.mem_cons_of_mem _ hu)) (by rw [List.length_append]; simp only [List.length_singleton]; omega) fun l hs => ?_
        rw [List.append_assoc]
        exact h (x :: l) (hs.cons_cons x)
      · rw [if_neg hb] at h3 ⊢
        show lcP t c el vs k (r.map emb) _ _
        rw [h3]
        exact lcP_subA emb out (fun u hu => hx u (List.mem_cons_of_mem _ hu)) (by omega) fun l hs => h l (hs.cons x)) (hx x List.mem_cons_self)
end
end Fw
namespace Fv
open PySem PySem.Spec PyProof.Rows L2 Fr Fw Fs
/-! # texts of lots and of lists of lots -/
theorem listT_le {c : Nat} {ts : List Str} (h : ∀ t ∈ ts, t.length ≤ c) : (listText ts).length ≤ ts.length * (c + 2) + 5 := by
  have hp := piled_le h
  have b : (("]" : Str)).length ≤ 1 := by decide +kernel
  have a : (("[" : Str)).length ≤ 1 := by decide +kernel
  unfold listText
  rw [Str.length_append]
  cases ts with
  | nil =>
    show (("[" : Str)).length + _ ≤ _
    omega
  | cons t r =>
    have e : textFrom 0 "[" (t :: r) = textFrom 1 (("[" : Str) ++ ("" : String) ++ t) r := rfl
    have z : ((("" : String) : Str)).length = 0 := by decide +kernel
    rw [e, textFrom_length_pos _ _ _ (by decide), Str.length_append, Str.length_append]
    have := piled_cons t r
    omega
theorem sh_llots {ts : List (List Int)} (hl : ts.length ≤ 1000) (h : ∀ t ∈ ts, t.length ≤ 8 ∧ ∀ x ∈ t, 0 ≤ x ∧ x < 9) : (PyData.shown (.list (ts.map pti))).length ≤ sizeLine := by
  have e : PyData.shown (.list (ts.map pti)) = listText ((ts.map pti).map PyData.shown) := by
    show listText (PyData.shownAll (ts.map pti)) = _
    rw [shAll]
  rw [e]
  refine Nat.le_trans (listT_le (c := 29) fun u hu => ?_) ?_
  · obtain ⟨d, hd, rfl⟩ := List.mem_map.mp hu
    obtain ⟨t, ht, rfl⟩ := List.mem_map.mp hd
    exact sh_lot (c := 8) (h t ht).1 (h t ht).2
  · rw [List.length_map, List.length_map, sizeLine_eq]
    omega
theorem dep_llots (ts : List (List Int)) : (PyData.list (ts.map pti)).depth ≤ 60 := by
  have h := dep_lots ts
  have e1 : (ptl ts).depth = PyData.depthAll (ts.map pti) + 1 := by
    unfold ptl
    simp only [PyData.depth]
  have e2 : (PyData.list (ts.map pti)).depth = PyData.depthAll (ts.map pti) + 1 := by simp only [PyData.depth]
  omega
theorem dep_lot (t : List Int) : (pti t).depth ≤ 60 := by
  have h2 : PyData.depthAll (t.map PyData.int) ≤ 0 := dep_all fun e he => by
    obtain ⟨i, _, rfl⟩ := List.mem_map.mp he
    simp only [PyData.depth]
    exact Nat.le_refl _
  have e : (pti t).depth = PyData.depthAll (t.map PyData.int) + 1 := by
    unfold pti
    simp only [PyData.depth]
  omega
theorem shw_lot {t : List Int} (h : ∀ x ∈ t, 0 ≤ x ∧ x < 9) : PyData.showable (pti t) = true ∧ PyData.hasDict (pti t) = false := by
  have := ptl_ok (ts := [t]) fun u hu x hx => h x (by rw [List.mem_singleton.mp hu] at hx; exact hx)
  constructor
  · show PyData.showableAll (t.map PyData.int) = true
    refine shwAll fun e he => ?_
    obtain ⟨i, hi, rfl⟩ := List.mem_map.mp he
    exact shw_int (h i hi).1 (h i hi).2
  · show PyData.hasDictAll (t.map PyData.int) = false
    refine noDictAll fun e he => ?_
    obtain ⟨i, hi, rfl⟩ := List.mem_map.mp he
    rfl
section
variable {X : Cx} {L : Ly} {e : Expr}
abbrev smallL (ts : List (List Int)) : Prop := ts.length ≤ 1000 ∧ ∀ t ∈ ts, t.length ≤ 8 ∧ ∀ x ∈ t, 0 ≤ x ∧ x < 9
def rReprL : R1p := ⟨fun xs k => ∃ ts : List (List Int), xs = [lti ts] ∧ smallL ts ∧ k (.str (PyData.list (ts.map pti)).shown), fun h ⟨ts, a, b, q⟩ => ⟨ts, a, b, h _ q⟩⟩
theorem snd_reprL : Snd1 L (rRepr L.K) rReprL := by
  rintro B G H σ ρ vs xs Q r dv ⟨ts, rfl, ⟨hl, hb⟩, k⟩
  cases dv with
  | cons d t =>
    cases t
    obtain ⟨a, ys, rfl, hs, ha⟩ := dv_lst d
    have dp : Dp L.K H (.ref a) (.list (ts.map pti)) := dp_same r.gh (py_dp d (py_lti ts))
    obtain ⟨s1, s2⟩ := ptl_ok (ts := ts) fun t ht => (hb t ht).2
    exact ⟨a, .list (ts.map pti), rfl, dp, s1, s2, dep_llots ts, sh_llots hl hb, k _ G H r (Same.refl _) (.str _)⟩
def rRepr1 : R1p := ⟨fun xs k => ∃ t : List Int, xs = [ti t] ∧ (t.length ≤ 8 ∧ ∀ x ∈ t, 0 ≤ x ∧ x < 9) ∧ k (.str (pti t).shown), fun h ⟨ts, a, b, q⟩ => ⟨ts, a, b, h _ q⟩⟩
theorem snd_repr1 : Snd1 L (rRepr L.K) rRepr1 := by
  rintro B G H σ ρ vs xs Q r dv ⟨t, rfl, ⟨hl, hb⟩, k⟩
  cases dv with
  | cons d t' =>
    cases t'
    obtain ⟨a, ys, rfl, hs, ha⟩ := dv_tup d
    have dp : Dp L.K H (.ref a) (pti t) := dp_same r.gh (py_dp d (py_ti t))
    obtain ⟨s1, s2⟩ := shw_lot hb
    exact ⟨a, pti t, rfl, dp, s1, s2, dep_lot t, Nat.le_trans (sh_lot (c := 8) hl hb) (by rw [sizeLine_eq]; omega), k _ G H r (Same.refl _) (.str _)⟩
/-- repr(xs), xs a list that may still change -/
def pReprG (i : Nat) : Px := ⟨fun ρ k => ∃ (p : Addr) (ts : List (List Int)), ρ[i]? = some (some (.gro p (ts.map ti))) ∧ smallL ts ∧ k (.str (PyData.list (ts.map pti)).shown) ρ, fun h ⟨p, ts, a, b, q⟩ => ⟨p, ts, a, b, h _ _ q⟩⟩
theorem w_reprG {i : Nat} (p : PE X e (tCB (rRepr L.K) (tCons (tVar i) tNil))) : PE X e (tW L (pReprG i)) := PE.imp p fun σ H Q ⟨B, G, ρ, r, a, ts, hi, ⟨hl, hb⟩, h⟩ => by
  obtain ⟨hv, hG, _, _, us, hu, dv⟩ := gro_at r hi
  obtain ⟨s1, s2⟩ := ptl_ok (ts := ts) fun t ht => (hb t ht).2
  refine ⟨_, hv, a, .list (ts.map pti), rfl, ?_, s1, s2, dep_llots ts, sh_llots hl hb, h _ G H r (Same.refl _) (.str _)⟩
  exact .lst (.inl (.inl hu)) (pys_dp (dvs_same r.gh dv) (pys_tis ts))
end
/-! # all lots -/
section
variable {P : Program} {w : World} {L : Ly} {mg : Str → Option Value} {base : Heap} {f : Addr} {fd : FuncData}
abbrev s_law_all_lots : Stmt := topS 41
theorem sc_law_all_lots : FnScope ["things_here", "found", "length"] ["things_here"] (C8.fnScope s_law_all_lots) := C8.fnScope_by (by decide +kernel)
def AllOk (n : Nat) (ts : List (List Int)) : Prop := LexS ts ∧ ∀ t, t ∈ ts ↔ LotOk n t
def fAllLots : Pf := ⟨fun xs k => ∃ n : Nat, xs = [li (rangeI n)] ∧ n ≤ 8 ∧ ∀ ts, AllOk n ts → k (lti ts), fun h ⟨n, a, b, q⟩ => ⟨n, a, b, fun ts z => h _ (q ts z)⟩⟩
def lotsTo (n : Nat) : Nat → List (List Int)
  | 0 => []
  | k + 1 => lotsTo n k ++ lotsL (rangeI n) k
theorem mem_to {n : Nat} {t : List Int} : ∀ {k : Nat}, t ∈ lotsTo n k ↔ LotOk n t ∧ t.length < k
  | 0 => by simp [lotsTo]
  | k + 1 => by
    have key : t ∈ lotsL (rangeI n) k ↔ LotOk n t ∧ t.length = k := by
      rw [mem_lots]
      constructor
      · rintro ⟨h1, h2, h3⟩
        exact ⟨⟨h1, fun x hx => mem_rangeI.mp (h3 x hx)⟩, h2⟩
      · rintro ⟨⟨h1, h3⟩, h2⟩
        exact ⟨h1, h2, fun x hx => mem_rangeI.mpr (h3 x hx)⟩
    unfold lotsTo
    rw [List.mem_append, mem_to, key]
    constructor
    · rintro (⟨a, b⟩ | ⟨a, b⟩)
      · exact ⟨a, by omega⟩
      · exact ⟨a, by omega⟩
    · rintro ⟨a, b⟩
      by_cases h : t.length < k
      · exact .inl ⟨a, h⟩
      · exact .inr ⟨a, by omega⟩
theorem to_nd {n : Nat} : ∀ k : Nat, (lotsTo n k).Nodup
  | 0 => List.nodup_nil
  | k + 1 => by
    unfold lotsTo
    refine List.nodup_append.mpr ⟨to_nd k, lexS_nd (lots_srt (rangeI_srt n) k), fun a ha b hb e => ?_⟩
    subst e
    have h1 := (mem_to.mp ha).2
    have h2 := lotsL_each _ _ _ hb
    omega
theorem lots70 {n k : Nat} (hn : n ≤ 8) : (lotsL (rangeI n) k).length ≤ 70 := by
  refine lots_le (n := n) (m := k) hn (lexS_nd (lots_srt (rangeI_srt n) k)) fun t ht => ?_
  obtain ⟨h1, h2, h3⟩ := mem_lots.mp ht
  exact ⟨⟨h1, fun x hx => mem_rangeI.mp (h3 x hx)⟩, h2⟩
theorem to_len {n : Nat} (hn : n ≤ 8) : ∀ k : Nat, (lotsTo n k).length ≤ k * 70
  | 0 => by simp [lotsTo]
  | k + 1 => by
    have h1 := to_len hn k
    have h2 := lots70 (k := k) hn
    unfold lotsTo
    rw [List.length_append]
    omega
theorem to_first {n : Nat} : ∀ k : Nat, ∃ r, lotsTo n (k + 1) = [] :: r
  | 0 => ⟨[], rfl⟩
  | k + 1 => by
    obtain ⟨r, e⟩ := to_first (n := n) k
    refine ⟨r ++ lotsL (rangeI n) (k + 1), ?_⟩
    show lotsTo n (k + 1) ++ _ = _
    rw [e]
    rfl
theorem lot_le {n : Nat} {t : List Int} (h : LotOk n t) : t.length ≤ n := by
  have h2 : t.length ≤ (rangeI n).length := nd_len (pw_nodup h.1) fun x hx => mem_rangeI.mpr (h.2 x hx)
  rwa [len_rangeI] at h2
theorem ok_law_all_lots (Fd : C8.Def L.K mg "_law_all_lots" s_law_all_lots f fd) (b : Binds L.K fd ["things_here"] []) (B : Bw mg) (c_law_lots : CalG P w L.K mg base C8.CX0 1 "_law_lots" (spF L fLots)) : CalG P w L.K mg base C8.CX0 2 "_law_all_lots" (spF L fAllLots) := by
  have sc := sc_law_all_lots
  refine calF (n := 2) Fd b sc ?_ (fun vs h => start_eq (by rw [h]; rfl)) fun cdv A outer s H E hr hgu => ?_
  · rintro ds k ⟨n, rfl, _⟩
    rfl
  refine ⟨_, w_seq (w_set (ps_set (i := 1) sc.nd rfl (by first | exact Or.inl rfl | exact Or.inr rfl) (w_lst w_nil)))
  (w_seq (w_forI snd_tgN (ps_for PassesOwn.never rfl (w_ir1 (pi_range1 rfl B.range (w_cons (w_op op_add snd_add (w_tCB snd_len (pe_callB call_len_seq (by rfl) B.len (by decide +kernel) (w_cons (w_v (pv 0)) w_nil))) (w_int (kd := 0) pe_int)) w_nil))) (pg_name (i := 2) sc.nd rfl (by first | exact Or.inl rfl | exact Or.inr rfl))
   (w_one (w_set (ps_set (i := 1) sc.nd rfl (by first | exact Or.inl rfl | exact Or.inr rfl) (w_op op_cat snd_cat (w_v (pv 1)) (w_call c_law_lots hr (by decide) hgu rfl (w_cons (w_v (pv 0)) (w_cons (w_v (pv 2)) w_nil)))))))))
  (w_one (w_ret (ps_ret (w_sortA (pe_callB (cr_sortedTA (units_in hr)) (by rfl) B.sorted (by decide +kernel) (pa_cons (w_v (pv 1)) pa_nil))))))), ?_⟩
  rintro ds kk ⟨n, rfl, hn, k⟩
  have eI : ((rangeI n).map Da.int).length = n := by rw [List.length_map, len_rangeI]
  refine ⟨by decide, _, rfl, _, .inl rfl, _, 1, rfl, rfl, trivial, _, rfl, by rw [eI]; omega, by rw [eI]; omega, ?_⟩
  have ecnt : ((((rangeI n).map Da.int).length : Int) + 1).toNat = n + 1 := by rw [eI]; omega
  rw [ecnt, rgD0]
  refine loopF_inv (fun j ρ => ∃ x2 : Option Sl, ρ = [some (.dat (li (rangeI n))), some (.dat (lti (lotsTo n j))), x2]) ⟨none, rfl⟩ ?_ ?_
  · rintro j x ρ hj ⟨x2, rfl⟩
    obtain ⟨j', hj', rfl⟩ := map_get hj
    have hjn : j' < n + 1 := by
      have := (List.getElem?_eq_some_iff.mp hj').1
      have e2 : (List.range (n + 1))[j]? = some j' := hj'
      have := (List.getElem?_eq_some_iff.mp e2).2
      have l := (List.getElem?_eq_some_iff.mp e2).1
      rw [List.length_range] at l
      rw [List.getElem_range] at this
      omega
    have ej : j' = j := by
      have l := (List.getElem?_eq_some_iff.mp hj').1
      rw [List.length_range] at l
      rw [List.getElem?_range l] at hj'
      exact (Option.some.inj hj').symm
    subst ej
    have l1 := to_len hn j'
    have l2 := lots70 (k := j') hn
    refine ⟨_, rfl, _, rfl, _, rfl, rangeI n, j', rfl, by rw [len_rangeI]; exact hn, by omega, _, _, rfl, rfl, ?_, some (.dat (.int (j' : Int))), ?_⟩
    · rw [List.length_map, List.length_map]
      exact Nat.le_trans (by omega : (lotsTo n j').length + (lotsL (rangeI n) j').length ≤ 700) (by decide)
    · have e : (lotsTo n j').map ti ++ (lotsL (rangeI n) j').map ti = (lotsTo n (j' + 1)).map ti := by
        rw [← List.map_append]
        rfl
      rw [e]
      rfl
  · rintro ρ ⟨x2, rfl⟩
    have el : ((List.range (n + 1)).map fun i : Nat => Da.int (i : Int)).length = n + 1 := by rw [List.length_map, List.length_range]
    rw [el]
    refine ⟨_, rfl, lotsTo n (n + 1), rfl, .inr (to_first n), fun ts' p1 p2 => ?_⟩
    refine k ts' ⟨lexS_sorted p1 p2 (to_nd _), fun t => (p1.mem_iff).trans (mem_to.trans ⟨fun h => h.1, fun h => ⟨h, ?_⟩⟩)⟩
    have := lot_le h
    omega
end
end Fv
namespace Fw
open PySem PySem.Spec PyProof.Rows L2 Fr
mutual
theorem noF_py : ∀ {d : Da} {x : PyData}, py d = some x → noF d = true
  | .non, _, _ => rfl
  | .bl _, _, _ => rfl
  | .int _, _, _ => rfl
  | .str _, _, _ => rfl
  | .lst ds, d, e => by
    have e' : (pys ds).map PyData.list = some d := by simpa only [py] using e
    obtain ⟨es, h1, rfl⟩ := Option.map_eq_some_iff.mp e'
    exact noFs_py h1
  | .tup ds, d, e => by
    have e' : (pys ds).map PyData.tuple = some d := by simpa only [py] using e
    obtain ⟨es, h1, rfl⟩ := Option.map_eq_some_iff.mp e'
    exact noFs_py h1
  | .obj _ _, _, e => by simp only [py] at e; cases e
theorem noFs_py : ∀ {xs : List Da} {ds : List PyData}, pys xs = some ds → noFs xs = true
  | [], _, _ => rfl
  | x :: r, ds, e => by
    have e' : ((py x).bind fun d => (pys r).map fun ds => d :: ds) = some ds := by simpa only [pys] using e
    obtain ⟨d, h1, e2⟩ := Option.bind_eq_some_iff.mp e'
    obtain ⟨es, h2, rfl⟩ := Option.map_eq_some_iff.mp e2
    show (noF x && noFs r) = true
    rw [noF_py h1, noFs_py h2]
    rfl
end
theorem w_dict1 {X : Cx} {L : Ly} {e : Expr} {x y : V} {k1 : Key} (hk : x = kV k1) (LK : LyK L) (p : PE X e (tDisp [(tC x, tC y)])) : PE X e (tW L (pC (.obj 0 []))) := PE.imp p fun σ H Q ⟨B, G, ρ, r, h⟩ q hq => by
  refine ⟨upd_same, [(k1, y)], by rw [hk]; rfl, by simp, ?_⟩
  rw [upd_upd]
  exact h _ _ _ (r.lay hq) (same_upd (r.gh.free hq)) (.obj (LK.emp.mpr ⟨q, _, rfl, upd_same, rfl⟩) .nil)
theorem calG_up {P : Program} {w : World} {K : Frag} {mg : Str → Option Value} {base : Heap} {CX : CXT} {k j : Nat} {x : Str} {sp : L2.Sp} (h : k ≤ j) (c : CalG P w K mg base CX k x sp) : CalG P w K mg base CX j x sp := by
  obtain ⟨f, fd, ps, F, hm, kp, b⟩ := c.ex
  exact ⟨f, fd, ps, ⟨F.len, fun A outer s H args us vs Q E hr => F.run A outer s H args us vs Q E (hr.mono h)⟩, hm, kp, b⟩
theorem kit_self {K : Frag} {C : Addr} : PySem.W.kitOne K (.ref C) (.ref C) = some true := by
  unfold PySem.W.kitOne
  rw [if_pos (beq_self_eq_true _)]
/-! ## the lambdas of a loop's list -/
def lamE : Expr → Option Lm
  | .Lambda p b s _ => some (p, b, s)
  | _ => none
def forLams : Stmt → List Lm
  | .For _ (.List es _) _ _ _ => es.filterMap lamE
  | _ => []
def lmAt (l : List Lm) (i : Nat) : Lm := l.getD i (⟨[], [], none, [], [], none, []⟩, default, default)
end Fw
namespace Fv
open PySem PySem.Spec PyProof.Rows L2 Fr Fw Fs
abbrev s_law_refused : Stmt := topS 58
theorem sc_law_refused : FnScope ["draw", "book", "none", "work", "caught", "bad", "ask", "~"] ["draw", "book"] (C8.fnScope s_law_refused) := C8.fnScope_by (by decide +kernel)
theorem cl_law_refused : ∀ y ∈ (["ask", "bad", "book", "none"] : List Str), (C8.fnScope s_law_refused).names.lookup y = some .cell ∨ (C8.fnScope s_law_refused).names.lookup y = some .free := by decide +kernel
def MR : Nat → Lm := lmAt (forLams ((C8.fnBody s_law_refused).getD 1 (.Pass ⟨0, 0, 0, 0⟩)))
abbrev qR : Str := "_law_refused.<locals>.<lambda>"
/-- refused as no book, as no lot -/
def fBadB (z : Da) : Pe := ⟨fun _ _ x => Kn z ∧ x eBook, fun _ hx ⟨a, b⟩ => ⟨a, hx _ b⟩⟩
def fBadL : Pe := ⟨fun _ _ x => x eLot, fun _ hx b => hx _ b⟩
def fRef2 : Pf := ⟨fun xs k => ∃ n m bs, xs = [bkD n bs m] ∧ Sk n m bs ∧ k (.bl true), fun h ⟨n, m, bs, e, s, q⟩ => ⟨n, m, bs, e, s, h _ q⟩⟩
def O2 (n : Nat) : List Da := [.non, .int 5, .lst [.int 0], .lst [], .str "0", .tup [.int 1, .int 0], .tup [.int 0, .int 0], .tup [.int n], .tup [.int (-1)], .tup [.bl true], .tup [.str "0"], .obj 0 []]
theorem not_lot {n : Int} {d : Da} (h : ∀ t, d = ti t → ¬ LotOk n t) : lotB n d = false := by
  cases q : lotB n d with
  | false => rfl
  | true =>
    obtain ⟨t, e, h2⟩ := lotB_iff.mp q
    exact absurd h2 (h t e)
theorem tup_ints {xs : List Da} {t : List Int} (h : Da.tup xs = ti t) : xs = t.map Da.int := Da.tup.inj h
theorem o2_ok {n : Nat} : ∀ d ∈ O2 n, Kn2 d ∧ lotB n d = false := by
  intro d hd
  simp only [O2, List.mem_cons, List.not_mem_nil, or_false] at hd
  have two : ∀ a b : Int, ¬ a < b → lotB n (.tup [.int a, .int b]) = false := fun a b h => not_lot fun t e hl => by
    have e := tup_ints e
    match t, e with
    | [x, y], e =>
      injection e with e1 e2
      injection e2 with e2 _
      injection e1 with e1
      injection e2 with e2
      have := hl.1
      rw [List.pairwise_cons] at this
      have := this.1 y List.mem_cons_self
      omega
  have one : ∀ a : Int, ¬ (0 ≤ a ∧ a < n) → lotB n (.tup [.int a]) = false := fun a h => not_lot fun t e hl => by
    have e := tup_ints e
    match t, e with
    | [x], e =>
      injection e with e1 _
      injection e1 with e1
      have := hl.2 x List.mem_cons_self
      exact h (by omega)
  rcases hd with rfl | rfl | rfl | rfl | rfl | rfl | rfl | rfl | rfl | rfl | rfl | rfl
  · exact ⟨knB2_ok rfl, rfl⟩
  · exact ⟨knB2_ok rfl, rfl⟩
  · exact ⟨knB2_ok rfl, rfl⟩
  · exact ⟨knB2_ok rfl, rfl⟩
  · exact ⟨knB2_ok rfl, rfl⟩
  · exact ⟨knB2_ok rfl, two _ _ (by decide)⟩
  · exact ⟨knB2_ok rfl, two _ _ (by decide)⟩
  · exact ⟨knB2_ok rfl, one _ (by omega)⟩
  · exact ⟨knB2_ok rfl, one _ (by omega)⟩
  · exact ⟨knB2_ok rfl, not_lot fun t e _ => by
      have e := tup_ints e
      match t, e with
      | [x], e => injection e with e1 _; cases e1⟩
  · exact ⟨knB2_ok rfl, not_lot fun t e _ => by
      have e := tup_ints e
      match t, e with
      | [x], e => injection e with e1 _; cases e1⟩
  · exact ⟨knB2_ok rfl, rfl⟩
def N5 (n : Nat) (bs : List (List Int)) : List Da := [.non, .int 5, .tup (bs.map ti), .str "book", .tup [.int n, .tup (bs.map ti)]]
theorem n5_ok {n : Nat} {bs : List (List Int)} : ∀ z ∈ N5 n bs, Kn z ∧ noF z = true := by
  intro z hz
  simp only [N5, List.mem_cons, List.not_mem_nil, or_false] at hz
  have hb : noF (.tup (bs.map ti)) = true := noF_py (x := .tuple (bs.map pti)) (by simp only [py, pys_tis]; rfl)
  rcases hz with rfl | rfl | rfl | rfl | rfl
  · exact ⟨⟨_, rfl⟩, rfl⟩
  · exact ⟨⟨_, rfl⟩, rfl⟩
  · exact ⟨⟨_, rfl⟩, hb⟩
  · exact ⟨⟨_, rfl⟩, rfl⟩
  · refine ⟨⟨_, rfl⟩, ?_⟩
    show (noF (.int n) && (noF (.tup (bs.map ti)) && noFs [])) = true
    rw [hb]
    rfl
theorem lotsE_bad {n m : Nat} {bs : List (List Int)} {e : Da} {ok : Nat → Nat → List (List Int) → List Int → Prop} {x : Ed → Prop} (h1 : Kn2 e) (h2 : lotB n e = false) (h : x eLot) : lotsE (bkD n bs m) e ok x := by
  refine .inr ⟨n, m, bs, rfl, h1, ?_, fun _ => h⟩
  intro t et hl
  have := lotB_iff.mpr ⟨t, et, hl⟩
  rw [h2] at this
  cases this
section
variable {P : Program} {w : World} {L : Ly} {T : Xt} {mg : Str → Option Value} {base : Heap} {f g fI : Addr} {fd fdC : FuncData} {cB cE cL cF : Addr} {TT : List (Addr × Str)}
/-- what the law asks of the classes of errors -/
structure Kt2 (K : Frag) (mg : Str → Option Value) (T : Xt) (cE cL cF : Addr) : Prop where
  two : ∀ n, T n = (cE, some ("part" : Str)) ∨ T n = (cL, none)
  gF : mg "FlatError" = some (.ref cF)
  eE : PySem.W.exmOne K (.ref cE) (.ref cF) = some true
  eL : PySem.W.exmOne K (.ref cL) (.ref cF) = some true
  nE : PySem.W.kitOne K (.type "NoneType") (.ref cE) = some false
  nL : PySem.W.kitOne K (.type "NoneType") (.ref cL) = some false
  xE : ExcC K cE
  xL : ExcC K cL
theorem Kt2.ef {K : Frag} (k : Kt2 K mg T cE cL cF) (n : Nat) : PySem.W.exmOne K (.ref (T n).1) (.ref cF) = some true := by
  rcases k.two n with e | e
  · rw [e]; exact k.eE
  · rw [e]; exact k.eL
theorem Kt2.xc {K : Frag} (k : Kt2 K mg T cE cL cF) (n : Nat) : ExcC K (T n).1 := by
  rcases k.two n with e | e
  · rw [e]; exact k.xE
  · rw [e]; exact k.xL
theorem ok_law_refused2 {fR fC : Addr} (LB : LyB L cB cE) (LK : LyK L) (LE : LyE L T) (LF : LyF L MR qR) (LV : LyV L) (Kt : Kt2 L.K mg T cE cL cF) (Fd : C8.Def L.K mg "_law_refused" s_law_refused f fd) (b : Binds L.K fd ["draw", "book"] []) (B : Bw mg) (Bx : Bx mg)
    (hT : TabIn base mg fd.code qR TT) (TE : ErB P w L.K mg base T cE cL) (C : BkC L.K mg cB fI) (FdC : C8.Def L.K mg "_law_caught" s_law_caught g fdC) (bC : Binds L.K fdC ["work"] []) (gR : mg "rank" = some (.ref fR)) (gC : mg "closure" = some (.ref fC))
    (c_law_pick : CalG P w L.K mg base C8.CX0 3 "_law_pick" (spD L fPick))
    (c_rank : ∀ B', CalG P w L.K mg B' (L2.CX P w) 5 "rank" (spE L T (fLot2 fun n m bs t => .dat (.int (rankL bs t : Nat))))) (c_closure : ∀ B', CalG P w L.K mg B' (L2.CX P w) 5 "closure" (spE L T (fLot2 fun n m bs t => .dat (ti (closL n bs t)))))
    (c_free_lots : ∀ B', CalG P w L.K mg B' (L2.CX P w) 4 "free_lots" (spE L T fFreeLots)) (c_idle : ∀ B', CalG P w L.K mg B' (L2.CX P w) 4 "idle" (spE L T (fBook1 fun n m bs => .dat (ti (idleL n bs)))))
    (c_sure : ∀ B', CalG P w L.K mg B' (L2.CX P w) 4 "sure" (spE L T (fBook1 fun n m bs => .dat (ti (sureL n bs))))) : CalG P w L.K mg base C8.CX0 9 "_law_refused" (spDT L TT fRef2) := by
  have sc := sc_law_refused
  have e2 : (T 2).1 = cE := by rw [TE.t2]
  have e4 : (T 4).1 = cL := by rw [TE.t4]
  refine calDT (n := 5) Fd b sc ?_ (fun v vs h => ?_) fun cdv A outer s H E hcd hr hgu => ?_
  · rintro ds k ⟨n, m, bs, rfl, _⟩
    rfl
  · rw [start_eq (n := 6) (by show 8 = (vs.length + 1) + 6; rw [h]; rfl)]
    rfl
  subst hcd
  have LT : ∀ i, i < 5 → LamT (cxOf C8.CX0 P w L.K mg base ["draw", "book", "none", "work", "caught", "bad", "ask", "~"] "_law_refused" (C8.fnScope s_law_refused) f fd.code A outer s H E).nox TT (MR i).1 (MR i).2.2 ["none"] [] ["none"] [2] := by
    intro i hi
    have key : ∀ i : Nat, i < 5 → lamNB ["none"] [] ["none"] (MR i).2.2 = true := by decide +kernel
    refine ⟨hT, lamN_by (key i hi), ?_, fun y hy => cl_law_refused y (by rw [List.mem_singleton.mp hy]; decide), rfl, fun _ => rfl⟩
    match i, hi with
    | 0, _ => exact rfl
    | 1, _ => exact rfl
    | 2, _ => exact rfl
    | 3, _ => exact rfl
    | 4, _ => exact rfl
  refine ⟨_, w_seq (w_set (ps_set (i := 2) sc.nd rfl (by first | exact Or.inl rfl | exact Or.inr rfl) (w_callD c_law_pick hr (by decide) hgu rfl (pv 0) (w_cons (w_lst (w_cons (w_non pe_non) (w_cons (w_int (kd := 0) pe_int) (w_cons (w_fld LB C.cls C.bases lk_bases (pe_fld (w_v (pv 1)) (by rfl))) (w_cons (w_str pe_str) (w_cons (w_tup (w_cons (w_fld LB C.cls C.size lk_size (pe_fld (w_v (pv 1)) (by rfl))) (w_cons (w_fld LB C.cls C.bases lk_bases (pe_fld (w_v (pv 1)) (by rfl))) w_nil))) w_nil)))))) w_nil))))
  (w_seq (w_forI snd_tgN (ps_for PassesOwn.never rfl (w_il (pi_list (w_lst (w_cons (w_lamO (i := 0) LF rfl rfl (LT 0 (by decide)) rfl rfl) (w_cons (w_lamO (i := 1) LF rfl rfl (LT 1 (by decide)) rfl rfl) (w_cons (w_lamO (i := 2) LF rfl rfl (LT 2 (by decide)) rfl rfl) (w_cons (w_lamO (i := 3) LF rfl rfl (LT 3 (by decide)) rfl rfl) (w_cons (w_lamO (i := 4) LF rfl rfl (LT 4 (by decide)) rfl rfl) w_nil)))))))) (pg_name (i := 3) sc.nd rfl (by first | exact Or.inl rfl | exact Or.inr rfl))
   (w_seq (w_set (ps_set (i := 4) sc.nd rfl (by first | exact Or.inl rfl | exact Or.inr rfl) (w_callO (n := 5) (j := 3) (kk := 7) (emb := fun _ (z : Da) => [z]) (C := fun _ z => Kn z) (FF := fun _ z => fCaE (fBadB z)) (N := fun _ => ["none"]) (ps := fun _ => []) (cs := fun _ => ["none"]) (is := fun _ => [2]) LF rfl LT rfl rfl rfl FdC.mgf FdC.kp (hr.mono (by decide)) hgu (pv 3)
      (fun i hi B' fl c G0 ws z cl at_ dcs hz => by
        match i, hi with
        | 0, _ => exact ok_caughtE LE FdC bC Kt.gF Kt.ef (lam_E (n := 0) (N := ["none"]) (calG_up (by decide) (c_rank B')) (lamN_by (by decide +kernel)) at_ dcs (fun _ _ => rfl) rfl (fun A outer s H E => ⟨rfl, w_cons (w_v (pv 0)) (w_cons (w_non pe_non) w_nil), rfl, rfl⟩) (fun kk xx ⟨h1, h2⟩ => ⟨_, rfl, _, _, rfl, .inl ⟨h1, h2⟩⟩))
        | 1, _ => exact ok_caughtE LE FdC bC Kt.gF Kt.ef (lam_E (n := 0) (N := ["none"]) (calG_up (by decide) (c_closure B')) (lamN_by (by decide +kernel)) at_ dcs (fun _ _ => rfl) rfl (fun A outer s H E => ⟨rfl, w_cons (w_v (pv 0)) (w_cons (w_non pe_non) w_nil), rfl, rfl⟩) (fun kk xx ⟨h1, h2⟩ => ⟨_, rfl, _, _, rfl, .inl ⟨h1, h2⟩⟩))
        | 2, _ => exact ok_caughtE LE FdC bC Kt.gF Kt.ef (lam_E (n := 0) (N := ["none"]) (calG_up (by decide) (c_free_lots B')) (lamN_by (by decide +kernel)) at_ dcs (fun _ _ => rfl) rfl (fun A outer s H E => ⟨rfl, w_cons (w_v (pv 0)) w_nil, rfl, rfl⟩) (fun kk xx ⟨h1, h2⟩ => ⟨_, rfl, _, rfl, .inl ⟨h1, h2⟩⟩))
        | 3, _ => exact ok_caughtE LE FdC bC Kt.gF Kt.ef (lam_E (n := 0) (N := ["none"]) (calG_up (by decide) (c_idle B')) (lamN_by (by decide +kernel)) at_ dcs (fun _ _ => rfl) rfl (fun A outer s H E => ⟨rfl, w_cons (w_v (pv 0)) w_nil, rfl, rfl⟩) (fun kk xx ⟨h1, h2⟩ => ⟨_, rfl, _, rfl, .inl ⟨h1, h2⟩⟩))
        | 4, _ => exact ok_caughtE LE FdC bC Kt.gF Kt.ef (lam_E (n := 0) (N := ["none"]) (calG_up (by decide) (c_sure B')) (lamN_by (by decide +kernel)) at_ dcs (fun _ _ => rfl) rfl (fun A outer s H E => ⟨rfl, w_cons (w_v (pv 0)) w_nil, rfl, rfl⟩) (fun kk xx ⟨h1, h2⟩ => ⟨_, rfl, _, rfl, .inl ⟨h1, h2⟩⟩))))))
    (w_one (w_if (ps_if (w_pt (w_or (pw_or (w_notT (pt_not (w_val (pt_val (w_isE LE Kt.xc Kt.nE (pe_callB call_isB (by rfl) Bx.isinstance (by decide +kernel) (pa_cons (w_v (pv 4)) (pa_cons (pe_glob (v := .ref cE) rfl TE.te.g rfl) pa_nil)))))))) (pw_or1 (w_cmpT op_notN1 (snd_notN fun H Q q => ⟨rfl, by simpa using q⟩) (w_err (n := 2) (nm := "part") LE (by rw [TE.t2]) (by rw [e2]; exact TE.te.xf) (by rw [e2]; exact TE.te.no) (pe_xv (w_v (pv 4)) (by rfl))) (w_non pe_non) (nomark _))))))
     (w_one (w_ret (ps_ret (w_bl pe_bl))))
     (w_snil pss_nil)))))))
  (w_seq (w_forI snd_tgN (ps_for PassesOwn.never rfl (w_il (pi_list (w_lst (w_cons (w_non pe_non) (w_cons (w_int (kd := 0) pe_int) (w_cons (w_lst (w_cons (w_int (kd := 0) pe_int) w_nil)) (w_cons (w_lst w_nil) (w_cons (w_str pe_str) (w_cons (w_tup (w_cons (w_int (kd := 0) pe_int) (w_cons (w_int (kd := 0) pe_int) w_nil))) (w_cons (w_tup (w_cons (w_int (kd := 0) pe_int) (w_cons (w_int (kd := 0) pe_int) w_nil)))
      (w_cons (w_tup (w_cons (w_fld LB C.cls C.size lk_size (pe_fld (w_v (pv 1)) (by rfl))) w_nil)) (w_cons (w_tup (w_cons (w_neg (pe_un un_neg (w_int (kd := 0) pe_int))) w_nil)) (w_cons (w_tup (w_cons (w_bl pe_bl) w_nil)) (w_cons (w_tup (w_cons (w_str pe_str) w_nil)) (w_cons (w_dict1 (k1 := .inl 0) rfl LK (pe_disp (pps_cons pe_int pe_int pps_nil) (by rfl) (by rfl) (fun z => by cases z) (by decide))) w_nil))))))))))))))) (pg_name (i := 5) sc.nd rfl (by first | exact Or.inl rfl | exact Or.inr rfl))
   (w_one (w_forI snd_tgN (ps_for PassesOwn.never rfl (w_il (pi_list (w_lst (w_cons (tW_C (fun G => dv_fnD LV G fR) (pe_glob (v := .ref fR) rfl gR rfl)) (w_cons (tW_C (fun G => dv_fnD LV G fC) (pe_glob (v := .ref fC) rfl gC rfl)) w_nil))))) (pg_name (i := 6) sc.nd rfl (by first | exact Or.inl rfl | exact Or.inr rfl))
     (w_one (w_if (ps_if (w_notT (pt_not (w_val (pt_val (w_isE LE Kt.xc Kt.nL (pe_callB call_isB (by rfl) Bx.isinstance (by decide +kernel) (pa_cons
        (w_lam0 (T := TT) (N := ["ask", "bad", "book"]) (ps := []) (cs := ["ask", "bad", "book"]) (is := [6, 5, 1]) (kk := 7) (emb := fun z : Addr × Da × Nat × Nat × List (List Int) => [fnD z.1, z.2.1, bkD z.2.2.1 z.2.2.2.2 z.2.2.2.1]) (C := fun z => (z.1 = fR ∨ z.1 = fC) ∧ Kn2 z.2.1 ∧ lotB z.2.2.1 z.2.1 = false) (FF := fun _ => fCaE fBadL)
          ⟨hT, by exact lamN_by (by decide +kernel), by exact rfl, (fun y hy => cl_law_refused y (by revert hy; revert y; decide)), rfl, fun _ => rfl⟩ rfl rfl FdC.mgf FdC.kp (hr.mono (by decide)) hgu (fun B' fl c G0 ws z cl at_ dcs hz => by
            obtain ⟨za, zb, zn, zm, zbs⟩ := z
            obtain ⟨h0, h1, h2⟩ := hz
            rcases h0 with h0 | h0
            · obtain ⟨f', fd', ps', Fg, hm, kp, bb⟩ := (c_rank B').ex
              have ef : f' = fR := by
                have := hm.symm.trans gR
                injection this with this
                injection this
              have h0 : za = fR := h0
              subst ef h0
              exact ok_caughtE LE FdC bC Kt.gF Kt.ef (lam_ask (n := 0) (ci := 0) (N := ["ask", "bad", "book"]) LV Fg kp bb (lamN_by (by decide +kernel)) at_ dcs (fun _ _ => rfl) rfl rfl rfl (fun A outer s H E => ⟨Or.inr (Or.inr rfl), w_cons (w_v (pv 2)) (w_cons (w_v (pv 1)) w_nil), rfl, rfl⟩)
                (fun kk xx h => ⟨_, rfl, _, rfl, _, _, rfl, lotsE_bad h1 h2 h⟩))
            · obtain ⟨f', fd', ps', Fg, hm, kp, bb⟩ := (c_closure B').ex
              have ef : f' = fC := by
                have := hm.symm.trans gC
                injection this with this
                injection this
              have h0 : za = fC := h0
              subst ef h0
              exact ok_caughtE LE FdC bC Kt.gF Kt.ef (lam_ask (n := 0) (ci := 0) (N := ["ask", "bad", "book"]) LV Fg kp bb (lamN_by (by decide +kernel)) at_ dcs (fun _ _ => rfl) rfl rfl rfl (fun A outer s H E => ⟨Or.inr (Or.inr rfl), w_cons (w_v (pv 2)) (w_cons (w_v (pv 1)) w_nil), rfl, rfl⟩)
                (fun kk xx h => ⟨_, rfl, _, rfl, _, _, rfl, lotsE_bad h1 h2 h⟩))))
        (pa_cons (pe_glob (v := .ref cL) rfl TE.gL rfl) pa_nil))))))))
       (w_one (w_ret (ps_ret (w_bl pe_bl))))
       (w_snil pss_nil)))))))))
  (w_one (w_ret (ps_ret (w_bl pe_bl)))))), ?_⟩
  rintro d l c ds kk ⟨n, m, bs, rfl, S, k⟩
  have D : ∀ n : Nat, n ≤ 20 → n ≤ sizeLine := fun n h => Nat.le_trans h (by decide)
  have mT : ∀ x0 x1 x2 x3 x4 x5 x6 : Option Sl, some (Sl.tab TT) ∈ [x0, x1, x2, x3, x4, x5, x6, some (.tab TT)] := fun x0 x1 x2 x3 x4 x5 x6 => List.mem_of_getElem? (i := 7) rfl
  have hkB : PySem.W.kitOne L.K (.ref (T eBook.n).1) (.ref cE) = some true := by
    show PySem.W.kitOne L.K (.ref (T 2).1) (.ref cE) = some true
    rw [e2]
    exact kit_self
  have hkL : PySem.W.kitOne L.K (.ref (T eLot.n).1) (.ref cL) = some true := by
    show PySem.W.kitOne L.K (.ref (T 4).1) (.ref cL) = some true
    rw [e4]
    exact kit_self
  refine ⟨d, l, c, rfl, _, rfl, _, _, rfl, rfl, _, rfl, _, _, rfl, rfl, _, rfl, _, _, rfl, rfl, D 2 (by decide), D 5 (by decide), List.mem_cons_self, N5 n bs, rfl, by simp [N5], by simp [N5], fun z hz => ?_⟩
  obtain ⟨hz1, hz2⟩ := n5_ok z hz
  refine ⟨mT _ _ _ _ _ _ _, mT _ _ _ _ _ _ _, mT _ _ _ _ _ _ _, mT _ _ _ _ _ _ _, mT _ _ _ _ _ _ _, D 5 (by decide), _, rfl, ?_⟩
  refine loopF_inv (fun j ρ => ∃ x3 x4 x5 x6 : Option Sl, ρ = [some (.drw d l c), some (.dat (bkD n bs m)), some (.dat z), x3, x4, x5, x6, some (.tab TT)]) ⟨_, _, _, _, rfl⟩ ?_ ?_
  · rintro j x ρ hj ⟨x3, x4, x5, x6, rfl⟩
    have hm := List.mem_of_getElem? hj
    obtain ⟨i, hi, rfl⟩ : ∃ i, i < 5 ∧ x = lamO i (cloFrom (cxOf C8.CX0 P w L.K mg base ["draw", "book", "none", "work", "caught", "bad", "ask", "~"] "_law_refused" (C8.fnScope s_law_refused) f fd.code A outer s H E).nox.env.cells (MR i).2.2.names []) := by
      simp only [List.mem_cons, List.not_mem_nil, or_false] at hm
      rcases hm with rfl | rfl | rfl | rfl | rfl
      · exact ⟨0, by decide, rfl⟩
      · exact ⟨1, by decide, rfl⟩
      · exact ⟨2, by decide, rfl⟩
      · exact ⟨3, by decide, rfl⟩
      · exact ⟨4, by decide, rfl⟩
    refine ⟨mT _ _ _ _ _ _ _, i, z, hi, rfl, rfl, ?_, hz1, ⟨rfl, hz1, rfl, rfl, ?_⟩⟩
    · show (noF z && noFs []) = true
      rw [hz2]
      rfl
    refine ⟨_, rfl, true, .inr ⟨eBook, rfl, hkB⟩, _, rfl, ?_⟩
    refine ⟨_, rfl, .non, rfl, rfl, rfl, _, rfl, bite (fun h => by cases h) fun _ => ⟨_, _, _, _, rfl⟩⟩
  rintro ρ ⟨x3, x4, x5, x6, rfl⟩
  refine ⟨D 1 (by decide), D 0 (by decide), D 2 (by decide), D 2 (by decide), _, rfl, _, _, rfl, rfl, D 1 (by decide), 1, rfl, D 1 (by decide), D 1 (by decide), D 1 (by decide), D 12 (by decide), O2 n, rfl, ?_⟩
  refine loopF_inv (fun j ρ => ∃ x3 x4 x5 x6 : Option Sl, ρ = [some (.drw d l c), some (.dat (bkD n bs m)), some (.dat z), x3, x4, x5, x6, some (.tab TT)]) ⟨_, _, _, _, rfl⟩ ?_ ?_
  · rintro j x ρ hj ⟨x3, x4, x5, x6, rfl⟩
    obtain ⟨q1, q2⟩ := o2_ok x (List.mem_of_getElem? hj)
    refine ⟨D 2 (by decide), [fnD fR, fnD fC], rfl, ?_⟩
    refine loopF_inv (fun j ρ => ∃ x3 x4 x6 : Option Sl, ρ = [some (.drw d l c), some (.dat (bkD n bs m)), some (.dat z), x3, x4, some (.dat x), x6, some (.tab TT)]) ⟨_, _, _, rfl⟩ ?_ ?_
    · rintro i y ρ hi ⟨x3, x4, x6, rfl⟩
      have hm := List.mem_of_getElem? hi
      obtain ⟨fa, hfa, rfl⟩ : ∃ fa : Addr, (fa = fR ∨ fa = fC) ∧ y = fnD fa := by
        simp only [List.mem_cons, List.not_mem_nil, or_false] at hm
        rcases hm with rfl | rfl
        · exact ⟨fR, .inl rfl, rfl⟩
        · exact ⟨fC, .inr rfl, rfl⟩
      refine ⟨mT _ _ _ _ _ _ _, (fa, x, n, m, bs), rfl, ⟨hfa, q1, q2⟩, ⟨rfl, rfl, rfl, ?_⟩⟩
      refine ⟨true, .inr ⟨eLot, rfl, hkL⟩, _, rfl, bite (fun h => by cases h) fun _ => ⟨_, _, _, rfl⟩⟩
    · rintro ρ ⟨x3, x4, x6, rfl⟩
      exact ⟨_, _, _, _, rfl⟩
  rintro ρ ⟨x3, x4, x5, x6, rfl⟩
  exact ⟨List.mem_cons_self, k⟩
end
end Fv
namespace Fv
open PySem PySem.Spec PyProof.Rows L2 Fr Fw Fs
/-! # the law's own def -/
theorem lots_ti {n m : Nat} {bs : List (List Int)} {t : List Int} (h : LotOk n t) {ok : Nat → Nat → List (List Int) → List Int → Prop} {x : Ed → Prop} (k : ok n m bs t) : lotsE (bkD n bs m) (ti t) ok x :=
  .inr ⟨n, m, bs, rfl, ⟨⟨_, rfl⟩, fun ys e y hy => by
    have e' := Da.tup.inj e
    subst e'
    obtain ⟨i, _, rfl⟩ := List.mem_map.mp hy
    exact ⟨_, rfl⟩⟩, fun t' e _ => by
    have := ti_inj e
    subst this
    exact k, fun z => by
    have := lotB_iff.mpr ⟨t, rfl, h⟩
    rw [z] at this
    cases this⟩
abbrev s_law : Stmt := topS 59
theorem sc_law : FnScope ["script", "draw", "turn", "sketch", "size", "bases_here", "book", "free_here", "lot", "told", "due", "item", "base_here", "lap", "one", "other", "~"] ["script"] (C8.fnScope s_law) := C8.fnScope_by (by decide +kernel)
def spLaw (L : Ly) (T : List (Addr × Str)) : L2.Sp := fun vs H Q _ => ∃ (a : Addr) (ns : List Int) (G : Hp), vs = [.ref a] ∧ SqL L.K G a (ns.map V.int) ∧ ns.length ≤ 63 ∧ Same G H ∧ (∀ p ∈ T, G p.1 = none) ∧ TabsG T G H ∧ ∀ H', Q (.bl true) H'
section
variable {P : Program} {w : World} {L : Ly} {T : Xt} {mg : Str → Option Value} {base : Heap} {f g fI : Addr} {fd fdC fdI : FuncData} {cB cE cL cF : Addr} {TT : List (Addr × Str)}
theorem rep_law {G H : Hp} {a d l c : Addr} {ns : List Int} (LS : LyS L) (s : Same G H) (hs : SqL L.K G a (ns.map V.int)) (gd : G d = none) (gl : G l = none) (D : Draw d l c H) (t : TabsG TT G H) (g : ∀ p ∈ TT, G p.1 = none) :
    Rep L ⟨fun b => Mdl d l b ∨ MT TT b, G, H, [], TT⟩ G H [some (.ref a), some (.ref d), none, none, none, none, none, none, none, none, none, none, none, none, none, none, none] [some (.dat (.obj 5 (ns.map Da.int))), some (.drw d l c), none, none, none, none, none, none, none, none, none, none, none, none, none, none, some (.tab TT)] where
  gr := Grow.refl s
  mh := fun b hb => by
    obtain ⟨t1, t2, _⟩ := draw_trk D
    rcases hb with (e | e) | ⟨p, hp, rfl⟩
    · rw [e]; exact ⟨t1, gd⟩
    · rw [e]; exact ⟨t2, gl⟩
    · exact ⟨(t p hp).tk, g p hp⟩
  env := .cons (show Dv L G (.ref a) (.obj 5 (ns.map Da.int)) from .obj (LS.scr.mpr ⟨a, rfl, hs⟩) dv_ints) (.cons ⟨rfl, gd, gl, D⟩ ((.cons trivial (.cons trivial (.cons trivial (.cons trivial (.cons trivial (.cons trivial (.cons trivial (.cons trivial (.cons trivial (.cons trivial (.cons trivial (.cons trivial (.cons trivial (.cons trivial (.cons (by rfl) .nil)))))))))))))))))
  nd := draw_nd D
  fm := fun p es hm => by simp at hm
  fd := fun d' l' c' hm => by
    simp at hm
    obtain ⟨rfl, rfl, rfl⟩ := hm
    exact ⟨.inl (.inl rfl), .inl (.inr rfl)⟩
  ks := fun q hq => by cases hq
  tb := t
  tg := fun p hp => ⟨g p hp, tab_off t D p hp, fun q hq => by cases hq⟩
  mt := fun p hp => .inr ⟨p, hp, rfl⟩
  ft := fun T' hm => by
    simp at hm
    exact hm
theorem law_lot {n : Nat} {l : List Nat} (h : l.Sublist (List.range n)) : LotOk n (l.map fun i : Nat => (i : Int)) := ⟨by
  refine List.pairwise_map.mpr (List.Pairwise.imp ?_ ((pw_rangeN n).sublist h))
  intro a b h
  omega, fun x hx => by
  obtain ⟨i, hi, rfl⟩ := List.mem_map.mp hx
  have := List.mem_range.mp (h.subset hi)
  omega⟩
theorem lot_small {n : Nat} (hn : n ≤ 8) {t : List Int} (h : LotOk n t) : t.length ≤ 8 ∧ ∀ x ∈ t, 0 ≤ x ∧ x < 9 := ⟨Nat.le_trans (lot_le h) hn, fun x hx => by have := h.2 x hx; omega⟩
theorem with_lot {n : Nat} {a b : List Int} (ha : LotOk n a) (hb : LotOk n b) : LotOk n (withL a b) := ⟨pw_asc _, fun x hx => (mem_with.mp hx).elim (ha.2 x) (hb.2 x)⟩
theorem shared_lot {n : Nat} {a b : List Int} (ha : LotOk n a) : LotOk n (sharedL a b) := ⟨ha.1.filter _, fun x hx => ha.2 x (ms.mp hx).1⟩
theorem log2_8 {i : Nat} (h : i ≤ 8) : ((i : Int)).natAbs.log2 < 1920 := by
  have h1 : ((i : Int)).natAbs = i := Int.natAbs_natCast i
  rw [h1]
  have key : ∀ j ∈ List.range 9, Nat.log2 j < 1920 := by decide +kernel
  exact key i (List.mem_range.mpr (by omega))
theorem idle_due {n : Nat} {bs fh : List (List Int)} (ne : bs ≠ []) (h : ∀ t, t ∈ fh ↔ LotOk n t ∧ rankL bs t = t.length) : ∀ i, i < n → ((([(i : Int)] : List Int) ∉ fh) ↔ usesN bs i = 0) := fun i hi => by
  rw [h]
  have l1 : LotOk n [(i : Int)] := ⟨List.pairwise_singleton _ _, fun x hx => by rw [List.mem_singleton.mp hx]; omega⟩
  have := rank_one ne (i : Int)
  constructor
  · intro q
    refine Classical.byContradiction fun z => q ⟨l1, this.mpr z⟩
  · rintro z ⟨_, q⟩
    exact this.mp q z
theorem ok_law {kb : Nat} (hkb : kb ≤ 9) (LB : LyB L cB cE) (LS : LyS L) (F : C8.Fun L.K "law" "law" s_law f fd) (B : Bw mg) (Bx : Bx mg)
    (c_law_begun : CalG P w L.K mg base C8.CX0 kb "_law_begun" (spBegun L.K)) (c_law_sketch : CalG P w L.K mg base C8.CX0 7 "_law_sketch" (spDT L TT fSketch)) (c_law_made : CalG P w L.K mg base C8.CX0 7 "_law_made" (spD L fMade)) (c_law_take : CalG P w L.K mg base C8.CX0 2 "_law_take" (spD L fTake))
    (c_law_all_lots : CalG P w L.K mg base C8.CX0 2 "_law_all_lots" (spF L fAllLots)) (c_law_rank_in : CalG P w L.K mg base C8.CX0 2 "_law_rank_in" (spF L fRank)) (c_law_with : CalG P w L.K mg base C8.CX0 1 "_law_with" (spF L fWith))
    (c_law_shared : CalG P w L.K mg base C8.CX0 1 "_law_shared" (spF L (f2T fun a b => ti (sharedL a b)))) (c_law_closure_in : CalG P w L.K mg base C8.CX0 3 "_law_closure_in" (spF L fClos)) (c_law_refused : CalG P w L.K mg base C8.CX0 9 "_law_refused" (spDT L TT fRef2))
    (c_free_lots : CalG P w L.K mg base C8.CX0 4 "free_lots" (spE0 L fFreeLots)) (k_free_lots : CalK P w L.K mg base C8.CX0 4 "free_lots" (spE0 L fFreeLots) ["book"] List.reverse)
    (c_idle : CalG P w L.K mg base C8.CX0 4 "idle" (spE0 L (fBook1 fun n m bs => .dat (ti (idleL n bs))))) (k_idle : CalK P w L.K mg base C8.CX0 4 "idle" (spE0 L (fBook1 fun n m bs => .dat (ti (idleL n bs)))) ["book"] List.reverse)
    (c_sure : CalG P w L.K mg base C8.CX0 4 "sure" (spE0 L (fBook1 fun n m bs => .dat (ti (sureL n bs))))) (k_sure : CalK P w L.K mg base C8.CX0 4 "sure" (spE0 L (fBook1 fun n m bs => .dat (ti (sureL n bs)))) ["book"] List.reverse)
    (c_rank : CalG P w L.K mg base C8.CX0 5 "rank" (spE0 L (fLot2 fun n m bs t => .dat (.int (rankL bs t : Nat))))) (k_rank : CalK P w L.K mg base C8.CX0 5 "rank" (spE0 L (fLot2 fun n m bs t => .dat (.int (rankL bs t : Nat)))) ["lot", "book"] List.reverse)
    (c_closure : CalG P w L.K mg base C8.CX0 5 "closure" (spE0 L (fLot2 fun n m bs t => .dat (ti (closL n bs t))))) (k_closure : CalK P w L.K mg base C8.CX0 5 "closure" (spE0 L (fLot2 fun n m bs t => .dat (ti (closL n bs t)))) ["lot", "book"] List.reverse) :
    FnG P w L.K mg base C8.CX0 10 f fd ["script"] (spLaw L TT) := by
  have sc := sc_law
  refine mkc F sc ?_ ?_
  · rintro vs H Q E ⟨a, ns, G, rfl, _⟩
    rfl
  · rintro cdv A outer s H vs Q E hcd hr hgu ⟨a, ns, G, rfl, hs, hl, sG, hG, hTb, hq⟩
    subst hcd
    refine ⟨_, PSs.nox (pss_cons (ps_set (i := 1) sc.nd rfl (by first | exact Or.inl rfl | exact Or.inr rfl) (pe_cg c_law_begun hr hkb hgu rfl (pa_cons (pv 0) pa_nil)))
  (w_seq (w_forI snd_tgN (ps_for PassesOwn.never rfl (w_ir1 (pi_range1 rfl B.range (w_cons (w_op op_add snd_add (w_int (kd := 0) pe_int) (w_tCB snd_min2 (pe_callB (call_min2 rfl) (by rfl) Bx.min (by decide +kernel) (w_cons (w_tCB (snd_lenS LS) (pe_callB call_len_seq (by rfl) B.len (by decide +kernel) (w_cons (w_v (pv 0)) w_nil))) (w_cons (w_int (kd := 0) pe_int) w_nil))))) w_nil))) (pg_name (i := 2) sc.nd rfl (by first | exact Or.inl rfl | exact Or.inr rfl))
   (w_seq (w_set (ps_set (i := 3) sc.nd rfl (by first | exact Or.inl rfl | exact Or.inr rfl) (w_callDT c_law_sketch hr (by decide) hgu rfl (pv 1) (w_cons (w_int (kd := 0) pe_int) w_nil))))
    (w_seq (w_asg (snd_tgTup (n := 2) (snd_tgCons snd_tgN (snd_tgCons snd_tgN snd_tgNil))) (ps_asg (w_v (pv 3)) (pg_tup (n := 2) (by rfl) (pgs_cons (pg_name (i := 4) sc.nd rfl (by first | exact Or.inl rfl | exact Or.inr rfl)) (pgs_cons (pg_name (i := 5) sc.nd rfl (by first | exact Or.inl rfl | exact Or.inr rfl)) pgs_nil)))))
    (w_seq (w_set (ps_set (i := 6) sc.nd rfl (by first | exact Or.inl rfl | exact Or.inr rfl) (w_callD c_law_made hr (by decide) hgu rfl (pv 1) (w_cons (w_v (pv 3)) w_nil))))
    (w_seq (w_set (ps_set (i := 7) sc.nd rfl (by first | exact Or.inl rfl | exact Or.inr rfl) (w_lc (sndv_N (by decide)) (pe_lc (own := [("lot", 8)]) (by rfl) sc.nd (w_il (pi_list (w_call c_law_all_lots hr (by decide) hgu rfl (w_cons (w_listRg (pe_listRg rfl (by rfl) B.list (prg_1 (by rfl) B.range (w_v (pv 4))))) w_nil)))) (blkOk_by (by kernel_rfl)) (fun _ _ _ _ _ => (pg_name (i := 8) sc.nd rfl (by first | exact Or.inl rfl | exact Or.inr rfl))) (fun _ _ _ _ _ => w_tone (w_cmpT (op_eqD hr.units) snd_eq (w_call c_law_rank_in hr (by decide) hgu rfl (w_cons (w_v (pv 5)) (w_cons (w_v (pv 8)) w_nil))) (w_tCB snd_len (pe_callB call_len_seq (by rfl) B.len (by decide +kernel) (w_cons (w_v (pv 8)) w_nil))) (nomark _))) (fun _ _ _ _ _ => (w_v (pv 8)))))))
    (w_seq (w_setE (ps_set (i := 9) sc.nd rfl (by first | exact Or.inl rfl | exact Or.inr rfl) (pe_E c_free_lots hr (by decide) hgu rfl (w_cons (w_v (pv 6)) w_nil))))
    (w_seq (w_if (ps_if (w_pt (w_or (pw_or (w_cmpT op_ne snd_neS (w_reprG (pe_callB (call_reprD hgu hr.units) (by rfl) Bx.repr (by decide +kernel) (pa_cons (pv 9) pa_nil))) (w_tCB snd_reprL (pe_callB (call_reprD hgu hr.units) (by rfl) Bx.repr (by decide +kernel) (w_cons (w_v (pv 7)) w_nil))) (nomark _)) (pw_or1 (w_cmpT (op_neD hr.units) snd_ne (w_EK k_free_lots hr (by decide) hgu rfl (w_kcons (w_v (pv 6)) w_knil)) (w_v (pv 7)) (nomark _))))))
     (w_one (w_ret (ps_ret (w_bl pe_bl))))
     (w_snil pss_nil)))
    (w_seq (w_clear (ps_expr (pe_bm0 PySem.F.plainAttrs_list PySem.F.slot_list_clear PySem.F.type_list_clear mt_clear (pv 9))))
    (w_seq (w_if (ps_if (w_cmpT (op_neD hr.units) snd_ne (w_tCB snd_len (pe_callB call_len_seq (by rfl) B.len (by decide +kernel) (w_cons (w_E (pe_E c_free_lots hr (by decide) hgu rfl (w_cons (w_v (pv 6)) w_nil))) w_nil))) (w_tCB snd_len (pe_callB call_len_seq (by rfl) B.len (by decide +kernel) (w_cons (w_v (pv 7)) w_nil))) (nomark _))
     (w_one (w_ret (ps_ret (w_bl pe_bl))))
     (w_snil pss_nil)))
    (w_seq (w_set (ps_set (i := 10) sc.nd rfl (by first | exact Or.inl rfl | exact Or.inr rfl) (w_tCB snd_tupOf (pe_callTy call_tuple_of (by rfl) B.tuple (by decide +kernel) (w_cons (w_lc (sndv_N (by decide)) (pe_lc (own := [("item", 11)]) (by rfl) sc.nd (w_ir1 (pi_range1 rfl B.range (w_cons (w_v (pv 4)) w_nil))) (blkOk_by (by kernel_rfl)) (fun _ _ _ _ _ => (pg_name (i := 11) sc.nd rfl (by first | exact Or.inl rfl | exact Or.inr rfl))) (fun _ _ _ _ _ => w_tone (w_cmpT (op_notInD (units65 hr)) snd_notInD (w_tup (w_cons (w_v (pv 11)) w_nil)) (w_v (pv 7)) (by rfl))) (fun _ _ _ _ _ => (w_v (pv 11))))) w_nil)))))
    (w_seq (w_if (ps_if (w_pt (w_or (pw_or (w_cmpT op_ne snd_neS (w_tCB snd_repr1 (pe_callB (call_reprD hgu hr.units) (by rfl) Bx.repr (by decide +kernel) (w_cons (w_E (pe_E c_idle hr (by decide) hgu rfl (w_cons (w_v (pv 6)) w_nil))) w_nil))) (w_tCB snd_repr1 (pe_callB (call_reprD hgu hr.units) (by rfl) Bx.repr (by decide +kernel) (w_cons (w_v (pv 10)) w_nil))) (nomark _)) (pw_or1 (w_cmpT (op_neD hr.units) snd_ne (w_EK k_idle hr (by decide) hgu rfl (w_kcons (w_v (pv 6)) w_knil)) (w_v (pv 10)) (nomark _))))))
     (w_one (w_ret (ps_ret (w_bl pe_bl))))
     (w_snil pss_nil)))
    (w_seq (w_set (ps_set (i := 10) sc.nd rfl (by first | exact Or.inl rfl | exact Or.inr rfl) (w_tCB snd_tupOf (pe_callTy call_tuple_of (by rfl) B.tuple (by decide +kernel) (w_cons (w_lc (sndv_N (by decide)) (pe_lc (own := [("item", 11)]) (by rfl) sc.nd (w_ir1 (pi_range1 rfl B.range (w_cons (w_v (pv 4)) w_nil))) (blkOk_by (by kernel_rfl)) (fun _ _ _ _ _ => (pg_name (i := 11) sc.nd rfl (by first | exact Or.inl rfl | exact Or.inr rfl))) (fun _ _ _ _ _ => w_tone (w_cmpT (op_eqD hr.units) snd_eq (w_lc (sndv_N (by decide)) (pe_lc (own := [("base_here", 12)]) (by rfl) sc.nd (w_il (pi_list (w_v (pv 5)))) (blkOk_by (by kernel_rfl)) (fun _ _ _ _ _ => (pg_name (i := 12) sc.nd rfl (by first | exact Or.inl rfl | exact Or.inr rfl))) (fun _ _ _ _ _ => w_tone (w_cmpT op_notIn_seq snd_inI (w_v (pv 11)) (w_v (pv 12)) (by rfl))) (fun _ _ _ _ _ => (w_int (kd := 0) pe_int)))) (w_lst w_nil) (nomark _))) (fun _ _ _ _ _ => (w_v (pv 11))))) w_nil)))))
    (w_seq (w_if (ps_if (w_pt (w_or (pw_or (w_cmpT op_ne snd_neS (w_tCB snd_repr1 (pe_callB (call_reprD hgu hr.units) (by rfl) Bx.repr (by decide +kernel) (w_cons (w_E (pe_E c_sure hr (by decide) hgu rfl (w_cons (w_v (pv 6)) w_nil))) w_nil))) (w_tCB snd_repr1 (pe_callB (call_reprD hgu hr.units) (by rfl) Bx.repr (by decide +kernel) (w_cons (w_v (pv 10)) w_nil))) (nomark _)) (pw_or1 (w_cmpT (op_neD hr.units) snd_ne (w_EK k_sure hr (by decide) hgu rfl (w_kcons (w_v (pv 6)) w_knil)) (w_v (pv 10)) (nomark _))))))
     (w_one (w_ret (ps_ret (w_bl pe_bl))))
     (w_snil pss_nil)))
    (w_seq (w_forI snd_tgN (ps_for PassesOwn.never rfl (w_ir1 (pi_range1 rfl B.range (w_cons (w_int (kd := 0) pe_int) w_nil))) (pg_name (i := 13) sc.nd rfl (by first | exact Or.inl rfl | exact Or.inr rfl))
     (w_seq (w_set (ps_set (i := 14) sc.nd rfl (by first | exact Or.inl rfl | exact Or.inr rfl) (w_tCB snd_tupOf (pe_callTy call_tuple_of (by rfl) B.tuple (by decide +kernel) (w_cons (w_lc (sndv_N (by decide)) (pe_lc (own := [("item", 11)]) (by rfl) sc.nd (w_ir1 (pi_range1 rfl B.range (w_cons (w_v (pv 4)) w_nil))) (blkOk_by (by kernel_rfl)) (fun _ _ _ _ _ => (pg_name (i := 11) sc.nd rfl (by first | exact Or.inl rfl | exact Or.inr rfl))) (fun _ _ _ _ _ => w_tone (w_cmpT (op_eqD hr.units) snd_eq (w_callD c_law_take hr (by decide) hgu rfl (pv 1) (w_cons (w_int (kd := 0) pe_int) w_nil)) (w_int (kd := 0) pe_int) (nomark _))) (fun _ _ _ _ _ => (w_v (pv 11))))) w_nil)))))
      (w_seq (w_set (ps_set (i := 15) sc.nd rfl (by first | exact Or.inl rfl | exact Or.inr rfl) (w_tCB snd_tupOf (pe_callTy call_tuple_of (by rfl) B.tuple (by decide +kernel) (w_cons (w_lc (sndv_N (by decide)) (pe_lc (own := [("item", 11)]) (by rfl) sc.nd (w_ir1 (pi_range1 rfl B.range (w_cons (w_v (pv 4)) w_nil))) (blkOk_by (by kernel_rfl)) (fun _ _ _ _ _ => (pg_name (i := 11) sc.nd rfl (by first | exact Or.inl rfl | exact Or.inr rfl))) (fun _ _ _ _ _ => w_tone (w_cmpT (op_eqD hr.units) snd_eq (w_callD c_law_take hr (by decide) hgu rfl (pv 1) (w_cons (w_int (kd := 0) pe_int) w_nil)) (w_int (kd := 0) pe_int) (nomark _))) (fun _ _ _ _ _ => (w_v (pv 11))))) w_nil)))))
      (w_seq (w_if (ps_if (w_pt (w_or (pw_or (w_cmpT op_ne snd_neS (w_tCB snd_reprI (pe_callB SkE.call_repr_int (by rfl) Bx.repr (by decide +kernel) (w_cons (w_E (pe_E c_rank hr (by decide) hgu rfl (w_cons (w_v (pv 6)) (w_cons (w_v (pv 14)) w_nil)))) w_nil))) (w_tCB snd_reprI (pe_callB SkE.call_repr_int (by rfl) Bx.repr (by decide +kernel) (w_cons (w_call c_law_rank_in hr (by decide) hgu rfl (w_cons (w_v (pv 5)) (w_cons (w_v (pv 14)) w_nil))) w_nil))) (nomark _)) (pw_or1 (w_cmpT (op_neD hr.units) snd_ne (w_EK k_rank hr (by decide) hgu rfl (w_kcons (w_v (pv 15)) (w_kcons (w_v (pv 6)) w_knil))) (w_call c_law_rank_in hr (by decide) hgu rfl (w_cons (w_v (pv 5)) (w_cons (w_v (pv 15)) w_nil))) (nomark _))))))
       (w_one (w_ret (ps_ret (w_bl pe_bl))))
       (w_snil pss_nil)))
      (w_seq (w_if (ps_if (w_cmpT op_lt snd_lt (w_op op_add snd_add (w_E (pe_E c_rank hr (by decide) hgu rfl (w_cons (w_v (pv 6)) (w_cons (w_v (pv 14)) w_nil)))) (w_E (pe_E c_rank hr (by decide) hgu rfl (w_cons (w_v (pv 6)) (w_cons (w_v (pv 15)) w_nil))))) (w_op op_add snd_add (w_E (pe_E c_rank hr (by decide) hgu rfl (w_cons (w_v (pv 6)) (w_cons (w_call c_law_with hr (by decide) hgu rfl (w_cons (w_v (pv 14)) (w_cons (w_v (pv 15)) w_nil))) w_nil)))) (w_E (pe_E c_rank hr (by decide) hgu rfl (w_cons (w_v (pv 6)) (w_cons (w_call c_law_shared hr (by decide) hgu rfl (w_cons (w_v (pv 14)) (w_cons (w_v (pv 15)) w_nil))) w_nil))))) (nomark _))
       (w_one (w_ret (ps_ret (w_bl pe_bl))))
       (w_snil pss_nil)))
      (w_seq (w_set (ps_set (i := 10) sc.nd rfl (by first | exact Or.inl rfl | exact Or.inr rfl) (w_call c_law_closure_in hr (by decide) hgu rfl (w_cons (w_v (pv 3)) (w_cons (w_v (pv 14)) w_nil)))))
      (w_one (w_if (ps_if (w_pt (w_or (pw_or (w_cmpT op_ne snd_neS (w_tCB snd_repr1 (pe_callB (call_reprD hgu hr.units) (by rfl) Bx.repr (by decide +kernel) (w_cons (w_E (pe_E c_closure hr (by decide) hgu rfl (w_cons (w_v (pv 6)) (w_cons (w_v (pv 14)) w_nil)))) w_nil))) (w_tCB snd_repr1 (pe_callB (call_reprD hgu hr.units) (by rfl) Bx.repr (by decide +kernel) (w_cons (w_v (pv 10)) w_nil))) (nomark _)) (pw_or1 (w_cmpT (op_neD hr.units) snd_ne (w_EK k_closure hr (by decide) hgu rfl (w_kcons (w_v (pv 10)) (w_kcons (w_v (pv 6)) w_knil))) (w_v (pv 10)) (nomark _))))))
       (w_one (w_ret (ps_ret (w_bl pe_bl))))
       (w_snil pss_nil)))))))))))
    (w_one (w_if (ps_if (w_notT (pt_not (w_val (pt_val (w_callDT c_law_refused hr (by decide) hgu rfl (pv 1) (w_cons (w_v (pv 6)) w_nil))))))
     (w_one (w_ret (ps_ret (w_bl pe_bl))))
     (w_snil pss_nil)))))))))))))))))))
  (w_one (w_ret (ps_ret (w_bl pe_bl)))))), ?_⟩
    refine ⟨.ref a, rfl, a, ns, rfl, same_sql sG hs, hl, fun d l c H' nd nl nc sH D => ?_⟩
    have r0 := rep_law (a := a) (ns := ns) LS (sG.trans sH) hs (sG.free nd) (sG.free nl) D (fun p hp => (hTb p hp).go (Same.refl G) fun o e => sH _ _ e) hG
    suffices hS : Ps.f _ [some (.dat (.obj 5 (ns.map Da.int))), some (.drw d l c), none, none, none, none, none, none, none, none, none, none, none, none, none, none, some (.tab TT)] (fun _ => False) (fun z _ => z = Da.bl true) (fun _ => False) (fun _ => False) by
      refine ⟨_, G, _, r0, Ps.mono _ (fun _ z => z.elim) ?_ (fun _ z => z.elim) (fun _ z => z.elim) hS⟩
      intro z ρ' e v σ' G' H2 r' _ dv
      subst e
      cases dv
      exact hq H2
    have mD : ∀ (x0 : Option Sl) (ρ : En), some (Sl.drw d l c) ∈ x0 :: some (Sl.drw d l c) :: ρ := fun _ _ => List.mem_cons_of_mem _ List.mem_cons_self
    have mT : ∀ x0 x1 x2 x3 x4 x5 x6 x7 x8 x9 x10 x11 x12 x13 x14 x15 : Option Sl, some (Sl.tab TT) ∈ [x0, x1, x2, x3, x4, x5, x6, x7, x8, x9, x10, x11, x12, x13, x14, x15, some (.tab TT)] := fun x0 x1 x2 x3 x4 x5 x6 x7 x8 x9 x10 x11 x12 x13 x14 x15 => List.mem_of_getElem? (i := 16) rfl
    have hmin : (0 : Int) ≤ (if (3 : Int) < ((ns.map Da.int).length : Int) then 3 else ((ns.map Da.int).length : Int)) ∧ (if (3 : Int) < ((ns.map Da.int).length : Int) then (3 : Int) else ((ns.map Da.int).length : Int)) ≤ 3 := by
      split <;> omega
    refine ⟨_, rfl, _, rfl, _, _, rfl, 1, _, rfl, rfl, trivial, _, rfl, by omega, by omega, ?_⟩
    refine loopF_inv (fun j ρ => ∃ x2 x3 x4 x5 x6 x7 x9 x10 x13 x14 x15 : Option Sl, ρ = [some (.dat (.obj 5 (ns.map Da.int))), some (.drw d l c), x2, x3, x4, x5, x6, x7, none, x9, x10, none, none, x13, x14, x15, some (.tab TT)]) ⟨_, _, _, _, _, _, _, _, _, _, _, rfl⟩ ?_ ?_
    · rintro j x ρ hj ⟨x2, x3, x4, x5, x6, x7, x9, x10, x13, x14, x15, rfl⟩
      refine ⟨d, l, c, rfl, mD _ _, mT _ _ _ _ _ _ _ _ _ _ _ _ _ _ _ _, 7, rfl, by decide, fun n m bs hn S => ?_⟩
      change Ps.f _ [some (.dat (.obj 5 (ns.map Da.int))), some (.drw d l c), some (.dat x), some (.dat (skD n bs)), x4, x5, x6, x7, none, x9, x10, none, none, x13, x14, x15, some (.tab TT)] _ _ _ _
      refine ⟨_, rfl, _, rfl, rfl, _, _, rfl, _, _, rfl, rfl, ?_⟩
      change Ps.f _ [some (.dat (.obj 5 (ns.map Da.int))), some (.drw d l c), some (.dat x), some (.dat (skD n bs)), some (.dat (.int (n : Int))), some (.dat (lti bs)), x6, x7, none, x9, x10, none, none, x13, x14, x15, some (.tab TT)] _ _ _ _
      refine ⟨d, l, c, rfl, _, rfl, mD _ _, n, m, bs, rfl, S, ?_⟩
      change Ps.f _ [some (.dat (.obj 5 (ns.map Da.int))), some (.drw d l c), some (.dat x), some (.dat (skD n bs)), some (.dat (.int (n : Int))), some (.dat (lti bs)), some (.dat (bkD n bs m)), x7, none, x9, x10, none, none, x13, x14, x15, some (.tab TT)] _ _ _ _
      have hn8 := S.n8
      have hbl : bs.length ≤ 1000 := Nat.le_trans (sk_len S) (by decide)
      have hm8 : m ≤ 8 := Nat.le_trans S.le hn8
      have K := S.bases
      -- free_here
      refine ⟨_, rfl, (n : Int), rfl, by omega, by omega, n, ?_, hn8, fun ts hts => ⟨_, rfl, ?_⟩⟩
      · show [Da.lst (rgD 0 n)] = _
        rw [rgD_I]
      have tsl : ts.length ≤ 1000 := by
        have e : ts.length ≤ (lotsTo n (n + 1)).length := by
          have key : ∀ {a b : List (List Int)}, a.Nodup → (∀ x ∈ a, x ∈ b) → a.length ≤ b.length := by
            intro a
            induction a with
            | nil => intro b _ _; exact Nat.zero_le _
            | cons x r ih =>
              intro b h1 h2
              obtain ⟨n1, n2⟩ := List.nodup_cons.mp h1
              have hx := h2 x List.mem_cons_self
              have := ih (b := b.erase x) n2 fun y hy => (List.mem_erase_of_ne (fun z => n1 (by rw [← z]; exact hy))).mpr (h2 y (List.mem_cons_of_mem _ hy))
              have l := List.length_erase_of_mem hx
              have := List.length_pos_of_mem hx
              rw [List.length_cons]
              omega
          exact key (lexS_nd hts.1) fun t ht => mem_to.mpr ⟨(hts.2 t).mp ht, by have := lot_le ((hts.2 t).mp ht); omega⟩
        have := to_len hn8 (n + 1)
        omega
      refine lcP_src ti (fun t => decide (rankL bs t = t.length)) ti (fun t ht => ?_) (by simp only [List.length_nil, Nat.zero_add]; exact Nat.le_trans tsl (by decide)) ?_
      · have hlt := lot_le ((hts.2 t).mp ht)
        refine ⟨_, rfl, _, rfl, bs, t, rfl, S.ne, hbl, by omega, _, rfl, _, .inr rfl, .int (rankL bs t : Nat), .int (t.length : Nat), rfl, ?_, rfl, rfl, _, rfl, eqv_nat _ _, fun _ => ⟨_, rfl, rfl, rfl⟩, fun _ => rfl⟩
        rw [List.length_map]
        rfl
      rw [List.nil_append]
      generalize hfh : (ts.filter fun t => decide (rankL bs t = t.length)) = fh
      have fok : FreeOk n bs fh := by
        rw [← hfh]
        refine ⟨hts.1.filter _, fun t => ?_⟩
        rw [List.mem_filter, hts.2 t, decide_eq_true_eq]
      have fuq : ∀ ts2, FreeOk n bs ts2 → ts2 = fh := fun ts2 h2 => lexS_ext h2.1 fok.1 fun t => (h2.2 t).trans (fok.2 t).symm
      have fsm : smallL fh := ⟨by rw [← hfh]; exact Nat.le_trans (List.length_filter_le _ _) tsl, fun t ht => lot_small hn8 ((fok.2 t).mp ht).1⟩
      have pyf : py (lti fh) = some (.list (fh.map pti)) := py_lti fh
      change Ps.f _ [some (.dat (.obj 5 (ns.map Da.int))), some (.drw d l c), some (.dat x), some (.dat (skD n bs)), some (.dat (.int (n : Int))), some (.dat (lti bs)), some (.dat (bkD n bs m)), some (.dat (lti fh)), none, x9, x10, none, none, x13, x14, x15, some (.tab TT)] _ _ _ _
      refine ⟨_, rfl, _, rfl, .inr ⟨n, m, bs, rfl, S, fun ts2 h2 => ?_⟩⟩
      obtain rfl := fuq ts2 h2
      intro p hp
      change Ps.f _ [some (.dat (.obj 5 (ns.map Da.int))), some (.drw d l c), some (.dat x), some (.dat (skD n bs)), some (.dat (.int (n : Int))), some (.dat (lti bs)), some (.dat (bkD n bs m)), some (.dat (lti ts2)), none, some (.gro p (ts2.map ti)), x10, none, none, x13, x14, x15, some (.tab TT)] _ _ _ _
      refine ⟨p, ts2, rfl, fsm, _, rfl, ts2, rfl, fsm, _, _, rfl, rfl, _, rfl, bite (fun h => by simp at h) fun _ => ?_⟩
      refine ⟨_, rfl, _, rfl, .inr ⟨n, m, bs, rfl, S, fun ts3 h3 => ?_⟩⟩
      obtain rfl := fuq ts3 h3
      refine ⟨_, rfl, _, _, pyf, pyf, shaped_lti _, shaped_lti _, _, rfl, bite (fun h => by rw [eqv_lti] at h; simp at h) fun _ => ?_⟩
      change Ps.f _ [some (.dat (.obj 5 (ns.map Da.int))), some (.drw d l c), some (.dat x), some (.dat (skD n bs)), some (.dat (.int (n : Int))), some (.dat (lti bs)), some (.dat (bkD n bs m)), some (.dat (lti ts3)), none, some (.gro p (ts3.map ti)), x10, none, none, x13, x14, x15, some (.tab TT)] _ _ _ _
      refine ⟨p, _, rfl, ?_⟩
      change Ps.f _ [some (.dat (.obj 5 (ns.map Da.int))), some (.drw d l c), some (.dat x), some (.dat (skD n bs)), some (.dat (.int (n : Int))), some (.dat (lti bs)), some (.dat (bkD n bs m)), some (.dat (lti ts3)), none, some (.gro p []), x10, none, none, x13, x14, x15, some (.tab TT)] _ _ _ _
      refine ⟨_, rfl, _, rfl, .inr ⟨n, m, bs, rfl, S, fun ts4 h4 => ?_⟩⟩
      obtain rfl := fuq ts4 h4
      refine ⟨_, .inl rfl, _, rfl, _, .inl rfl, _, _, rfl, rfl, rfl, rfl, _, rfl, bite (fun h => by rw [eqv_nat] at h; simp at h) fun _ => ?_⟩
      change Ps.f _ [some (.dat (.obj 5 (ns.map Da.int))), some (.drw d l c), some (.dat x), some (.dat (skD n bs)), some (.dat (.int (n : Int))), some (.dat (lti bs)), some (.dat (bkD n bs m)), some (.dat (lti ts4)), none, some (.gro p []), x10, none, none, x13, x14, x15, some (.tab TT)] _ _ _ _
      have hrg : ∀ k : List Da → En → Prop, True := fun _ => trivial
      refine ⟨_, rfl, (n : Int), rfl, by omega, by omega, ?_⟩
      rw [rgD0]
      refine lcP_src (fun i : Nat => Da.int (i : Int)) (fun i => decide (usesN bs i = 0)) (fun i => Da.int (i : Int)) (fun i hi => ?_) (by simp only [List.length_nil, Nat.zero_add, List.length_range]; exact Nat.le_trans (by omega : (n : Int).toNat ≤ 8) (by decide)) ?_
      · refine ⟨_, rfl, (by decide : 1 ≤ sizeLine), _, rfl, pti [(i : Int)], _, py_ti [(i : Int)], pyf, shaped_ti _, shaped_lti _, _, rfl, ?_, fun _ => ⟨_, rfl, rfl, rfl⟩, fun _ => rfl⟩
        rw [if_pos rfl, any_ti]
        have := idle_due S.ne fok.2 i (by have := List.mem_range.mp hi; omega)
        by_cases q : usesN bs i = 0
        · rw [decide_eq_true q, decide_eq_false (this.mpr q)]
          rfl
        · rw [decide_eq_false q, decide_eq_true (Classical.byContradiction fun z => q (this.mp z))]
          rfl
      have eid : ([] ++ ((List.range (n : Int).toNat).filter fun i : Nat => decide (usesN bs i = 0)).map fun i : Nat => Da.int (i : Int)) = (idleL n bs).map Da.int := by
        rw [List.nil_append, idleL, List.map_map]
        rfl
      rw [eid]
      have hidle : LotOk n (idleL n bs) := law_lot (List.filter_sublist)
      refine ⟨_, .inl rfl, ?_⟩
      change Ps.f _ [some (.dat (.obj 5 (ns.map Da.int))), some (.drw d l c), some (.dat x), some (.dat (skD n bs)), some (.dat (.int (n : Int))), some (.dat (lti bs)), some (.dat (bkD n bs m)), some (.dat (lti ts4)), none, some (.gro p []), some (.dat (ti (idleL n bs))), none, none, x13, x14, x15, some (.tab TT)] _ _ _ _
      refine ⟨_, rfl, _, rfl, .inr ⟨n, m, bs, rfl, S, ?_⟩⟩
      refine ⟨idleL n bs, rfl, lot_small hn8 hidle, _, rfl, idleL n bs, rfl, lot_small hn8 hidle, _, _, rfl, rfl, _, rfl, bite (fun h => by simp at h) fun _ => ?_⟩
      refine ⟨_, rfl, _, rfl, .inr ⟨n, m, bs, rfl, S, ?_⟩⟩
      refine ⟨_, rfl, _, _, py_ti _, py_ti _, shaped_ti _, shaped_ti _, _, rfl, bite (fun h => by rw [eqv_ti] at h; simp at h) fun _ => ?_⟩
      change Ps.f _ [some (.dat (.obj 5 (ns.map Da.int))), some (.drw d l c), some (.dat x), some (.dat (skD n bs)), some (.dat (.int (n : Int))), some (.dat (lti bs)), some (.dat (bkD n bs m)), some (.dat (lti ts4)), none, some (.gro p []), some (.dat (ti (idleL n bs))), none, none, x13, x14, x15, some (.tab TT)] _ _ _ _
      refine ⟨_, rfl, (n : Int), rfl, by omega, by omega, ?_⟩
      rw [rgD0]
      refine lcP_src (fun i : Nat => Da.int (i : Int)) (fun i => decide (usesN bs i = bs.length)) (fun i => Da.int (i : Int)) (fun i hi => ?_) (by simp only [List.length_nil, Nat.zero_add, List.length_range]; exact Nat.le_trans (by omega : (n : Int).toNat ≤ 8) (by decide)) ?_
      · refine ⟨_, rfl, _, rfl, lcP_src ti (fun b => decide ((i : Int) ∉ b)) (fun _ => Da.int 1) (fun b _ => ?_) (by simp only [List.length_nil, Nat.zero_add]; exact Nat.le_trans hbl (by decide)) ?_⟩
        · refine ⟨_, rfl, _, rfl, (i : Int), b, rfl, .inr rfl, _, rfl, ?_, fun _ => ⟨rfl, rfl⟩, fun _ => rfl⟩
          by_cases hc : (i : Int) ∈ b <;> simp [hc]
        · have e1 : ([] ++ (bs.filter fun b => decide ((i : Int) ∉ b)).map fun _ => Da.int 1) = ((bs.filter fun b => decide ((i : Int) ∉ b)).map fun _ => (1 : Int)).map Da.int := by
            rw [List.nil_append, List.map_map]
            rfl
          rw [e1]
          refine ⟨by decide, _, _, py_li _, rfl, shaped_ints _, shaped_ints [], _, rfl, ?_, fun _ => ⟨_, rfl, rfl, rfl⟩, fun _ => rfl⟩
          rw [eqv_listN]
          have := uses_all (bs := bs) (i := (i : Int))
          by_cases q : usesN bs i = bs.length
          · rw [decide_eq_true q, this.mp q]
            rfl
          · rw [decide_eq_false q]
            cases z : (bs.filter fun b => decide ((i : Int) ∉ b)) with
            | nil => exact absurd (this.mpr z) q
            | cons u r => rfl
      have esu : ([] ++ ((List.range (n : Int).toNat).filter fun i : Nat => decide (usesN bs i = bs.length)).map fun i : Nat => Da.int (i : Int)) = (sureL n bs).map Da.int := by
        rw [List.nil_append, sureL, List.map_map]
        rfl
      rw [esu]
      have hsure : LotOk n (sureL n bs) := law_lot (List.filter_sublist)
      refine ⟨_, .inl rfl, ?_⟩
      change Ps.f _ [some (.dat (.obj 5 (ns.map Da.int))), some (.drw d l c), some (.dat x), some (.dat (skD n bs)), some (.dat (.int (n : Int))), some (.dat (lti bs)), some (.dat (bkD n bs m)), some (.dat (lti ts4)), none, some (.gro p []), some (.dat (ti (sureL n bs))), none, none, x13, x14, x15, some (.tab TT)] _ _ _ _
      refine ⟨_, rfl, _, rfl, .inr ⟨n, m, bs, rfl, S, ?_⟩⟩
      refine ⟨sureL n bs, rfl, lot_small hn8 hsure, _, rfl, sureL n bs, rfl, lot_small hn8 hsure, _, _, rfl, rfl, _, rfl, bite (fun h => by simp at h) fun _ => ?_⟩
      refine ⟨_, rfl, _, rfl, .inr ⟨n, m, bs, rfl, S, ?_⟩⟩
      refine ⟨_, rfl, _, _, py_ti _, py_ti _, shaped_ti _, shaped_ti _, _, rfl, bite (fun h => by rw [eqv_ti] at h; simp at h) fun _ => ?_⟩
      change Ps.f _ [some (.dat (.obj 5 (ns.map Da.int))), some (.drw d l c), some (.dat x), some (.dat (skD n bs)), some (.dat (.int (n : Int))), some (.dat (lti bs)), some (.dat (bkD n bs m)), some (.dat (lti ts4)), none, some (.gro p []), some (.dat (ti (sureL n bs))), none, none, x13, x14, x15, some (.tab TT)] _ _ _ _
      refine ⟨6, rfl, by decide, by decide, ?_⟩
      refine loopF_inv (fun j ρ => ∃ x10 x13 x14 x15 : Option Sl, ρ = [some (.dat (.obj 5 (ns.map Da.int))), some (.drw d l c), some (.dat x), some (.dat (skD n bs)), some (.dat (.int (n : Int))), some (.dat (lti bs)), some (.dat (bkD n bs m)), some (.dat (lti ts4)), none, some (.gro p []), x10, none, none, x13, x14, x15, some (.tab TT)]) ⟨_, _, _, _, rfl⟩ ?_ ?_
      · rintro i y ρ hi ⟨x10, x13, x14, x15, rfl⟩
        refine ⟨_, rfl, (n : Int), rfl, by omega, by omega, ?_⟩
        rw [rgD0]
        refine lcP_subA (fun i : Nat => Da.int (i : Int)) (fun i : Nat => Da.int (i : Int)) (fun i hi => ?_) (by simp only [List.length_nil, Nat.zero_add, List.length_range]; exact Nat.le_trans (by omega : (n : Int).toNat ≤ 8) (by decide)) (fun la hla => ?_)
        · refine ⟨d, l, c, rfl, mD _ _, (2 : Int), rfl, by decide, by decide +kernel, fun r r0 r1 => ?_⟩
          refine ⟨.int r, .int 0, rfl, rfl, rfl, rfl, _, rfl, ?_⟩
          cases PyData.eqv (.int r) (.int 0) with
          | true => exact ⟨_, rfl, rfl, rfl⟩
          | false => rfl
        rw [List.nil_append]
        have hla : LotOk n (la.map fun i : Nat => (i : Int)) := law_lot (by simpa using hla)
        have ela : la.map (fun i : Nat => Da.int (i : Int)) = (la.map fun i : Nat => (i : Int)).map Da.int := by
          rw [List.map_map]
          rfl
        rw [ela]
        generalize (la.map fun i : Nat => (i : Int)) = one at *
        refine ⟨_, .inl rfl, ?_⟩
        change Ps.f _ [some (.dat (.obj 5 (ns.map Da.int))), some (.drw d l c), some (.dat x), some (.dat (skD n bs)), some (.dat (.int (n : Int))), some (.dat (lti bs)), some (.dat (bkD n bs m)), some (.dat (lti ts4)), none, some (.gro p []), x10, none, none, some (.dat y), some (.dat (ti one)), x15, some (.tab TT)] _ _ _ _
        refine ⟨_, rfl, (n : Int), rfl, by omega, by omega, ?_⟩
        rw [rgD0]
        refine lcP_subA (fun i : Nat => Da.int (i : Int)) (fun i : Nat => Da.int (i : Int)) (fun i hi => ?_) (by simp only [List.length_nil, Nat.zero_add, List.length_range]; exact Nat.le_trans (by omega : (n : Int).toNat ≤ 8) (by decide)) (fun lb hlb => ?_)
        · refine ⟨d, l, c, rfl, mD _ _, (3 : Int), rfl, by decide, by decide +kernel, fun r r0 r1 => ?_⟩
          refine ⟨.int r, .int 0, rfl, rfl, rfl, rfl, _, rfl, ?_⟩
          cases PyData.eqv (.int r) (.int 0) with
          | true => exact ⟨_, rfl, rfl, rfl⟩
          | false => rfl
        rw [List.nil_append]
        have hlb : LotOk n (lb.map fun i : Nat => (i : Int)) := law_lot (by simpa using hlb)
        have elb : lb.map (fun i : Nat => Da.int (i : Int)) = (lb.map fun i : Nat => (i : Int)).map Da.int := by
          rw [List.map_map]
          rfl
        rw [elb]
        generalize (lb.map fun i : Nat => (i : Int)) = other at *
        refine ⟨_, .inl rfl, ?_⟩
        change Ps.f _ [some (.dat (.obj 5 (ns.map Da.int))), some (.drw d l c), some (.dat x), some (.dat (skD n bs)), some (.dat (.int (n : Int))), some (.dat (lti bs)), some (.dat (bkD n bs m)), some (.dat (lti ts4)), none, some (.gro p []), x10, none, none, some (.dat y), some (.dat (ti one)), some (.dat (ti other)), some (.tab TT)] _ _ _ _
        have lo : one.length ≤ 8 := Nat.le_trans (lot_le hla) hn8
        have lt : other.length ≤ 8 := Nat.le_trans (lot_le hlb) hn8
        refine ⟨_, rfl, _, rfl, _, _, rfl, lots_ti hla ⟨S, ?_⟩⟩
        refine ⟨_, rfl, log2_8 (Nat.le_trans (rank_le' S.ne one) lo), _, rfl, _, rfl, bs, one, rfl, S.ne, hbl, by omega, _, rfl, log2_8 (Nat.le_trans (rank_le' S.ne one) lo), _, _, rfl, rfl, _, rfl, bite (fun h => by simp at h) fun _ => ?_⟩
        refine ⟨_, rfl, _, rfl, _, _, rfl, lots_ti hlb ⟨S, ?_⟩⟩
        refine ⟨_, rfl, _, rfl, bs, other, rfl, S.ne, hbl, by omega, .int _, .int _, rfl, rfl, rfl, rfl, _, rfl, bite (fun h => by rw [eqv_nat] at h; simp at h) fun _ => ?_⟩
        refine ⟨_, rfl, _, rfl, _, _, rfl, lots_ti hla ⟨S, ?_⟩⟩
        refine ⟨_, rfl, _, rfl, _, _, rfl, lots_ti hlb ⟨S, ?_⟩⟩
        refine ⟨_, _, rfl, rfl, trivial, ?_⟩
        refine ⟨_, rfl, _, rfl, _, rfl, one, other, rfl, by omega, _, _, rfl, lots_ti (with_lot hla hlb) ⟨S, ?_⟩⟩
        refine ⟨_, rfl, _, rfl, _, rfl, one, other, rfl, by omega, _, _, rfl, lots_ti (shared_lot hla) ⟨S, ?_⟩⟩
        refine ⟨_, _, rfl, rfl, trivial, _, _, rfl, rfl, trivial, _, rfl, bite (fun h => ?_) fun _ => ?_⟩
        · have := rank_submod K hla.1 hlb.1
          exact absurd (of_decide_eq_true h) (by omega)
        refine ⟨_, rfl, _, rfl, n, bs, one, rfl, hn8, S.ne, hbl, by omega, ?_⟩
        change Ps.f _ [some (.dat (.obj 5 (ns.map Da.int))), some (.drw d l c), some (.dat x), some (.dat (skD n bs)), some (.dat (.int (n : Int))), some (.dat (lti bs)), some (.dat (bkD n bs m)), some (.dat (lti ts4)), none, some (.gro p []), some (.dat (ti (closL n bs one))), none, none, some (.dat y), some (.dat (ti one)), some (.dat (ti other)), some (.tab TT)] _ _ _ _
        have hc : LotOk n (closL n bs one) := clos_ok
        refine ⟨_, rfl, _, rfl, _, _, rfl, lots_ti hla ⟨S, ?_⟩⟩
        refine ⟨closL n bs one, rfl, lot_small hn8 hc, _, rfl, closL n bs one, rfl, lot_small hn8 hc, _, _, rfl, rfl, _, rfl, bite (fun h => by simp at h) fun _ => ?_⟩
        refine ⟨_, rfl, _, rfl, _, _, rfl, lots_ti hc ⟨S, ?_⟩⟩
        refine ⟨_, rfl, _, _, py_ti _, py_ti _, shaped_ti _, shaped_ti _, _, rfl, bite (fun h => by rw [clos_clos K hla, eqv_ti] at h; simp at h) fun _ => ?_⟩
        exact ⟨_, _, _, _, rfl⟩
      · rintro ρ ⟨x10, x13, x14, x15, rfl⟩
        change Ps.f _ [some (.dat (.obj 5 (ns.map Da.int))), some (.drw d l c), some (.dat x), some (.dat (skD n bs)), some (.dat (.int (n : Int))), some (.dat (lti bs)), some (.dat (bkD n bs m)), some (.dat (lti ts4)), none, some (.gro p []), x10, none, none, x13, x14, x15, some (.tab TT)] _ _ _ _
        refine ⟨d, l, c, rfl, _, rfl, mD _ _, mT _ _ _ _ _ _ _ _ _ _ _ _ _ _ _ _, n, m, bs, rfl, S, _, rfl, bite (fun h => by simp at h) fun _ => ⟨_, _, _, _, _, _, _, _, _, _, _, rfl⟩⟩
    · rintro ρ ⟨x2, x3, x4, x5, x6, x7, x9, x10, x13, x14, x15, rfl⟩
      rfl
end
end Fv
namespace Fw
open PySem PySem.Spec PyProof.Rows L2 Fr
/-- the end of a law's row, from the promise of its def where no guard stands around, and some defs have lambdas -/
theorem law_endT {P : Program} {w : World} {K : Frag} {mg mb : Str → Option Value} {k : Nat} {fa a : Addr} {cs : List (Addr × Addr)} {fd : FuncData} {x : Str} {sp : Sp} {s₁ : Shared} {vs : List Value} {ns : List Int}
    (KX : K.In s₁.heap) (hns : s₁.heap.Ns mainGlobals mg) (hb : s₁.heap.Ns builtinsNs mb) (hbb : ∀ x : Str, x ≠ "__name__" → mb x = bootBuiltins x)
    (hlim : s₁.heap.NoLimit) (hg : s₁.gens = #[])
    (ct : ∀ p ∈ cs, s₁.heap.get? p.2 = some { cls := .none, data := .fields #[] }) (ck : ∀ p ∈ cs, K.lookup p.2 = none)
    (ch : ∀ p ∈ cs, PySem.W.CodeHd s₁.heap p.1 p.2)
    (hbm : ∃ bm ob, mg "__builtins__" = some (.ref bm) ∧ bm ≠ builtinsNs ∧ s₁.heap.get? bm = some ob ∧ ob.cls = .type "module" ∧ ob.dict = some builtinsNs ∧ ob.data = .plain)
    (ha : s₁.heap.get? a = some { cls := .type "list", data := .seq vs.toArray }) (hi : IntsAre vs ns) (hl : ns.length ≤ sizeLine) (hr : Room k callerA)
    (F : ∀ base : Heap, K.In base → base.Ns mainGlobals mg → (∀ p ∈ cs, LamX.TabB base mg p.1 p.2) → FnG P w K mg base C8.CX0 k fa fd [x] sp)
    (hbind : ∀ (s : Shared) (u : Value), BindsTo s fd ⟨[u], []⟩ [(x, u)])
    (hsp : ∀ H : Hp, (∀ p ∈ cs, H p.2 = some (.tbl #[])) → SqL K H a (ns.map V.int) →
      (∀ b, H b = none ∨ (∃ ob xs, H b = some (.frz ob (.lst xs))) ∨ ((∃ p ∈ cs, p.2 = b) ∧ H b = some (.tbl #[]))) →
      sp [.ref a] H (fun v _ => v = .bl true) fun _ _ _ => False) :
    codeAny (model P w) callerA (.call (.ref fa) ⟨[.ref a], []⟩)
      (fun r s' => r = .ok (.ret (.bool true)) ∧ OldK s₁.heap s'.heap ∧ s'.os = s₁.os ∧ AllBare s'.gens) s₁ := by
  have rv := vals_ints hi
  have lenV := hi.length
  have core : ∀ H : Hp, (∀ p ∈ cs, H p.2 = some (.tbl #[])) → SqL K H a (ns.map V.int) →
      (∀ b, H b = none ∨ (∃ ob xs, H b = some (.frz ob (.lst xs))) ∨ ((∃ p ∈ cs, p.2 = b) ∧ H b = some (.tbl #[]))) →
      HOk P w H s₁.heap → (∀ b, H b ≠ none → b = a ∨ ∃ p ∈ cs, p.2 = b) → (H a ≠ none → K.lookup a = none) →
      codeAny (model P w) callerA (.call (.ref fa) ⟨[.ref a], []⟩)
        (fun r s' => r = .ok (.ret (.bool true)) ∧ OldK s₁.heap s'.heap ∧ s'.os = s₁.os ∧ AllBare s'.gens) s₁ := by
    intro H hT hS hO hok hA hK
    have off : ∀ {b : Addr} {o : Obj}, s₁.heap.get? b = some o → (∀ z y, o.data ≠ .seq z y) → o.data ≠ .fields #[] → H b = none := by
      intro b o e n1 n2
      cases q : H b with
      | none => rfl
      | some u =>
        rcases hA b (by simp [q]) with rfl | ⟨p, hp, rfl⟩
        · rw [ha] at e
          cases e
          exact absurd rfl (n1 _ _)
        · rw [ct p hp] at e
          cases e
          exact absurd rfl n2
    have noA : ∀ {b : Addr} {o : Obj} {es : Array DictEntry} {ep : Nat}, s₁.heap.get? b = some o → o.data = .dict es ep → H b = none := fun e d =>
      off e (fun z y h => by rw [d] at h; cases h) fun h => by rw [d] at h; cases h
    have nsK : ∀ {b : Addr} {m : Str → Option Value}, s₁.heap.Ns b m → (hidT s₁.heap H).Ns b m := by
      rintro b m ⟨o, es, ep, e, d, r⟩
      exact ⟨o, es, ep, hidT_get e (noA e d), d, r⟩
    have hKb : K.In (hidT s₁.heap H) := by
      intro b o e
      refine hidT_get (KX b o e) ?_
      cases q : H b with
      | none => rfl
      | some u =>
        rcases hA b (by simp [q]) with rfl | ⟨p, hp, rfl⟩
        · rw [hK (by simp [q])] at e
          cases e
        · rw [ck p hp] at e
          cases e
    obtain ⟨mc, h1, h2⟩ := hlim
    have hM : Mod K mg (hidT s₁.heap H) := ⟨hKb, nsK hns, ⟨mb, nsK hb, hbb⟩, ⟨mc, nsK h1, h2⟩⟩
    have hTB : ∀ p ∈ cs, LamX.TabB (hidT s₁.heap H) mg p.1 p.2 := by
      intro p hp
      refine ⟨?_, ?_, ?_⟩
      · obtain ⟨o, us, file, tf, flags, tg, inF, text, tt, e, c1, d, v11, r⟩ := ch p hp
        refine ⟨o, us, file, tf, flags, tg, inF, text, tt, hidT_get e (off e (fun z y h => by rw [d] at h; cases h) fun h => ?_), c1, d, v11, r⟩
        rw [d] at h
        cases h
        simp at v11
      · obtain ⟨bm, ob, m1, m2, m3, m4, m5, m6⟩ := hbm
        refine ⟨bm, ob, m1, m2, ?_, ?_, hidT_get m3 (off m3 (fun z y h => by rw [m6] at h; cases h) fun h => by rw [m6] at h; cases h), m4, m5, m6⟩
        · rintro rfl
          obtain ⟨o, es, ep, e, d, r⟩ := hns
          rw [e] at m3
          cases m3
          rw [d] at m6
          cases m6
        · rintro rfl
          rw [ct p hp] at m3
          cases m3
          cases m6
      · rintro z
        obtain ⟨o, es, ep, e, d, r⟩ := hns
        rw [z, ct p hp] at e
        cases e
        cases d
    have e0 : Env0 P w K mg (hidT s₁.heap H) callerA [] s₁ H := by
      refine ⟨rfl, hM, fun b o e => of_hidT e, Nat.le_of_eq (hidT_size _ _), trivial, ?_, hok, .of_eq hg⟩
      intro b hb
      cases (show b ∈ ([] : List Addr) from hb)
    have z := (F _ hKb (nsK hns) hTB).run callerA [] s₁ H ⟨[.ref a], []⟩ [.ref a] [.ref a] _ _ hr rfl e0 (hbind s₁ (.ref a)) (.cons rfl .nil) (hsp H hT hS hO)
    refine codeAny_mono z ?_
    rintro (e | fl) s' h
    · exact (show False from h).elim
    · cases fl with
      | next => exact (show False from h).elim
      | brk => exact (show False from h).elim
      | cont => exact (show False from h).elim
      | ret u =>
        obtain ⟨v, H', os, bare, un, hok', r', q⟩ := h
        obtain rfl : v = .bl true := q
        obtain rfl : u = Value.bool true := r'
        refine ⟨rfl, ⟨?_, fun b o e => un.there b o e (by simp)⟩, os, bare⟩
        intro b o e
        rcases hO b with z | ⟨ob, xs, z⟩ | ⟨⟨p, hp, rfl⟩, z⟩
        · refine .inl (un.keep b o e z ?_ (by simp))
          intro z
          cases (show b ∈ ([] : List Addr) from z)
        · obtain ⟨e1, _⟩ := hok b _ z
          obtain ⟨e2, _⟩ := hok' b _ (un.frzs b ob _ z)
          rw [e] at e1
          cases e1
          exact .inl e2
        · obtain ⟨more, z'⟩ := un.tbls _ _ z
          have e2 := hok' _ _ z'
          simp only [ObjOk] at e2
          rw [ct p hp] at e
          cases e
          obtain ⟨o, us, file, tf, flags, tg, inF, text, tt, e, c1, d, v11, r⟩ := ch p hp
          exact .inr (.inl ⟨⟨p.1, o, us, e, c1, d, v11⟩, rfl, #[], more, rfl, e2⟩)
  have tabN : ∀ p ∈ cs, p.2 ≠ a := by
    rintro p hp rfl
    rw [ct p hp] at ha
    cases ha
  obtain ⟨Ht, t_at, t_off⟩ : ∃ Ht : Hp, (∀ p ∈ cs, Ht p.2 = some (.tbl #[])) ∧ ∀ b, Ht b = none ∨ ((∃ p ∈ cs, p.2 = b) ∧ Ht b = some (.tbl #[])) := by
    refine ⟨fun b => if (cs.any fun p => p.2 == b) = true then some (.tbl #[]) else none, fun p hp => if_pos (List.any_eq_true.mpr ⟨p, hp, by simp⟩), fun b => ?_⟩
    by_cases h : (cs.any fun p => p.2 == b) = true
    · refine .inr ⟨?_, if_pos h⟩
      obtain ⟨p, hp, e⟩ := List.any_eq_true.mp h
      exact ⟨p, hp, by simpa using e⟩
    · exact .inl (if_neg h)
  have hta : Ht a = none := by
    rcases t_off a with z | ⟨⟨p, hp, e⟩, _⟩
    · exact z
    · exact absurd e (tabN p hp)
  cases hk : K.lookup a with
  | some o =>
    have e := KX a o hk
    rw [ha] at e
    cases e
    refine core Ht t_at (.inr ?_) (fun b => (t_off b).imp id .inr) ?_ (fun b z => ?_) fun z => absurd hta z
    · refine ⟨_, vs.toArray, _, hk, rfl, rfl, rfl, ?_, by simpa using rv⟩
      rw [List.size_toArray, lenV]
      exact hl
    · intro b u z
      rcases t_off b with q | ⟨⟨p, hp, rfl⟩, q⟩
      · rw [q] at z
        cases z
      · rw [q] at z
        cases z
        exact ct p hp
    · rcases t_off b with q | ⟨h, _⟩
      · exact absurd q z
      · exact .inr h
  | none =>
    obtain ⟨Hs, at_, off⟩ : ∃ Hs : Hp, (∀ b, b = a → Hs b = some (.frz { cls := .type "list", data := .seq vs.toArray } (.lst (ns.map V.int)))) ∧ ∀ b, b ≠ a → Hs b = Ht b :=
      ⟨fun b => if b = a then some (.frz { cls := .type "list", data := .seq vs.toArray } (.lst (ns.map V.int))) else Ht b, fun b hb => if_pos hb, fun b hb => if_neg hb⟩
    refine core Hs (fun p hp => (off _ (tabN p hp)).trans (t_at p hp)) (.inl (.inr ⟨_, at_ a rfl⟩)) (fun b => ?_) (fun b u z => ?_) (fun b z => ?_) fun _ => hk
    · by_cases hb : b = a
      · exact .inr (.inl ⟨_, _, at_ b hb⟩)
      · rw [off b hb]
        exact (t_off b).imp id .inr
    · by_cases hb : b = a
      · have z' := (at_ b hb).symm.trans z
        cases z'
        subst hb
        refine ⟨ha, ?_, vs, _, rv, ha⟩
        rw [List.length_map]
        exact hl
      · rw [off b hb] at z
        rcases t_off b with q | ⟨⟨p, hp, rfl⟩, q⟩
        · rw [q] at z
          cases z
        · rw [q] at z
          cases z
          exact ct p hp
    · by_cases hb : b = a
      · exact .inl hb
      · rw [off b hb] at z
        rcases t_off b with q | ⟨h, _⟩
        · exact absurd q z
        · exact .inr h
theorem walkT {l : PySem.W.OpenLaw} {n k : Nat} {q : Program} {loose : List Str} {XP : (Str → Option Value) → Heap → Prop} {YP : World → Heap → Prop} {d : DefRec} {K : Params → Frag} {x : Str} {xs : List Str}
    (hn : l.most = some n) (hn2 : n ≤ sizeLine) (hdf : d.params.defaults = []) (hr : Room k callerA) (hY : ∀ (w : World) (h : Heap), YP w h → (K w.params).In h)
    (hxs : (xs.all fun x => ((recsOf q).find? fun e => e.name == x).isSome) = true)
    (F : ∀ (w : World) (mg : Str → Option Value) (fa : Addr) (h : Heap), (K w.params).In h → h.Ns mainGlobals mg → mg d.name = some (.ref fa) →
      ∃ (cs : List (Addr × Addr)) (fd : FuncData) (sp : Sp), (∀ p ∈ cs, (∃ x ∈ xs, PySem.W.tabIn (K w.params) x = some p) ∧ (K w.params).lookup p.2 = none) ∧
        (∀ (s : Shared) (u : Value), BindsTo s fd ⟨[u], []⟩ [(x, u)]) ∧
        (∀ base : Heap, (K w.params).In base → base.Ns mainGlobals mg → (∀ p ∈ cs, LamX.TabB base mg p.1 p.2) → FnG l.prog w (K w.params) mg base C8.CX0 k fa fd [x] sp) ∧
        ∀ (H : Hp) (a : Addr) (ns : List Int), ns.length ≤ n → (∀ p ∈ cs, H p.2 = some (.tbl #[])) → SqL (K w.params) H a (ns.map V.int) →
          (∀ b, H b = none ∨ (∃ ob xs, H b = some (.frz ob (.lst xs))) ∨ ((∃ p ∈ cs, p.2 = b) ∧ H b = some (.tbl #[]))) →
          sp [.ref a] H (fun v _ => v = .bl true) fun _ _ _ => False) :
    PySem.W.WalkO q loose XP YP l.row.toRowW d [] (fun f vs => PySem.call f vs) := by
  refine Att.attach_call hn hdf ?_
  intro w s₀ s₁ mg mb fa o pm cd doc a vs ns G Y ho hd hcd hmg hobj hints hlen hg
  have KX := hY w _ Y
  obtain ⟨cs, fd, sp, hcs, hb, hF, hsp⟩ := F w mg fa _ KX G.T.g hmg
  have hT : ∀ p ∈ cs, PySem.W.CodeHd s₁.heap p.1 p.2 ∧ s₁.heap.get? p.2 = some (PySem.W.tabObj #[]) := by
    intro p hp
    obtain ⟨⟨x, hx, ht⟩, _⟩ := hcs p hp
    have := List.all_eq_true.mp hxs x hx
    obtain ⟨d', hd'⟩ := Option.isSome_iff_exists.mp this
    exact PySem.W.tab_of G.T KX hd' ht
  exact law_endT KX G.T.g G.T.b G.T.builtins G.T.nolimit hg (fun p hp => (hT p hp).2) (fun p hp => (hcs p hp).2) (fun p hp => (hT p hp).1) G.T.bmain hobj hints (Nat.le_trans hlen hn2) hr hF hb
    fun H h1 h2 h3 => hsp H a ns hlen h1 h2 h3
end Fw
namespace Fv
open PySem PySem.Spec PyProof.Rows L2 Fr Fw Fs
/-! # the objects of the law, and all its defs together -/
def T2 (cE cL : Addr) : Xt := fun n => if n = 4 then (cL, none) else (cE, some ("part" : Str))
def ObC (K : Frag) (cB cE cL : Addr) (n : Nat) : Hp → V → List V → Prop :=
  if n = 0 then ObEmp else if n = 1 then ObBook cB else if n = 2 then ObBad cE else if n = 3 then ObKeys else
  if n = 5 then fun H v vs => ∃ a, v = .ref a ∧ SqL K H a vs else if n = 9 then ObLam MR qR else if n = 11 then fun _ v vs => ∃ f : Addr, v = .ref f ∧ vs = [.int (f : Nat)] else
  if 20 ≤ n then ObE (T2 cE cL) (n - 20) else fun _ _ _ => False
theorem obC_mo {K : Frag} {cB cE cL : Addr} {n : Nat} {H H' : Hp} {v : V} {vs : List V} (s : Same H H') (h : ObC K cB cE cL n H v vs) : ObC K cB cE cL n H' v vs := by
  unfold ObC at h ⊢
  by_cases h0 : n = 0
  · rw [if_pos h0] at h ⊢
    obtain ⟨a, kvs, e, h, r⟩ := h
    exact ⟨a, kvs, e, s _ _ h, r⟩
  rw [if_neg h0] at h ⊢
  by_cases h1 : n = 1
  · rw [if_pos h1] at h ⊢
    obtain ⟨a, dx, v1, v2, v3, e, h1, h2, r⟩ := h
    exact ⟨a, dx, v1, v2, v3, e, s _ _ h1, s _ _ h2, r⟩
  rw [if_neg h1] at h ⊢
  by_cases h2 : n = 2
  · rw [if_pos h2] at h ⊢
    obtain ⟨a, d, p, e, h1, h2, r⟩ := h
    exact ⟨a, d, p, e, s _ _ h1, s _ _ h2, r⟩
  rw [if_neg h2] at h ⊢
  by_cases h3 : n = 3
  · rw [if_pos h3] at h ⊢
    obtain ⟨a, od, ks, e, h, r⟩ := h
    exact ⟨a, od, ks, e, s _ _ h, r⟩
  rw [if_neg h3] at h ⊢
  by_cases h5 : n = 5
  · rw [if_pos h5] at h ⊢
    obtain ⟨a, e, h⟩ := h
    exact ⟨a, e, same_sql s h⟩
  rw [if_neg h5] at h ⊢
  by_cases h9 : n = 9
  · rw [if_pos h9] at h ⊢
    exact obLam_mo s h
  rw [if_neg h9] at h ⊢
  by_cases h11 : n = 11
  · rw [if_pos h11] at h ⊢
    exact h
  rw [if_neg h11] at h ⊢
  by_cases h20 : 20 ≤ n
  · rw [if_pos h20] at h ⊢
    exact obE_mo s h
  rw [if_neg h20] at h
  exact h.elim
abbrev LyC (K : Frag) (cB cE cL : Addr) : Ly := ⟨K, ObC K cB cE cL, obC_mo⟩
section
variable {K : Frag} {cB cE cL : Addr}
theorem lyK : LyK (LyC K cB cE cL) := ⟨Iff.rfl, Iff.rfl⟩
theorem lyB : LyB (LyC K cB cE cL) cB cE := ⟨lyK, Iff.rfl, Iff.rfl⟩
theorem lyS : LyS (LyC K cB cE cL) := ⟨Iff.rfl⟩
theorem lyV : LyV (LyC K cB cE cL) := ⟨Iff.rfl⟩
theorem lyE : LyE (LyC K cB cE cL) (T2 cE cL) := ⟨fun {n H v vs} => by
  have e : ObC K cB cE cL (20 + n) = ObE (T2 cE cL) n := by
    unfold ObC
    rw [if_neg (by omega), if_neg (by omega), if_neg (by omega), if_neg (by omega), if_neg (by omega), if_neg (by omega), if_neg (by omega), if_pos (by omega), Nat.add_sub_cancel_left]
  show ObC K cB cE cL (20 + n) H v vs ↔ _
  rw [e]⟩
theorem lyF : LyF (LyC K cB cE cL) MR qR := ⟨Iff.rfl, fun {n H v vs a φ} hn ha h => by
  have ne : ∀ {b : Addr} {ho : HO}, H b = some ho → (∀ φ, ho ≠ .ext φ) → del H a b = some ho := fun {b ho} e n => by
    have : b ≠ a := by
      rintro rfl
      rw [ha] at e
      cases e
      exact n _ rfl
    exact (del_ne this).trans e
  have : n = 0 ∨ n = 1 := by omega
  rcases this with rfl | rfl
  · obtain ⟨b, kvs, e, h, r⟩ := (show ObEmp H v vs from h)
    exact ⟨b, kvs, e, ne h (fun _ z => by cases z), r⟩
  · obtain ⟨b, dx, v1, v2, v3, e, h1, h2, r⟩ := (show ObBook cB H v vs from h)
    exact ⟨b, dx, v1, v2, v3, e, ne h1 (fun _ z => by cases z), ne h2 (fun _ z => by cases z), r⟩⟩
end
def s_bad : Stmt := (C8.clsBody (topS 2)).getD 0 (.Pass ⟨0, 0, 0, 0⟩)
theorem sc_bad : FnScope ["self", "part"] ["self", "part"] (C8.fnScope s_bad) := C8.fnScope_by (by decide +kernel)
section
variable {P : Program} {w : World} {K : Frag} {mg : Str → Option Value} {base : Heap} {f : Addr} {fd : FuncData} {cB cE cL cF : Addr}
theorem ok_bad (F : C8.Fun K "__init__" "BadBook.__init__" s_bad f fd) (T : OexC K cE) (no : PySem.W.findIn K (.ref cE) "part" = some none) : FnOk P w K mg base C8.CX0 1 f fd ["self", "part"] (spIni cE "part") := by
  have sc := sc_bad
  refine C8.fn0 F sc (fun vs H Q E h => ?_) (fun cdv A outer s H vs Q E hr h => ?_)
  · obtain ⟨_, _, rfl, _⟩ := h
    rfl
  · obtain ⟨a, v, rfl, ha, k⟩ := h
    refine ⟨_, pss_one (ps_ost (pv 0) (pv 1)), ?_⟩
    exact ⟨_, rfl, _, rfl, a, cE, rfl, T, no, .inl ⟨ha, fun dx n ne => k dx n ne⟩⟩
theorem ok_all {fI fE fL : Addr} {fdI fdE fdL : FuncData} {f_num f_nwi f_isl f_islot f_mask f_bits f_need f_arel f_exch f_swaps f_begun f_mixed f_take f_pick f_shuf f_und f_cau f_lots f_wit f_less f_sh f_rin f_clo f_rr f_lon f_tsk f_pie f_wsk f_rows f_ties f_free f_dra f_ske f_made f_lotof f_ftab f_rtab f_cof f_nbook f_nlot f_uses f_rank f_clos f_fl f_idle f_sure f_al f_ref : Addr} {d_num d_nwi d_isl d_islot d_mask d_bits d_need d_arel d_exch d_swaps d_begun d_mixed d_take d_pick d_shuf d_und d_cau d_lots d_wit d_less d_sh d_rin d_clo d_rr d_lon d_tsk d_pie d_wsk d_rows d_ties d_free d_dra d_ske d_made d_lotof d_ftab d_rtab d_cof d_nbook d_nlot d_uses d_rank d_clos d_fl d_idle d_sure d_al d_ref : FuncData} {T : List (Addr × Str)} {tk8 : Tok}
    (D_num : C8.Def K mg "is_number" s_is_number f_num d_num) (b_num : Binds K d_num ["thing"] [])
    (D_nwi : C8.Def K mg "is_number_within" s_is_number_within f_nwi d_nwi) (b_nwi : Binds K d_nwi ["thing", "least", "most"] [])
    (D_isl : C8.Def K mg "is_list" s_is_list f_isl d_isl) (b_isl : Binds K d_isl ["thing"] [])
    (D_islot : C8.Def K mg "is_lot" s_is_lot f_islot d_islot) (b_islot : Binds K d_islot ["thing", "size"] [])
    (D_mask : C8.Def K mg "mask_of" s_mask_of f_mask d_mask) (b_mask : Binds K d_mask ["lot"] [])
    (D_bits : C8.Def K mg "bits_of" s_bits_of f_bits d_bits) (b_bits : Binds K d_bits ["mask"] [])
    (D_need : C8.Def K mg "need_size" s_need_size f_need d_need) (b_need : Binds K d_need ["size"] [])
    (D_arel : C8.Def K mg "_are_lots_of_one_length" s_are_lots_of_one_length f_arel d_arel) (b_arel : Binds K d_arel ["size", "bases"] [])
    (D_exch : C8.Def K mg "are_exchanged" s_are_exchanged f_exch d_exch) (b_exch : Binds K d_exch ["size", "masks"] [])
    (D_swaps : C8.Def K mg "_swaps" s_swaps f_swaps d_swaps) (b_swaps : Binds K d_swaps ["size", "known", "mask", "bit"] [])
    (D_begun : C8.Def K mg "_law_begun" Fr.s_law_begun f_begun d_begun) (b_begun : Binds K d_begun ["script"] [])
    (D_mixed : C8.Def K mg "_law_mixed" Fr.s_law_mixed f_mixed d_mixed) (b_mixed : Binds K d_mixed ["draw"] [])
    (D_take : C8.Def K mg "_law_take" Fr.s_law_take f_take d_take) (b_take : Binds K d_take ["draw", "amount"] [])
    (D_pick : C8.Def K mg "_law_pick" Fr.s_law_pick f_pick d_pick) (b_pick : Binds K d_pick ["draw", "some"] [])
    (D_shuf : C8.Def K mg "_law_shuffled" s_law_shuffled f_shuf d_shuf) (b_shuf : Binds K d_shuf ["draw", "some"] [])
    (D_und : C8.Def K mg "_law_undone" s_law_undone f_und d_und) (b_und : Binds K d_und ["field", "number"] [])
    (D_cau : C8.Def K mg "_law_caught" s_law_caught f_cau d_cau) (b_cau : Binds K d_cau ["work"] [])
    (D_lots : C8.Def K mg "_law_lots" s_law_lots f_lots d_lots) (b_lots : Binds K d_lots ["things_here", "length"] [])
    (D_wit : C8.Def K mg "_law_with" s_law_with f_wit d_wit) (b_wit : Binds K d_wit ["lot", "other"] [])
    (D_less : C8.Def K mg "_law_less" s_law_less f_less d_less) (b_less : Binds K d_less ["lot", "other"] [])
    (D_sh : C8.Def K mg "_law_shared" s_law_shared f_sh d_sh) (b_sh : Binds K d_sh ["lot", "other"] [])
    (D_rin : C8.Def K mg "_law_rank_in" s_law_rank_in f_rin d_rin) (b_rin : Binds K d_rin ["bases_here", "lot"] [])
    (D_clo : C8.Def K mg "_law_closure_in" s_law_closure_in f_clo d_clo) (b_clo : Binds K d_clo ["sketch", "lot"] [])
    (D_rr : C8.Def K mg "_law_row_rank" s_law_row_rank f_rr d_rr) (b_rr : Binds K d_rr ["field", "rows"] [])
    (D_lon : C8.Def K mg "_law_longest" s_law_longest f_lon d_lon) (b_lon : Binds K d_lon ["size", "is_free_here"] [])
    (D_tsk : C8.Def K mg "_law_table_sketch" s_law_table_sketch f_tsk d_tsk) (b_tsk : Binds K d_tsk ["field", "rows"] [])
    (D_pie : C8.Def K mg "_law_web_pieces" s_law_web_pieces f_pie d_pie) (b_pie : Binds K d_pie ["places_here", "ties"] [])
    (D_wsk : C8.Def K mg "_law_web_sketch" s_law_web_sketch f_wsk d_wsk) (b_wsk : Binds K d_wsk ["places_here", "ties"] [])
    (D_rows : C8.Def K mg "_law_rows" s_law_rows f_rows d_rows) (b_rows : Binds K d_rows ["draw", "field", "many", "width"] [])
    (D_ties : C8.Def K mg "_law_ties" s_law_ties f_ties d_ties) (b_ties : Binds K d_ties ["draw", "places_here", "many"] [])
    (D_free : C8.Def K mg "_law_can_be_freer" s_law_can_be_freer f_free d_free) (b_free : Binds K d_free ["sketch"] [])
    (D_dra : C8.Def K mg "_law_drawn_sketch" s_law_drawn_sketch f_dra d_dra) (b_dra : Binds K d_dra ["draw", "size"] [])
    (D_ske : C8.Def K mg "_law_sketch" s_law_sketch f_ske d_ske) (b_ske : Binds K d_ske ["draw", "most"] [])
    (D_made : C8.Def K mg "_law_made" s_law_made f_made d_made) (b_made : Binds K d_made ["draw", "sketch"] [])
    (D_lotof : C8.Def K mg "lot_of" s_lot_of f_lotof d_lotof) (b_lotof : Binds K d_lotof ["mask"] [])
    (D_ftab : C8.Def K mg "free_table" s_free_table f_ftab d_ftab) (b_ftab : Binds K d_ftab ["book"] [])
    (D_rtab : C8.Def K mg "rank_table" s_rank_table f_rtab d_rtab) (b_rtab : Binds K d_rtab ["book"] [])
    (D_cof : C8.Def K mg "closure_of" s_closure_of f_cof d_cof) (b_cof : Binds K d_cof ["ranks", "mask"] [])
    (D_nbook : C8.Def K mg "need_book" s_need_book f_nbook d_nbook) (b_nbook : Binds K d_nbook ["book"] [])
    (D_nlot : C8.Def K mg "need_lot" s_need_lot f_nlot d_nlot) (b_nlot : Binds K d_nlot ["book", "lot"] [])
    (D_uses : C8.Def K mg "_uses" s_uses f_uses d_uses) (b_uses : Binds K d_uses ["book", "thing"] [])
    (D_rank : C8.Def K mg "rank" s_rank f_rank d_rank) (b_rank : Binds K d_rank ["book", "lot"] [])
    (D_clos : C8.Def K mg "closure" s_closure f_clos d_clos) (b_clos : Binds K d_clos ["book", "lot"] [])
    (D_fl : C8.Def K mg "free_lots" s_free_lots f_fl d_fl) (b_fl : Binds K d_fl ["book"] [])
    (D_idle : C8.Def K mg "idle" s_idle f_idle d_idle) (b_idle : Binds K d_idle ["book"] [])
    (D_sure : C8.Def K mg "sure" s_sure f_sure d_sure) (b_sure : Binds K d_sure ["book"] [])
    (D_al : C8.Def K mg "_law_all_lots" s_law_all_lots f_al d_al) (b_al : Binds K d_al ["things_here"] [])
    (D_ref : C8.Def K mg "_law_refused" s_law_refused f_ref d_ref) (b_ref : Binds K d_ref ["draw", "book"] [])
    (kb_rank : ∀ (s : Shared) (u1 u2 : Value), K.In s.heap → BindsTo s d_rank ⟨[], [("lot", u2), ("book", u1)]⟩ [("book", u1), ("lot", u2)])
    (kb_clos : ∀ (s : Shared) (u1 u2 : Value), K.In s.heap → BindsTo s d_clos ⟨[], [("lot", u2), ("book", u1)]⟩ [("book", u1), ("lot", u2)])
    (kb_fl : ∀ (s : Shared) (u : Value), K.In s.heap → BindsTo s d_fl ⟨[], [("book", u)]⟩ [("book", u)])
    (kb_idle : ∀ (s : Shared) (u : Value), K.In s.heap → BindsTo s d_idle ⟨[], [("book", u)]⟩ [("book", u)])
    (kb_sure : ∀ (s : Shared) (u : Value), K.In s.heap → BindsTo s d_sure ⟨[], [("book", u)]⟩ [("book", u)])
    (FL : C8.Fun K "law" "law" s_law fL fdL) (FI : C8.Fun K "__init__" "Book.__init__" s_binit fI fdI) (bI : Binds K fdI ["self", "size", "bases"] [])
    (FE : C8.Fun K "__init__" "BadBook.__init__" s_bad fE fdE) (bE : Binds K fdE ["self", "part"] []) (iE : PySem.W.findIn K (.ref cE) "__init__" = some (some (.ref fE))) (tE : PySem.W.typeIn K (.ref fE) = some (.type "function"))
    (gE : mg "BadBook" = some (.ref cE)) (oE : OexC K cE) (xE : XfC K cE) (eE : ExcC K cE) (no : PySem.W.findIn K (.ref cE) "part" = some none)
    (gL : mg "BadLot" = some (.ref cL)) (kL : PySem.W.keepIn K (.ref cL) = true) (qL : PySem.W.excIn K cL [.type "ValueError", .type "Exception", .type "BaseException", .type "object"] "ValueError.__new__" = true)
    (subL : PySem.W.subIn K (.ref cL) (.type "BaseException") = some true) (tyL : PySem.W.typeIn K (.ref cL) = some (.type "type"))
    (B : Bw mg) (Bx : Bx mg) (g8 : mg "MOST" = some (.int 8 tk8)) (C : BkC K mg cB fI) (TK : BkT K cB) (BN : BkN K cB) (Kt : Kt2 K mg (T2 cE cL) cE cL cF)
    (t_tsk : TabIn base mg d_tsk.code "_law_table_sketch.<locals>.<lambda>" T) (t_wsk : TabIn base mg d_wsk.code "_law_web_sketch.<locals>.<lambda>" T)
    (t_ref : TabIn base mg d_ref.code "_law_refused.<locals>.<lambda>" T) :
    FnG P w K mg base C8.CX0 10 fL fdL ["script"] (spLaw (LyC K cB cE cL) T) := by
  let L : Ly := LyC K cB cE cL
  let X : Xt := T2 cE cL
  have LK : LyK L := lyK
  have LB : LyB L cB cE := lyB
  have LS : LyS L := lyS
  have Bi : Bi mg := ⟨B.abs, B.int, B.len⟩
  have TE : ∀ B', ExB P w L.K mg B' "BadBook" "part" cE := fun B' => ⟨gE, oE, xE, eE, no, ⟨fE, fdE, "self", iE, tE, ok_bad FE oE no, bE⟩⟩
  have ER : ∀ B', ErB P w L.K mg B' X cE cL := fun B' => ⟨rfl, rfl, TE B', gL, kL, qL, subL, tyL⟩
  have c_num : ∀ B', CalG P w L.K mg B' C8.CX0 1 "is_number" (spF L (fB 1 aNum)) := fun B' => ok_is_number D_num b_num B Bx LK
  have c_nwi : ∀ B', CalG P w L.K mg B' C8.CX0 2 "is_number_within" (spF L fIn) := fun B' => ok_is_number_within D_nwi b_nwi B (c_num B')
  have c_isl : ∀ B', CalG P w L.K mg B' C8.CX0 1 "is_list" (spF L fIsL) := fun B' => ok_is_list D_isl b_isl B Bx LK
  have c_islot : ∀ B', CalG P w L.K mg B' C8.CX0 3 "is_lot" (spF L fIsLot) := fun B' => ok_is_lot D_islot b_islot B Bx LK (c_nwi B')
  have c_mask : ∀ B', CalG P w L.K mg B' C8.CX0 1 "mask_of" (spF L fMask) := fun B' => ok_mask_of D_mask b_mask
  have c_bits : ∀ B', CalG P w L.K mg B' C8.CX0 1 "bits_of" (spF L fBits) := fun B' => ok_bits_of D_bits b_bits B
  have c_swaps : ∀ B', CalG P w L.K mg B' C8.CX0 2 "_swaps" (spF L fSwaps) := fun B' => ok_swaps D_swaps b_swaps LK (c_bits B')
  have c_exch : ∀ B', CalG P w L.K mg B' C8.CX0 3 "are_exchanged" (spF L fExch) := fun B' => ok_are_exchanged D_exch b_exch LK (c_bits B') (c_swaps B')
  have c_arel : ∀ B', CalG P w L.K mg B' C8.CX0 4 "_are_lots_of_one_length" (spF L fLots1) := fun B' => ok_are_lots D_arel b_arel B Bx (c_isl B') (c_islot B')
  have c_need : ∀ B', CalG P w L.K mg B' (L2.CX P w) 3 "need_size" (spNeed L cE) := fun B' => ok_need_size D_need b_need g8 (TE B') (c_nwi B')
  have FIa : ∀ B', FnG P w L.K mg B' (L2.CX P w) 5 fI fdI ["self", "size", "bases"] (spBk L cE cB) := fun B' => ok_binit LB FI C B (TE B') (c_need B') (c_arel B') (c_mask B') (c_exch B')
  have c_lotof : ∀ B', CalG P w L.K mg B' C8.CX0 1 "lot_of" (spF L fLotOf) := fun B' => ok_lot_of D_lotof b_lotof B
  have c_ftab : ∀ B', CalG P w L.K mg B' C8.CX0 2 "free_table" (spF L (fTabB freeD)) := fun B' => ok_free_table LB D_ftab b_ftab B C (c_mask B') (c_bits B')
  have c_rtab : ∀ B', CalG P w L.K mg B' C8.CX0 3 "rank_table" (spF L (fTabB rankD)) := fun B' => ok_rank_table LB D_rtab b_rtab B (c_ftab B') (c_bits B')
  have c_cof : ∀ B', CalG P w L.K mg B' C8.CX0 2 "closure_of" (spF L fCloOf) := fun B' => ok_closure_of D_cof b_cof B (c_bits B')
  have c_nbook : ∀ B', CalG P w L.K mg B' (L2.CX P w) 3 "need_book" (spE L X fNeedBook) := fun B' => ok_need_book LB LK D_nbook b_nbook Bx C TK BN (ER B')
  have c_nlot : ∀ B', CalG P w L.K mg B' (L2.CX P w) 4 "need_lot" (spE L X fNeedLot) := fun B' => ok_need_lot LB D_nlot b_nlot C (ER B') (c_nbook B') (c_islot B')
  have c_uses : ∀ B', CalG P w L.K mg B' C8.CX0 1 "_uses" (spF L fUses) := fun B' => ok_uses LB D_uses b_uses B C
  have F_rank : ∀ B', FnG P w L.K mg B' (L2.CX P w) 5 f_rank d_rank ["book", "lot"] (spE L X (fLot2 fun n m bs t => .dat (.int (rankL bs t : Nat)))) := fun B' => fn_rank LB D_rank b_rank B C (c_nlot B')
  have F_clos : ∀ B', FnG P w L.K mg B' (L2.CX P w) 5 f_clos d_clos ["book", "lot"] (spE L X (fLot2 fun n m bs t => .dat (ti (closL n bs t)))) := fun B' => fn_closure D_clos b_clos (c_nlot B') (c_lotof B') (c_cof B') (c_rtab B') (c_mask B')
  have F_fl : ∀ B', FnG P w L.K mg B' (L2.CX P w) 4 f_fl d_fl ["book"] (spE L X fFreeLots) := fun B' => fn_free_lots D_fl b_fl B (c_nbook B') (c_ftab B') (c_lotof B')
  have F_idle : ∀ B', FnG P w L.K mg B' (L2.CX P w) 4 f_idle d_idle ["book"] (spE L X (fBook1 fun n m bs => .dat (ti (idleL n bs)))) := fun B' => fn_idle LB D_idle b_idle B C (c_nbook B') (c_uses B')
  have F_sure : ∀ B', FnG P w L.K mg B' (L2.CX P w) 4 f_sure d_sure ["book"] (spE L X (fBook1 fun n m bs => .dat (ti (sureL n bs)))) := fun B' => fn_sure LB D_sure b_sure B C (c_nbook B') (c_uses B')
  have e_rank : ∀ B', CalG P w L.K mg B' (L2.CX P w) 5 "rank" (spE L X (fLot2 fun n m bs t => .dat (.int (rankL bs t : Nat)))) := fun B' => ⟨_, _, _, F_rank B', D_rank.mgf, D_rank.kp, b_rank⟩
  have e_clos : ∀ B', CalG P w L.K mg B' (L2.CX P w) 5 "closure" (spE L X (fLot2 fun n m bs t => .dat (ti (closL n bs t)))) := fun B' => ⟨_, _, _, F_clos B', D_clos.mgf, D_clos.kp, b_clos⟩
  have e_fl : ∀ B', CalG P w L.K mg B' (L2.CX P w) 4 "free_lots" (spE L X fFreeLots) := fun B' => ⟨_, _, _, F_fl B', D_fl.mgf, D_fl.kp, b_fl⟩
  have e_idle : ∀ B', CalG P w L.K mg B' (L2.CX P w) 4 "idle" (spE L X (fBook1 fun n m bs => .dat (ti (idleL n bs)))) := fun B' => ⟨_, _, _, F_idle B', D_idle.mgf, D_idle.kp, b_idle⟩
  have e_sure : ∀ B', CalG P w L.K mg B' (L2.CX P w) 4 "sure" (spE L X (fBook1 fun n m bs => .dat (ti (sureL n bs)))) := fun B' => ⟨_, _, _, F_sure B', D_sure.mgf, D_sure.kp, b_sure⟩
  have c_begun : CalG P w L.K mg base C8.CX0 1 "_law_begun" (spBegun L.K) := CalG.of (ok_law_begun D_begun b_begun Bi)
  have k_take := ok_law_take (P := P) (w := w) (base := base) D_take b_take Bi (ok_law_mixed D_mixed b_mixed Bi)
  have c_take : CalG P w L.K mg base C8.CX0 2 "_law_take" (spD L fTake) := calG_imp (CalG.of k_take) fun vs H Q E h => take_D h
  have c_pick : CalG P w L.K mg base C8.CX0 3 "_law_pick" (spD L fPick) := calG_imp (CalG.of (ok_law_pick D_pick b_pick Bi k_take)) fun vs H Q E h => pick_D h
  have c_shuf : CalG P w L.K mg base C8.CX0 3 "_law_shuffled" (spD L fShuf) := ok_law_shuffled D_shuf b_shuf B c_take
  have c_lots : CalG P w L.K mg base C8.CX0 1 "_law_lots" (spF L fLots) := ok_law_lots D_lots b_lots B
  have c_lotsL : ∀ (B' : Heap) (fl : Addr) (G0 : Hp), CalG P w L.K mg B' C8.CX0 1 "_law_lots" (spF (L.lam fl G0) fLots) := fun B' fl G0 => ok_law_lots (L := L.lam fl G0) D_lots b_lots B
  have c_wit : CalG P w L.K mg base C8.CX0 1 "_law_with" (spF L fWith) := ok_law_with D_wit b_wit B
  have c_less : CalG P w L.K mg base C8.CX0 1 "_law_less" (spF L (f2T fun a b => ti (lessL a b))) := ok_law_less D_less b_less B
  have c_sh : CalG P w L.K mg base C8.CX0 1 "_law_shared" (spF L (f2T fun a b => ti (sharedL a b))) := ok_law_shared D_sh b_sh B
  have c_rin : CalG P w L.K mg base C8.CX0 2 "_law_rank_in" (spF L fRank) := ok_law_rank_in D_rin b_rin B c_sh
  have c_clo : CalG P w L.K mg base C8.CX0 3 "_law_closure_in" (spF L fClos) := ok_law_closure_in D_clo b_clo B c_rin c_wit
  have c_rrL : ∀ (B' : Heap) (fl : Addr) (G0 : Hp), CalG P w L.K mg B' C8.CX0 2 "_law_row_rank" (spF (L.lam fl G0) fRR) := fun B' fl G0 => ok_law_row_rank (L := L.lam fl G0) D_rr b_rr B (ok_law_undone (L := L.lam fl G0) D_und b_und B)
  have c_pieL : ∀ (B' : Heap) (fl : Addr) (G0 : Hp), CalG P w L.K mg B' C8.CX0 1 "_law_web_pieces" (spF (L.lam fl G0) fPieces) := fun B' fl G0 => ok_law_web_pieces (L := L.lam fl G0) D_pie b_pie B
  have c_tsk : CalG P w L.K mg base C8.CX0 5 "_law_table_sketch" (spT L T fTab) := ok_law_table_sketch D_tsk b_tsk B t_tsk D_lon b_lon c_lotsL c_rrL
  have c_wsk : CalG P w L.K mg base C8.CX0 5 "_law_web_sketch" (spT L T fWeb) := ok_law_web_sketch D_wsk b_wsk B t_wsk D_lon b_lon c_lotsL c_pieL
  have c_rows : CalG P w L.K mg base C8.CX0 3 "_law_rows" (spD L fRows) := ok_law_rows D_rows b_rows B c_take
  have c_ties : CalG P w L.K mg base C8.CX0 3 "_law_ties" (spD L fTies) := ok_law_ties D_ties b_ties B c_take
  have c_free : CalG P w L.K mg base C8.CX0 4 "_law_can_be_freer" (spF L fFree) := ok_law_can_be_freer D_free b_free B c_lots c_clo c_less c_rin
  have c_dra : CalG P w L.K mg base C8.CX0 6 "_law_drawn_sketch" (spDT L T fDrawn) := ok_law_drawn_sketch D_dra b_dra B c_take c_pick c_lots c_ties c_rows c_free c_tsk c_wsk
  have c_ske : CalG P w L.K mg base C8.CX0 7 "_law_sketch" (spDT L T fSketch) := ok_law_sketch D_ske b_ske B c_take c_dra
  have c_made : CalG P w L.K mg base C8.CX0 7 "_law_made" (spD L fMade) := ok_law_made D_made b_made B C (FIa base) bI c_take c_shuf
  have c_al : CalG P w L.K mg base C8.CX0 2 "_law_all_lots" (spF L fAllLots) := ok_law_all_lots D_al b_al B c_lots
  have c_ref : CalG P w L.K mg base C8.CX0 9 "_law_refused" (spDT L T fRef2) := ok_law_refused2 LB LK lyE lyF lyV Kt D_ref b_ref B Bx t_ref (ER base) C D_cau b_cau D_rank.mgf D_clos.mgf c_pick e_rank e_clos e_fl e_idle e_sure
  exact ok_law (L := L) (by decide : (1 : Nat) ≤ 9) LB LS FL B Bx c_begun c_ske c_made c_take c_al c_rin c_wit c_sh c_clo c_ref
    (calm (e_fl base)) (calK1 (calmF (F_fl base)) D_fl.mgf D_fl.kp kb_fl) (calm (e_idle base)) (calK1 (calmF (F_idle base)) D_idle.mgf D_idle.kp kb_idle) (calm (e_sure base)) (calK1 (calmF (F_sure base)) D_sure.mgf D_sure.kp kb_sure)
    (calm (e_rank base)) (calK2 (calmF (F_rank base)) D_rank.mgf D_rank.kp kb_rank) (calm (e_clos base)) (calK2 (calmF (F_clos base)) D_clos.mgf D_clos.kp kb_clos)
end
end Fv
namespace Fv
open PySem PySem.Spec PyProof.Rows L2 Fr Fw Fs
abbrev fI1 (K : Frag) (C : Addr) (x : Str) (b : String) : Bool := decide (PySem.W.findIn K (.ref C) x = some (some (.builtin b)))
abbrev fI0 (K : Frag) (C : Addr) (x : Str) : Bool := decide (PySem.W.findIn K (.ref C) x = some none)
def exB (K : Frag) (D : Addr) : Bool :=
  (fI1 K D "__getattribute__" "BaseException.__getattribute__" && fI0 K D "__getattr__") &&
  (decide (PySem.W.subIn K (.ref D) (.type "BaseException") = some true) && PySem.W.hasDictIn K D) && fI1 K D "__class__" "object.__class__" &&
  decide (PySem.W.mroIn K D (.type "object") = some true)
def bkB (K : Frag) (cB cE cL cF FI : Addr) : Bool :=
  (PySem.W.makesIn K cB && PySem.W.isFn K (.ref FI) && PySem.W.keepIn K (.ref cB)) &&
  (PySem.W.plainGet K cB "" && PySem.W.hasDictIn K cB && PySem.W.plainOver K cB && fI1 K cB "__setattr__" "object.__setattr__") &&
  (fI0 K cB "size" && fI0 K cB "bases" && fI0 K cB "rank") &&
  (fI1 K cB "__class__" "object.__class__" && decide (PySem.W.mroIn K cB (.type "object") = some true) && (["NoneType", "bool", "int", "str", "list", "tuple", "dict"] : List String).all fun T => decide (PySem.W.kitOne K (.type T) (.ref cB) = some false)) &&
  (decide (PySem.W.exmOne K (.ref cE) (.ref cF) = some true) && decide (PySem.W.kitOne K (.type "NoneType") (.ref cE) = some false) && decide (PySem.W.exmOne K (.ref cL) (.ref cF) = some true) && decide (PySem.W.kitOne K (.type "NoneType") (.ref cL) = some false)) &&
  (decide (PySem.W.specialIn K (.builtin "object.__class__") "__get__" = some (some (.builtin "getset_descriptor.__get__"))) && decide (PySem.W.takesIn K (.builtin "object.__class__") = some true)) &&
  (exB K cE && PySem.W.keepIn K (.ref cE) && fI1 K cE "__setattr__" "object.__setattr__" && decide (PySem.W.typeIn K (.ref cE) = some (.type "type")) && fI0 K cE "part") &&
  (exB K cL && PySem.W.keepIn K (.ref cL) && PySem.W.excIn K cL [.type "ValueError", .type "Exception", .type "BaseException", .type "object"] "ValueError.__new__" && decide (PySem.W.typeIn K (.ref cL) = some (.type "type")))
theorem tab_in {K : Frag} {x : Str} {F C P : Addr} {oc1 : Value} {od1 : Option Addr} {fd : FuncData} {sl1 : Array (Option Value)} {oc2 : Value} {od2 : Option Addr} {vs : Array Value} {sl2 : Array (Option Value)}
    (a : PySem.W.nsIn K mainGlobals x = some (some (.ref F))) (l : K.lookup F = some ⟨oc1, od1, .func fd, sl1⟩) (e : fd.code = .ref C) (o : K.lookup C = some ⟨oc2, od2, .fields vs, sl2⟩) (p : vs[11]? = some (.ref P)) : PySem.W.tabIn K x = some (C, P) := by
  unfold PySem.W.tabIn
  rw [a]
  simp only []
  rw [l]
  simp only []
  rw [e]
  simp only []
  rw [o]
  simp only []
  rw [p]
/-- what the law is asked at the end of its row -/
theorem law_at {K : Frag} {cB cE cL : Addr} {T : List (Addr × Str)} {cs : List (Addr × Addr)} (hc : ∀ p ∈ T, ∃ q ∈ cs, q.2 = p.1) (hd : ∀ q ∈ cs, ∃ p ∈ T, p.1 = q.2) {H : Hp} {a : Addr} {ns : List Int} (hl : ns.length ≤ 63) (ht : ∀ p ∈ cs, H p.2 = some (.tbl #[])) (hs : SqL K H a (ns.map V.int)) :
    spLaw (LyC K cB cE cL) T [.ref a] H (fun v _ => v = .bl true) fun _ _ _ => False := by
  have hT : ∀ p ∈ T, H p.1 = some (.tbl #[]) := fun p hp => by
    obtain ⟨q, hq, e⟩ := hc p hp
    rw [← e]
    exact ht q hq
  obtain ⟨G, g1, g2⟩ : ∃ G : Hp, (∀ p ∈ T, G p.1 = none) ∧ ∀ b, (∃ p ∈ T, p.1 = b) ∨ G b = H b := by
    refine ⟨fun b => if (T.any fun p => p.1 == b) = true then none else H b, fun p hp => if_pos (List.any_eq_true.mpr ⟨p, hp, by simp⟩), fun b => ?_⟩
    by_cases h : (T.any fun p => p.1 == b) = true
    · obtain ⟨p, hp, e⟩ := List.any_eq_true.mp h
      exact .inl ⟨p, hp, by simpa using e⟩
    · exact .inr (if_neg h)
  have sG : Same G H := fun b o e => by
    rcases g2 b with ⟨p, hp, rfl⟩ | h
    · rw [g1 p hp] at e
      cases e
    · rw [← h]
      exact e
  have back : ∀ o : HO, (∀ ps, o ≠ .tbl ps) → H a = some o → G a = some o := fun o n e => by
    rcases g2 a with ⟨p, hp, rfl⟩ | h
    · rw [hT p hp] at e
      cases e
      exact absurd rfl (n _)
    · rw [h]
      exact e
  refine ⟨a, ns, G, rfl, ?_, hl, sG, g1, fun p hp => ?_, fun _ => rfl⟩
  · rcases hs with (h | ⟨o, h⟩) | h
    · exact .inl (.inl (back _ (fun _ z => by cases z) h))
    · exact .inl (.inr ⟨o, back _ (fun _ z => by cases z) h⟩)
    · exact .inr h
  · obtain ⟨ps, h1, h2, h3⟩ := LamX.TabS.nil (q := p.2) (hT p hp)
    have e := (hT p hp).symm.trans h1
    cases e
    exact ⟨#[], h1, h2, fun pos cv z => by cases z⟩
theorem all_mk02 {l : PySem.W.OpenLaw} {w : World} {K : Frag} {h : Heap} {mg : Str → Option Value} {fa cB cE cL cF FI FE F_num F_nwi F_isl F_islot F_mask F_bits F_need F_arel F_exch F_swaps F_begun F_mixed F_take F_pick F_shuf F_und F_cau F_lots F_wit F_less F_sh F_rin F_clo F_rr F_lon F_tsk F_pie F_wsk F_rows F_ties F_free F_dra F_ske F_made F_lotof F_ftab F_rtab F_cof F_nbook F_nlot F_uses F_rank F_clos F_fl F_idle F_sure F_al F_ref F_law C_tsk P_tsk C_wsk P_wsk C_ref P_ref : Addr} (X : K.In h) (G : h.Ns mainGlobals mg) (hfa : mg "law" = some (.ref fa))
    (aB : PySem.W.nsIn K mainGlobals "Book" = some (some (.ref cB)))
    (aE : PySem.W.nsIn K mainGlobals "BadBook" = some (some (.ref cE)))
    (aL : PySem.W.nsIn K mainGlobals "BadLot" = some (some (.ref cL)))
    (aF : PySem.W.nsIn K mainGlobals "FlatError" = some (some (.ref cF)))
    {tk8 : Tok} (aM : PySem.W.nsIn K mainGlobals "MOST" = some (some (.int 8 tk8)))
    {ocI kVI dcI pmI cdI ctI : Value} {odI anI : Option Addr} {slI : Array (Option Value)}
    (iI : PySem.W.findIn K (.ref cB) "__init__" = some (some (.ref FI)))
    (lI : K.lookup FI = some ⟨ocI, odI, .func (PySem.W.fnOf "__init__" "Book.__init__" (C8.fnArgs s_binit) (C8.fnBody s_binit) (C8.fnScope s_binit) .none kVI dcI pmI anI cdI ctI), slI⟩) (cI_ : PySem.W.codeIn K cdI "Book.__init__" = true)
    {ocE kVE dcE pmE cdE ctE : Value} {odE anE : Option Addr} {slE : Array (Option Value)}
    (iE : PySem.W.findIn K (.ref cE) "__init__" = some (some (.ref FE)))
    (lE : K.lookup FE = some ⟨ocE, odE, .func (PySem.W.fnOf "__init__" "BadBook.__init__" (C8.fnArgs s_bad) (C8.fnBody s_bad) (C8.fnScope s_bad) .none kVE dcE pmE anE cdE ctE), slE⟩) (cE_ : PySem.W.codeIn K cdE "BadBook.__init__" = true)
    (tE : PySem.W.typeIn K (.ref FE) = some (.type "function"))
    {nm q : Str} {N : Addr} {bs bm sub : List Value} {sn : List Str} {ab : Bool} {col : Option Bool} {dd : Option Addr} {k0 k1 k2 k3 k5 : Option Value}
    (xL : K.lookup cE = some (excClassObj nm q cE N bs bm true sn sub ab col dd k0 k1 k2 k3 k5 "ValueError.__new__")) (xr : PySem.HandSPX.refsVE bm = true)
    (bk : bkB K cB cE cL cF FI = true)
    {oc_num kV_num dc_num pm_num cd_num ct_num : Value} {od_num an_num : Option Addr} {sl_num : Array (Option Value)}
    (a_num : PySem.W.nsIn K mainGlobals "is_number" = some (some (.ref F_num))) (l_num : K.lookup F_num = some ⟨oc_num, od_num, .func (PySem.W.fnOf "is_number" "is_number" (C8.fnArgs s_is_number) (C8.fnBody s_is_number) (C8.fnScope s_is_number) .none kV_num dc_num pm_num an_num cd_num ct_num), sl_num⟩) (c_num : PySem.W.codeIn K cd_num "is_number" = true) (k_num : PySem.W.keepIn K (.ref F_num) = true)
    {oc_nwi kV_nwi dc_nwi pm_nwi cd_nwi ct_nwi : Value} {od_nwi an_nwi : Option Addr} {sl_nwi : Array (Option Value)}
    (a_nwi : PySem.W.nsIn K mainGlobals "is_number_within" = some (some (.ref F_nwi))) (l_nwi : K.lookup F_nwi = some ⟨oc_nwi, od_nwi, .func (PySem.W.fnOf "is_number_within" "is_number_within" (C8.fnArgs s_is_number_within) (C8.fnBody s_is_number_within) (C8.fnScope s_is_number_within) .none kV_nwi dc_nwi pm_nwi an_nwi cd_nwi ct_nwi), sl_nwi⟩) (c_nwi : PySem.W.codeIn K cd_nwi "is_number_within" = true) (k_nwi : PySem.W.keepIn K (.ref F_nwi) = true)
    {oc_isl kV_isl dc_isl pm_isl cd_isl ct_isl : Value} {od_isl an_isl : Option Addr} {sl_isl : Array (Option Value)}
    (a_isl : PySem.W.nsIn K mainGlobals "is_list" = some (some (.ref F_isl))) (l_isl : K.lookup F_isl = some ⟨oc_isl, od_isl, .func (PySem.W.fnOf "is_list" "is_list" (C8.fnArgs s_is_list) (C8.fnBody s_is_list) (C8.fnScope s_is_list) .none kV_isl dc_isl pm_isl an_isl cd_isl ct_isl), sl_isl⟩) (c_isl : PySem.W.codeIn K cd_isl "is_list" = true) (k_isl : PySem.W.keepIn K (.ref F_isl) = true)
    {oc_islot kV_islot dc_islot pm_islot cd_islot ct_islot : Value} {od_islot an_islot : Option Addr} {sl_islot : Array (Option Value)}
    (a_islot : PySem.W.nsIn K mainGlobals "is_lot" = some (some (.ref F_islot))) (l_islot : K.lookup F_islot = some ⟨oc_islot, od_islot, .func (PySem.W.fnOf "is_lot" "is_lot" (C8.fnArgs s_is_lot) (C8.fnBody s_is_lot) (C8.fnScope s_is_lot) .none kV_islot dc_islot pm_islot an_islot cd_islot ct_islot), sl_islot⟩) (c_islot : PySem.W.codeIn K cd_islot "is_lot" = true) (k_islot : PySem.W.keepIn K (.ref F_islot) = true)
    {oc_mask kV_mask dc_mask pm_mask cd_mask ct_mask : Value} {od_mask an_mask : Option Addr} {sl_mask : Array (Option Value)}
    (a_mask : PySem.W.nsIn K mainGlobals "mask_of" = some (some (.ref F_mask))) (l_mask : K.lookup F_mask = some ⟨oc_mask, od_mask, .func (PySem.W.fnOf "mask_of" "mask_of" (C8.fnArgs s_mask_of) (C8.fnBody s_mask_of) (C8.fnScope s_mask_of) .none kV_mask dc_mask pm_mask an_mask cd_mask ct_mask), sl_mask⟩) (c_mask : PySem.W.codeIn K cd_mask "mask_of" = true) (k_mask : PySem.W.keepIn K (.ref F_mask) = true)
    {oc_bits kV_bits dc_bits pm_bits cd_bits ct_bits : Value} {od_bits an_bits : Option Addr} {sl_bits : Array (Option Value)}
    (a_bits : PySem.W.nsIn K mainGlobals "bits_of" = some (some (.ref F_bits))) (l_bits : K.lookup F_bits = some ⟨oc_bits, od_bits, .func (PySem.W.fnOf "bits_of" "bits_of" (C8.fnArgs s_bits_of) (C8.fnBody s_bits_of) (C8.fnScope s_bits_of) .none kV_bits dc_bits pm_bits an_bits cd_bits ct_bits), sl_bits⟩) (c_bits : PySem.W.codeIn K cd_bits "bits_of" = true) (k_bits : PySem.W.keepIn K (.ref F_bits) = true)
    {oc_need kV_need dc_need pm_need cd_need ct_need : Value} {od_need an_need : Option Addr} {sl_need : Array (Option Value)}
    (a_need : PySem.W.nsIn K mainGlobals "need_size" = some (some (.ref F_need))) (l_need : K.lookup F_need = some ⟨oc_need, od_need, .func (PySem.W.fnOf "need_size" "need_size" (C8.fnArgs s_need_size) (C8.fnBody s_need_size) (C8.fnScope s_need_size) .none kV_need dc_need pm_need an_need cd_need ct_need), sl_need⟩) (c_need : PySem.W.codeIn K cd_need "need_size" = true) (k_need : PySem.W.keepIn K (.ref F_need) = true)
    {oc_arel kV_arel dc_arel pm_arel cd_arel ct_arel : Value} {od_arel an_arel : Option Addr} {sl_arel : Array (Option Value)}
    (a_arel : PySem.W.nsIn K mainGlobals "_are_lots_of_one_length" = some (some (.ref F_arel))) (l_arel : K.lookup F_arel = some ⟨oc_arel, od_arel, .func (PySem.W.fnOf "_are_lots_of_one_length" "_are_lots_of_one_length" (C8.fnArgs s_are_lots_of_one_length) (C8.fnBody s_are_lots_of_one_length) (C8.fnScope s_are_lots_of_one_length) .none kV_arel dc_arel pm_arel an_arel cd_arel ct_arel), sl_arel⟩) (c_arel : PySem.W.codeIn K cd_arel "_are_lots_of_one_length" = true) (k_arel : PySem.W.keepIn K (.ref F_arel) = true)
    {oc_exch kV_exch dc_exch pm_exch cd_exch ct_exch : Value} {od_exch an_exch : Option Addr} {sl_exch : Array (Option Value)}
    (a_exch : PySem.W.nsIn K mainGlobals "are_exchanged" = some (some (.ref F_exch))) (l_exch : K.lookup F_exch = some ⟨oc_exch, od_exch, .func (PySem.W.fnOf "are_exchanged" "are_exchanged" (C8.fnArgs s_are_exchanged) (C8.fnBody s_are_exchanged) (C8.fnScope s_are_exchanged) .none kV_exch dc_exch pm_exch an_exch cd_exch ct_exch), sl_exch⟩) (c_exch : PySem.W.codeIn K cd_exch "are_exchanged" = true) (k_exch : PySem.W.keepIn K (.ref F_exch) = true)
    {oc_swaps kV_swaps dc_swaps pm_swaps cd_swaps ct_swaps : Value} {od_swaps an_swaps : Option Addr} {sl_swaps : Array (Option Value)}
    (a_swaps : PySem.W.nsIn K mainGlobals "_swaps" = some (some (.ref F_swaps))) (l_swaps : K.lookup F_swaps = some ⟨oc_swaps, od_swaps, .func (PySem.W.fnOf "_swaps" "_swaps" (C8.fnArgs s_swaps) (C8.fnBody s_swaps) (C8.fnScope s_swaps) .none kV_swaps dc_swaps pm_swaps an_swaps cd_swaps ct_swaps), sl_swaps⟩) (c_swaps : PySem.W.codeIn K cd_swaps "_swaps" = true) (k_swaps : PySem.W.keepIn K (.ref F_swaps) = true)
    {oc_begun kV_begun dc_begun pm_begun cd_begun ct_begun : Value} {od_begun an_begun : Option Addr} {sl_begun : Array (Option Value)}
    (a_begun : PySem.W.nsIn K mainGlobals "_law_begun" = some (some (.ref F_begun))) (l_begun : K.lookup F_begun = some ⟨oc_begun, od_begun, .func (PySem.W.fnOf "_law_begun" "_law_begun" (C8.fnArgs Fr.s_law_begun) (C8.fnBody Fr.s_law_begun) (C8.fnScope Fr.s_law_begun) .none kV_begun dc_begun pm_begun an_begun cd_begun ct_begun), sl_begun⟩) (c_begun : PySem.W.codeIn K cd_begun "_law_begun" = true) (k_begun : PySem.W.keepIn K (.ref F_begun) = true)
    {oc_mixed kV_mixed dc_mixed pm_mixed cd_mixed ct_mixed : Value} {od_mixed an_mixed : Option Addr} {sl_mixed : Array (Option Value)}
    (a_mixed : PySem.W.nsIn K mainGlobals "_law_mixed" = some (some (.ref F_mixed))) (l_mixed : K.lookup F_mixed = some ⟨oc_mixed, od_mixed, .func (PySem.W.fnOf "_law_mixed" "_law_mixed" (C8.fnArgs Fr.s_law_mixed) (C8.fnBody Fr.s_law_mixed) (C8.fnScope Fr.s_law_mixed) .none kV_mixed dc_mixed pm_mixed an_mixed cd_mixed ct_mixed), sl_mixed⟩) (c_mixed : PySem.W.codeIn K cd_mixed "_law_mixed" = true) (k_mixed : PySem.W.keepIn K (.ref F_mixed) = true)
    {oc_take kV_take dc_take pm_take cd_take ct_take : Value} {od_take an_take : Option Addr} {sl_take : Array (Option Value)}
    (a_take : PySem.W.nsIn K mainGlobals "_law_take" = some (some (.ref F_take))) (l_take : K.lookup F_take = some ⟨oc_take, od_take, .func (PySem.W.fnOf "_law_take" "_law_take" (C8.fnArgs Fr.s_law_take) (C8.fnBody Fr.s_law_take) (C8.fnScope Fr.s_law_take) .none kV_take dc_take pm_take an_take cd_take ct_take), sl_take⟩) (c_take : PySem.W.codeIn K cd_take "_law_take" = true) (k_take : PySem.W.keepIn K (.ref F_take) = true)
    {oc_pick kV_pick dc_pick pm_pick cd_pick ct_pick : Value} {od_pick an_pick : Option Addr} {sl_pick : Array (Option Value)}
    (a_pick : PySem.W.nsIn K mainGlobals "_law_pick" = some (some (.ref F_pick))) (l_pick : K.lookup F_pick = some ⟨oc_pick, od_pick, .func (PySem.W.fnOf "_law_pick" "_law_pick" (C8.fnArgs Fr.s_law_pick) (C8.fnBody Fr.s_law_pick) (C8.fnScope Fr.s_law_pick) .none kV_pick dc_pick pm_pick an_pick cd_pick ct_pick), sl_pick⟩) (c_pick : PySem.W.codeIn K cd_pick "_law_pick" = true) (k_pick : PySem.W.keepIn K (.ref F_pick) = true)
    {oc_shuf kV_shuf dc_shuf pm_shuf cd_shuf ct_shuf : Value} {od_shuf an_shuf : Option Addr} {sl_shuf : Array (Option Value)}
    (a_shuf : PySem.W.nsIn K mainGlobals "_law_shuffled" = some (some (.ref F_shuf))) (l_shuf : K.lookup F_shuf = some ⟨oc_shuf, od_shuf, .func (PySem.W.fnOf "_law_shuffled" "_law_shuffled" (C8.fnArgs s_law_shuffled) (C8.fnBody s_law_shuffled) (C8.fnScope s_law_shuffled) .none kV_shuf dc_shuf pm_shuf an_shuf cd_shuf ct_shuf), sl_shuf⟩) (c_shuf : PySem.W.codeIn K cd_shuf "_law_shuffled" = true) (k_shuf : PySem.W.keepIn K (.ref F_shuf) = true)
    {oc_und kV_und dc_und pm_und cd_und ct_und : Value} {od_und an_und : Option Addr} {sl_und : Array (Option Value)}
    (a_und : PySem.W.nsIn K mainGlobals "_law_undone" = some (some (.ref F_und))) (l_und : K.lookup F_und = some ⟨oc_und, od_und, .func (PySem.W.fnOf "_law_undone" "_law_undone" (C8.fnArgs s_law_undone) (C8.fnBody s_law_undone) (C8.fnScope s_law_undone) .none kV_und dc_und pm_und an_und cd_und ct_und), sl_und⟩) (c_und : PySem.W.codeIn K cd_und "_law_undone" = true) (k_und : PySem.W.keepIn K (.ref F_und) = true)
    {oc_cau kV_cau dc_cau pm_cau cd_cau ct_cau : Value} {od_cau an_cau : Option Addr} {sl_cau : Array (Option Value)}
    (a_cau : PySem.W.nsIn K mainGlobals "_law_caught" = some (some (.ref F_cau))) (l_cau : K.lookup F_cau = some ⟨oc_cau, od_cau, .func (PySem.W.fnOf "_law_caught" "_law_caught" (C8.fnArgs s_law_caught) (C8.fnBody s_law_caught) (C8.fnScope s_law_caught) .none kV_cau dc_cau pm_cau an_cau cd_cau ct_cau), sl_cau⟩) (c_cau : PySem.W.codeIn K cd_cau "_law_caught" = true) (k_cau : PySem.W.keepIn K (.ref F_cau) = true)
    {oc_lots kV_lots dc_lots pm_lots cd_lots ct_lots : Value} {od_lots an_lots : Option Addr} {sl_lots : Array (Option Value)}
    (a_lots : PySem.W.nsIn K mainGlobals "_law_lots" = some (some (.ref F_lots))) (l_lots : K.lookup F_lots = some ⟨oc_lots, od_lots, .func (PySem.W.fnOf "_law_lots" "_law_lots" (C8.fnArgs s_law_lots) (C8.fnBody s_law_lots) (C8.fnScope s_law_lots) .none kV_lots dc_lots pm_lots an_lots cd_lots ct_lots), sl_lots⟩) (c_lots : PySem.W.codeIn K cd_lots "_law_lots" = true) (k_lots : PySem.W.keepIn K (.ref F_lots) = true)
    {oc_wit kV_wit dc_wit pm_wit cd_wit ct_wit : Value} {od_wit an_wit : Option Addr} {sl_wit : Array (Option Value)}
    (a_wit : PySem.W.nsIn K mainGlobals "_law_with" = some (some (.ref F_wit))) (l_wit : K.lookup F_wit = some ⟨oc_wit, od_wit, .func (PySem.W.fnOf "_law_with" "_law_with" (C8.fnArgs s_law_with) (C8.fnBody s_law_with) (C8.fnScope s_law_with) .none kV_wit dc_wit pm_wit an_wit cd_wit ct_wit), sl_wit⟩) (c_wit : PySem.W.codeIn K cd_wit "_law_with" = true) (k_wit : PySem.W.keepIn K (.ref F_wit) = true)
    {oc_less kV_less dc_less pm_less cd_less ct_less : Value} {od_less an_less : Option Addr} {sl_less : Array (Option Value)}
    (a_less : PySem.W.nsIn K mainGlobals "_law_less" = some (some (.ref F_less))) (l_less : K.lookup F_less = some ⟨oc_less, od_less, .func (PySem.W.fnOf "_law_less" "_law_less" (C8.fnArgs s_law_less) (C8.fnBody s_law_less) (C8.fnScope s_law_less) .none kV_less dc_less pm_less an_less cd_less ct_less), sl_less⟩) (c_less : PySem.W.codeIn K cd_less "_law_less" = true) (k_less : PySem.W.keepIn K (.ref F_less) = true)
    {oc_sh kV_sh dc_sh pm_sh cd_sh ct_sh : Value} {od_sh an_sh : Option Addr} {sl_sh : Array (Option Value)}
    (a_sh : PySem.W.nsIn K mainGlobals "_law_shared" = some (some (.ref F_sh))) (l_sh : K.lookup F_sh = some ⟨oc_sh, od_sh, .func (PySem.W.fnOf "_law_shared" "_law_shared" (C8.fnArgs s_law_shared) (C8.fnBody s_law_shared) (C8.fnScope s_law_shared) .none kV_sh dc_sh pm_sh an_sh cd_sh ct_sh), sl_sh⟩) (c_sh : PySem.W.codeIn K cd_sh "_law_shared" = true) (k_sh : PySem.W.keepIn K (.ref F_sh) = true)
    {oc_rin kV_rin dc_rin pm_rin cd_rin ct_rin : Value} {od_rin an_rin : Option Addr} {sl_rin : Array (Option Value)}
    (a_rin : PySem.W.nsIn K mainGlobals "_law_rank_in" = some (some (.ref F_rin))) (l_rin : K.lookup F_rin = some ⟨oc_rin, od_rin, .func (PySem.W.fnOf "_law_rank_in" "_law_rank_in" (C8.fnArgs s_law_rank_in) (C8.fnBody s_law_rank_in) (C8.fnScope s_law_rank_in) .none kV_rin dc_rin pm_rin an_rin cd_rin ct_rin), sl_rin⟩) (c_rin : PySem.W.codeIn K cd_rin "_law_rank_in" = true) (k_rin : PySem.W.keepIn K (.ref F_rin) = true)
    {oc_clo kV_clo dc_clo pm_clo cd_clo ct_clo : Value} {od_clo an_clo : Option Addr} {sl_clo : Array (Option Value)}
    (a_clo : PySem.W.nsIn K mainGlobals "_law_closure_in" = some (some (.ref F_clo))) (l_clo : K.lookup F_clo = some ⟨oc_clo, od_clo, .func (PySem.W.fnOf "_law_closure_in" "_law_closure_in" (C8.fnArgs s_law_closure_in) (C8.fnBody s_law_closure_in) (C8.fnScope s_law_closure_in) .none kV_clo dc_clo pm_clo an_clo cd_clo ct_clo), sl_clo⟩) (c_clo : PySem.W.codeIn K cd_clo "_law_closure_in" = true) (k_clo : PySem.W.keepIn K (.ref F_clo) = true)
    {oc_rr kV_rr dc_rr pm_rr cd_rr ct_rr : Value} {od_rr an_rr : Option Addr} {sl_rr : Array (Option Value)}
    (a_rr : PySem.W.nsIn K mainGlobals "_law_row_rank" = some (some (.ref F_rr))) (l_rr : K.lookup F_rr = some ⟨oc_rr, od_rr, .func (PySem.W.fnOf "_law_row_rank" "_law_row_rank" (C8.fnArgs s_law_row_rank) (C8.fnBody s_law_row_rank) (C8.fnScope s_law_row_rank) .none kV_rr dc_rr pm_rr an_rr cd_rr ct_rr), sl_rr⟩) (c_rr : PySem.W.codeIn K cd_rr "_law_row_rank" = true) (k_rr : PySem.W.keepIn K (.ref F_rr) = true)
    {oc_lon kV_lon dc_lon pm_lon cd_lon ct_lon : Value} {od_lon an_lon : Option Addr} {sl_lon : Array (Option Value)}
    (a_lon : PySem.W.nsIn K mainGlobals "_law_longest" = some (some (.ref F_lon))) (l_lon : K.lookup F_lon = some ⟨oc_lon, od_lon, .func (PySem.W.fnOf "_law_longest" "_law_longest" (C8.fnArgs s_law_longest) (C8.fnBody s_law_longest) (C8.fnScope s_law_longest) .none kV_lon dc_lon pm_lon an_lon cd_lon ct_lon), sl_lon⟩) (c_lon : PySem.W.codeIn K cd_lon "_law_longest" = true) (k_lon : PySem.W.keepIn K (.ref F_lon) = true)
    {oc_tsk kV_tsk dc_tsk pm_tsk  ct_tsk : Value} {od_tsk an_tsk : Option Addr} {sl_tsk : Array (Option Value)}
    (a_tsk : PySem.W.nsIn K mainGlobals "_law_table_sketch" = some (some (.ref F_tsk))) (l_tsk : K.lookup F_tsk = some ⟨oc_tsk, od_tsk, .func (PySem.W.fnOf "_law_table_sketch" "_law_table_sketch" (C8.fnArgs s_law_table_sketch) (C8.fnBody s_law_table_sketch) (C8.fnScope s_law_table_sketch) .none kV_tsk dc_tsk pm_tsk an_tsk (.ref C_tsk) ct_tsk), sl_tsk⟩) (c_tsk : PySem.W.codeIn K (.ref C_tsk) "_law_table_sketch" = true) (k_tsk : PySem.W.keepIn K (.ref F_tsk) = true)
    {oc_pie kV_pie dc_pie pm_pie cd_pie ct_pie : Value} {od_pie an_pie : Option Addr} {sl_pie : Array (Option Value)}
    (a_pie : PySem.W.nsIn K mainGlobals "_law_web_pieces" = some (some (.ref F_pie))) (l_pie : K.lookup F_pie = some ⟨oc_pie, od_pie, .func (PySem.W.fnOf "_law_web_pieces" "_law_web_pieces" (C8.fnArgs s_law_web_pieces) (C8.fnBody s_law_web_pieces) (C8.fnScope s_law_web_pieces) .none kV_pie dc_pie pm_pie an_pie cd_pie ct_pie), sl_pie⟩) (c_pie : PySem.W.codeIn K cd_pie "_law_web_pieces" = true) (k_pie : PySem.W.keepIn K (.ref F_pie) = true)
    {oc_wsk kV_wsk dc_wsk pm_wsk  ct_wsk : Value} {od_wsk an_wsk : Option Addr} {sl_wsk : Array (Option Value)}
    (a_wsk : PySem.W.nsIn K mainGlobals "_law_web_sketch" = some (some (.ref F_wsk))) (l_wsk : K.lookup F_wsk = some ⟨oc_wsk, od_wsk, .func (PySem.W.fnOf "_law_web_sketch" "_law_web_sketch" (C8.fnArgs s_law_web_sketch) (C8.fnBody s_law_web_sketch) (C8.fnScope s_law_web_sketch) .none kV_wsk dc_wsk pm_wsk an_wsk (.ref C_wsk) ct_wsk), sl_wsk⟩) (c_wsk : PySem.W.codeIn K (.ref C_wsk) "_law_web_sketch" = true) (k_wsk : PySem.W.keepIn K (.ref F_wsk) = true)
    {oc_rows kV_rows dc_rows pm_rows cd_rows ct_rows : Value} {od_rows an_rows : Option Addr} {sl_rows : Array (Option Value)}
    (a_rows : PySem.W.nsIn K mainGlobals "_law_rows" = some (some (.ref F_rows))) (l_rows : K.lookup F_rows = some ⟨oc_rows, od_rows, .func (PySem.W.fnOf "_law_rows" "_law_rows" (C8.fnArgs s_law_rows) (C8.fnBody s_law_rows) (C8.fnScope s_law_rows) .none kV_rows dc_rows pm_rows an_rows cd_rows ct_rows), sl_rows⟩) (c_rows : PySem.W.codeIn K cd_rows "_law_rows" = true) (k_rows : PySem.W.keepIn K (.ref F_rows) = true)
    {oc_ties kV_ties dc_ties pm_ties cd_ties ct_ties : Value} {od_ties an_ties : Option Addr} {sl_ties : Array (Option Value)}
    (a_ties : PySem.W.nsIn K mainGlobals "_law_ties" = some (some (.ref F_ties))) (l_ties : K.lookup F_ties = some ⟨oc_ties, od_ties, .func (PySem.W.fnOf "_law_ties" "_law_ties" (C8.fnArgs s_law_ties) (C8.fnBody s_law_ties) (C8.fnScope s_law_ties) .none kV_ties dc_ties pm_ties an_ties cd_ties ct_ties), sl_ties⟩) (c_ties : PySem.W.codeIn K cd_ties "_law_ties" = true) (k_ties : PySem.W.keepIn K (.ref F_ties) = true)
    {oc_free kV_free dc_free pm_free cd_free ct_free : Value} {od_free an_free : Option Addr} {sl_free : Array (Option Value)}
    (a_free : PySem.W.nsIn K mainGlobals "_law_can_be_freer" = some (some (.ref F_free))) (l_free : K.lookup F_free = some ⟨oc_free, od_free, .func (PySem.W.fnOf "_law_can_be_freer" "_law_can_be_freer" (C8.fnArgs s_law_can_be_freer) (C8.fnBody s_law_can_be_freer) (C8.fnScope s_law_can_be_freer) .none kV_free dc_free pm_free an_free cd_free ct_free), sl_free⟩) (c_free : PySem.W.codeIn K cd_free "_law_can_be_freer" = true) (k_free : PySem.W.keepIn K (.ref F_free) = true)
    {oc_dra kV_dra dc_dra pm_dra cd_dra ct_dra : Value} {od_dra an_dra : Option Addr} {sl_dra : Array (Option Value)}
    (a_dra : PySem.W.nsIn K mainGlobals "_law_drawn_sketch" = some (some (.ref F_dra))) (l_dra : K.lookup F_dra = some ⟨oc_dra, od_dra, .func (PySem.W.fnOf "_law_drawn_sketch" "_law_drawn_sketch" (C8.fnArgs s_law_drawn_sketch) (C8.fnBody s_law_drawn_sketch) (C8.fnScope s_law_drawn_sketch) .none kV_dra dc_dra pm_dra an_dra cd_dra ct_dra), sl_dra⟩) (c_dra : PySem.W.codeIn K cd_dra "_law_drawn_sketch" = true) (k_dra : PySem.W.keepIn K (.ref F_dra) = true)
    {oc_ske kV_ske dc_ske pm_ske cd_ske ct_ske : Value} {od_ske an_ske : Option Addr} {sl_ske : Array (Option Value)}
    (a_ske : PySem.W.nsIn K mainGlobals "_law_sketch" = some (some (.ref F_ske))) (l_ske : K.lookup F_ske = some ⟨oc_ske, od_ske, .func (PySem.W.fnOf "_law_sketch" "_law_sketch" (C8.fnArgs s_law_sketch) (C8.fnBody s_law_sketch) (C8.fnScope s_law_sketch) .none kV_ske dc_ske pm_ske an_ske cd_ske ct_ske), sl_ske⟩) (c_ske : PySem.W.codeIn K cd_ske "_law_sketch" = true) (k_ske : PySem.W.keepIn K (.ref F_ske) = true)
    {oc_made kV_made dc_made pm_made cd_made ct_made : Value} {od_made an_made : Option Addr} {sl_made : Array (Option Value)}
    (a_made : PySem.W.nsIn K mainGlobals "_law_made" = some (some (.ref F_made))) (l_made : K.lookup F_made = some ⟨oc_made, od_made, .func (PySem.W.fnOf "_law_made" "_law_made" (C8.fnArgs s_law_made) (C8.fnBody s_law_made) (C8.fnScope s_law_made) .none kV_made dc_made pm_made an_made cd_made ct_made), sl_made⟩) (c_made : PySem.W.codeIn K cd_made "_law_made" = true) (k_made : PySem.W.keepIn K (.ref F_made) = true)
    {oc_lotof kV_lotof dc_lotof pm_lotof cd_lotof ct_lotof : Value} {od_lotof an_lotof : Option Addr} {sl_lotof : Array (Option Value)}
    (a_lotof : PySem.W.nsIn K mainGlobals "lot_of" = some (some (.ref F_lotof))) (l_lotof : K.lookup F_lotof = some ⟨oc_lotof, od_lotof, .func (PySem.W.fnOf "lot_of" "lot_of" (C8.fnArgs s_lot_of) (C8.fnBody s_lot_of) (C8.fnScope s_lot_of) .none kV_lotof dc_lotof pm_lotof an_lotof cd_lotof ct_lotof), sl_lotof⟩) (c_lotof : PySem.W.codeIn K cd_lotof "lot_of" = true) (k_lotof : PySem.W.keepIn K (.ref F_lotof) = true)
    {oc_ftab kV_ftab dc_ftab pm_ftab cd_ftab ct_ftab : Value} {od_ftab an_ftab : Option Addr} {sl_ftab : Array (Option Value)}
    (a_ftab : PySem.W.nsIn K mainGlobals "free_table" = some (some (.ref F_ftab))) (l_ftab : K.lookup F_ftab = some ⟨oc_ftab, od_ftab, .func (PySem.W.fnOf "free_table" "free_table" (C8.fnArgs s_free_table) (C8.fnBody s_free_table) (C8.fnScope s_free_table) .none kV_ftab dc_ftab pm_ftab an_ftab cd_ftab ct_ftab), sl_ftab⟩) (c_ftab : PySem.W.codeIn K cd_ftab "free_table" = true) (k_ftab : PySem.W.keepIn K (.ref F_ftab) = true)
    {oc_rtab kV_rtab dc_rtab pm_rtab cd_rtab ct_rtab : Value} {od_rtab an_rtab : Option Addr} {sl_rtab : Array (Option Value)}
    (a_rtab : PySem.W.nsIn K mainGlobals "rank_table" = some (some (.ref F_rtab))) (l_rtab : K.lookup F_rtab = some ⟨oc_rtab, od_rtab, .func (PySem.W.fnOf "rank_table" "rank_table" (C8.fnArgs s_rank_table) (C8.fnBody s_rank_table) (C8.fnScope s_rank_table) .none kV_rtab dc_rtab pm_rtab an_rtab cd_rtab ct_rtab), sl_rtab⟩) (c_rtab : PySem.W.codeIn K cd_rtab "rank_table" = true) (k_rtab : PySem.W.keepIn K (.ref F_rtab) = true)
    {oc_cof kV_cof dc_cof pm_cof cd_cof ct_cof : Value} {od_cof an_cof : Option Addr} {sl_cof : Array (Option Value)}
    (a_cof : PySem.W.nsIn K mainGlobals "closure_of" = some (some (.ref F_cof))) (l_cof : K.lookup F_cof = some ⟨oc_cof, od_cof, .func (PySem.W.fnOf "closure_of" "closure_of" (C8.fnArgs s_closure_of) (C8.fnBody s_closure_of) (C8.fnScope s_closure_of) .none kV_cof dc_cof pm_cof an_cof cd_cof ct_cof), sl_cof⟩) (c_cof : PySem.W.codeIn K cd_cof "closure_of" = true) (k_cof : PySem.W.keepIn K (.ref F_cof) = true)
    {oc_nbook kV_nbook dc_nbook pm_nbook cd_nbook ct_nbook : Value} {od_nbook an_nbook : Option Addr} {sl_nbook : Array (Option Value)}
    (a_nbook : PySem.W.nsIn K mainGlobals "need_book" = some (some (.ref F_nbook))) (l_nbook : K.lookup F_nbook = some ⟨oc_nbook, od_nbook, .func (PySem.W.fnOf "need_book" "need_book" (C8.fnArgs s_need_book) (C8.fnBody s_need_book) (C8.fnScope s_need_book) .none kV_nbook dc_nbook pm_nbook an_nbook cd_nbook ct_nbook), sl_nbook⟩) (c_nbook : PySem.W.codeIn K cd_nbook "need_book" = true) (k_nbook : PySem.W.keepIn K (.ref F_nbook) = true)
    {oc_nlot kV_nlot dc_nlot pm_nlot cd_nlot ct_nlot : Value} {od_nlot an_nlot : Option Addr} {sl_nlot : Array (Option Value)}
    (a_nlot : PySem.W.nsIn K mainGlobals "need_lot" = some (some (.ref F_nlot))) (l_nlot : K.lookup F_nlot = some ⟨oc_nlot, od_nlot, .func (PySem.W.fnOf "need_lot" "need_lot" (C8.fnArgs s_need_lot) (C8.fnBody s_need_lot) (C8.fnScope s_need_lot) .none kV_nlot dc_nlot pm_nlot an_nlot cd_nlot ct_nlot), sl_nlot⟩) (c_nlot : PySem.W.codeIn K cd_nlot "need_lot" = true) (k_nlot : PySem.W.keepIn K (.ref F_nlot) = true)
    {oc_uses kV_uses dc_uses pm_uses cd_uses ct_uses : Value} {od_uses an_uses : Option Addr} {sl_uses : Array (Option Value)}
    (a_uses : PySem.W.nsIn K mainGlobals "_uses" = some (some (.ref F_uses))) (l_uses : K.lookup F_uses = some ⟨oc_uses, od_uses, .func (PySem.W.fnOf "_uses" "_uses" (C8.fnArgs s_uses) (C8.fnBody s_uses) (C8.fnScope s_uses) .none kV_uses dc_uses pm_uses an_uses cd_uses ct_uses), sl_uses⟩) (c_uses : PySem.W.codeIn K cd_uses "_uses" = true) (k_uses : PySem.W.keepIn K (.ref F_uses) = true)
    {oc_rank kV_rank dc_rank pm_rank cd_rank ct_rank : Value} {od_rank an_rank : Option Addr} {sl_rank : Array (Option Value)}
    (a_rank : PySem.W.nsIn K mainGlobals "rank" = some (some (.ref F_rank))) (l_rank : K.lookup F_rank = some ⟨oc_rank, od_rank, .func (PySem.W.fnOf "rank" "rank" (C8.fnArgs s_rank) (C8.fnBody s_rank) (C8.fnScope s_rank) .none kV_rank dc_rank pm_rank an_rank cd_rank ct_rank), sl_rank⟩) (c_rank : PySem.W.codeIn K cd_rank "rank" = true) (k_rank : PySem.W.keepIn K (.ref F_rank) = true)
    {oc_clos kV_clos dc_clos pm_clos cd_clos ct_clos : Value} {od_clos an_clos : Option Addr} {sl_clos : Array (Option Value)}
    (a_clos : PySem.W.nsIn K mainGlobals "closure" = some (some (.ref F_clos))) (l_clos : K.lookup F_clos = some ⟨oc_clos, od_clos, .func (PySem.W.fnOf "closure" "closure" (C8.fnArgs s_closure) (C8.fnBody s_closure) (C8.fnScope s_closure) .none kV_clos dc_clos pm_clos an_clos cd_clos ct_clos), sl_clos⟩) (c_clos : PySem.W.codeIn K cd_clos "closure" = true) (k_clos : PySem.W.keepIn K (.ref F_clos) = true)
    {oc_fl kV_fl dc_fl pm_fl cd_fl ct_fl : Value} {od_fl an_fl : Option Addr} {sl_fl : Array (Option Value)}
    (a_fl : PySem.W.nsIn K mainGlobals "free_lots" = some (some (.ref F_fl))) (l_fl : K.lookup F_fl = some ⟨oc_fl, od_fl, .func (PySem.W.fnOf "free_lots" "free_lots" (C8.fnArgs s_free_lots) (C8.fnBody s_free_lots) (C8.fnScope s_free_lots) .none kV_fl dc_fl pm_fl an_fl cd_fl ct_fl), sl_fl⟩) (c_fl : PySem.W.codeIn K cd_fl "free_lots" = true) (k_fl : PySem.W.keepIn K (.ref F_fl) = true)
    {oc_idle kV_idle dc_idle pm_idle cd_idle ct_idle : Value} {od_idle an_idle : Option Addr} {sl_idle : Array (Option Value)}
    (a_idle : PySem.W.nsIn K mainGlobals "idle" = some (some (.ref F_idle))) (l_idle : K.lookup F_idle = some ⟨oc_idle, od_idle, .func (PySem.W.fnOf "idle" "idle" (C8.fnArgs s_idle) (C8.fnBody s_idle) (C8.fnScope s_idle) .none kV_idle dc_idle pm_idle an_idle cd_idle ct_idle), sl_idle⟩) (c_idle : PySem.W.codeIn K cd_idle "idle" = true) (k_idle : PySem.W.keepIn K (.ref F_idle) = true)
    {oc_sure kV_sure dc_sure pm_sure cd_sure ct_sure : Value} {od_sure an_sure : Option Addr} {sl_sure : Array (Option Value)}
    (a_sure : PySem.W.nsIn K mainGlobals "sure" = some (some (.ref F_sure))) (l_sure : K.lookup F_sure = some ⟨oc_sure, od_sure, .func (PySem.W.fnOf "sure" "sure" (C8.fnArgs s_sure) (C8.fnBody s_sure) (C8.fnScope s_sure) .none kV_sure dc_sure pm_sure an_sure cd_sure ct_sure), sl_sure⟩) (c_sure : PySem.W.codeIn K cd_sure "sure" = true) (k_sure : PySem.W.keepIn K (.ref F_sure) = true)
    {oc_al kV_al dc_al pm_al cd_al ct_al : Value} {od_al an_al : Option Addr} {sl_al : Array (Option Value)}
    (a_al : PySem.W.nsIn K mainGlobals "_law_all_lots" = some (some (.ref F_al))) (l_al : K.lookup F_al = some ⟨oc_al, od_al, .func (PySem.W.fnOf "_law_all_lots" "_law_all_lots" (C8.fnArgs s_law_all_lots) (C8.fnBody s_law_all_lots) (C8.fnScope s_law_all_lots) .none kV_al dc_al pm_al an_al cd_al ct_al), sl_al⟩) (c_al : PySem.W.codeIn K cd_al "_law_all_lots" = true) (k_al : PySem.W.keepIn K (.ref F_al) = true)
    {oc_ref kV_ref dc_ref pm_ref  ct_ref : Value} {od_ref an_ref : Option Addr} {sl_ref : Array (Option Value)}
    (a_ref : PySem.W.nsIn K mainGlobals "_law_refused" = some (some (.ref F_ref))) (l_ref : K.lookup F_ref = some ⟨oc_ref, od_ref, .func (PySem.W.fnOf "_law_refused" "_law_refused" (C8.fnArgs s_law_refused) (C8.fnBody s_law_refused) (C8.fnScope s_law_refused) .none kV_ref dc_ref pm_ref an_ref (.ref C_ref) ct_ref), sl_ref⟩) (c_ref : PySem.W.codeIn K (.ref C_ref) "_law_refused" = true) (k_ref : PySem.W.keepIn K (.ref F_ref) = true)
    {oc_law kV_law dc_law pm_law cd_law ct_law : Value} {od_law an_law : Option Addr} {sl_law : Array (Option Value)}
    (a_law : PySem.W.nsIn K mainGlobals "law" = some (some (.ref F_law))) (l_law : K.lookup F_law = some ⟨oc_law, od_law, .func (PySem.W.fnOf "law" "law" (C8.fnArgs s_law) (C8.fnBody s_law) (C8.fnScope s_law) .none kV_law dc_law pm_law an_law cd_law ct_law), sl_law⟩) (c_law : PySem.W.codeIn K cd_law "law" = true) (k_law : PySem.W.keepIn K (.ref F_law) = true)
    {oo_tsk : Value} {oe_tsk : Option Addr} {vs_tsk : Array Value} {sm_tsk : Array (Option Value)} (o_tsk : K.lookup C_tsk = some ⟨oo_tsk, oe_tsk, .fields vs_tsk, sm_tsk⟩) (p_tsk : vs_tsk[11]? = some (.ref P_tsk)) (n_tsk : (K.lookup P_tsk).isNone = true)
    {oo_wsk : Value} {oe_wsk : Option Addr} {vs_wsk : Array Value} {sm_wsk : Array (Option Value)} (o_wsk : K.lookup C_wsk = some ⟨oo_wsk, oe_wsk, .fields vs_wsk, sm_wsk⟩) (p_wsk : vs_wsk[11]? = some (.ref P_wsk)) (n_wsk : (K.lookup P_wsk).isNone = true)
    {oo_ref : Value} {oe_ref : Option Addr} {vs_ref : Array Value} {sm_ref : Array (Option Value)} (o_ref : K.lookup C_ref = some ⟨oo_ref, oe_ref, .fields vs_ref, sm_ref⟩) (p_ref : vs_ref[11]? = some (.ref P_ref)) (n_ref : (K.lookup P_ref).isNone = true)
    (pn : decide [P_tsk, P_wsk, P_ref].Nodup = true)
    (z_abs : PySem.W.nsIn K mainGlobals "abs" = some none)
    (z_int : PySem.W.nsIn K mainGlobals "int" = some none)
    (z_len : PySem.W.nsIn K mainGlobals "len" = some none)
    (z_list : PySem.W.nsIn K mainGlobals "list" = some none)
    (z_tuple : PySem.W.nsIn K mainGlobals "tuple" = some none)
    (z_max : PySem.W.nsIn K mainGlobals "max" = some none)
    (z_range : PySem.W.nsIn K mainGlobals "range" = some none)
    (z_sorted : PySem.W.nsIn K mainGlobals "sorted" = some none)
    (z_set : PySem.W.nsIn K mainGlobals "set" = some none)
    (z_zip : PySem.W.nsIn K mainGlobals "zip" = some none)
    (z_enumerate : PySem.W.nsIn K mainGlobals "enumerate" = some none)
    (z_isinstance : PySem.W.nsIn K mainGlobals "isinstance" = some none)
    (z_bool : PySem.W.nsIn K mainGlobals "bool" = some none)
    (z_all : PySem.W.nsIn K mainGlobals "all" = some none)
    (z_repr : PySem.W.nsIn K mainGlobals "repr" = some none)
    (z_min : PySem.W.nsIn K mainGlobals "min" = some none)
    : ∃ (cs : List (Addr × Addr)) (fd : FuncData) (sp : L2.Sp), (∀ p ∈ cs, (∃ x ∈ (["_law_table_sketch", "_law_web_sketch", "_law_refused"] : List Str), PySem.W.tabIn K x = some p) ∧ K.lookup p.2 = none) ∧
      (∀ (s : Shared) (u : Value), BindsTo s fd ⟨[u], []⟩ [("script", u)]) ∧
      (∀ base : Heap, K.In base → base.Ns mainGlobals mg → (∀ p ∈ cs, LamX.TabB base mg p.1 p.2) → FnG l.prog w K mg base C8.CX0 10 fa fd ["script"] sp) ∧
      ∀ (H : Hp) (a : Addr) (ns : List Int), ns.length ≤ 63 → (∀ p ∈ cs, H p.2 = some (.tbl #[])) → SqL K H a (ns.map V.int) →
        (∀ b, H b = none ∨ (∃ ob xs, H b = some (.frz ob (.lst xs))) ∨ ((∃ p ∈ cs, p.2 = b) ∧ H b = some (.tbl #[]))) →
        sp [.ref a] H (fun v _ => v = .bl true) fun _ _ _ => False := by
  have e := hfa.symm.trans (PySem.W.mg_of X G a_law)
  cases e
  unfold bkB exB at bk
  simp only [Bool.and_eq_true, decide_eq_true_eq] at bk
  obtain ⟨⟨⟨⟨⟨⟨⟨⟨⟨b1, b2⟩, b3⟩, ⟨⟨⟨b4, b5⟩, b6⟩, b7⟩⟩, ⟨⟨b8, b9⟩, b10⟩⟩, ⟨⟨b11, b12⟩, b13⟩⟩, ⟨⟨⟨b16, b17⟩, b16'⟩, b17'⟩⟩, ⟨b18, b19⟩⟩, ⟨⟨⟨⟨⟨⟨⟨⟨e1, e2⟩, ⟨e3, e4⟩⟩, e5⟩, e6⟩, e7⟩, e8⟩, e9⟩, e10⟩⟩, ⟨⟨⟨⟨⟨⟨⟨g1, g2⟩, ⟨g3, g4⟩⟩, g5⟩, g6⟩, g7⟩, g8⟩, g9⟩⟩ := bk
  have bN : ∀ T ∈ (["NoneType", "bool", "int", "str", "list", "tuple", "dict"] : List String), PySem.W.kitOne K (.type T) (.ref cB) = some false := fun T hT => of_decide_eq_true (List.all_eq_true.mp b13 T hT)
  have pn' := of_decide_eq_true pn
  simp only [List.nodup_cons, List.mem_cons, List.not_mem_nil, or_false, not_or, not_false_eq_true, List.nodup_nil, and_true] at pn'
  obtain ⟨⟨p12, p13⟩, p23⟩ := pn'
  have B : Bw mg := ⟨PySem.W.mg_none_of X G z_abs, PySem.W.mg_none_of X G z_int, PySem.W.mg_none_of X G z_len, PySem.W.mg_none_of X G z_list, PySem.W.mg_none_of X G z_tuple, PySem.W.mg_none_of X G z_max, PySem.W.mg_none_of X G z_range, PySem.W.mg_none_of X G z_sorted, PySem.W.mg_none_of X G z_set, PySem.W.mg_none_of X G z_zip, PySem.W.mg_none_of X G z_enumerate⟩
  have Bx : Bx mg := ⟨PySem.W.mg_none_of X G z_isinstance, PySem.W.mg_none_of X G z_bool, PySem.W.mg_none_of X G z_all, PySem.W.mg_none_of X G z_repr, PySem.W.mg_none_of X G z_min⟩
  have C : BkC K mg cB FI := ⟨PySem.W.mg_of X G aB, ⟨b1, iI, b2, b3⟩, ⟨b4, b5, b6, b7⟩, b8, b9, b10⟩
  have TK : BkT K cB := ⟨b11, b18, b19, b12, bN "tuple" (by decide)⟩
  have BN : BkN K cB := ⟨bN⟩
  have oE : OexC K cE := ⟨⟨_, _, _, _, _, _, _, _, _, _, _, _, _, _, _, xL, xr⟩, e8, e3, e9, e7⟩
  have xE : XfC K cE := ⟨e1, e2, e3, e4⟩
  have eE : ExcC K cE := ⟨e1, e2, e3, e4, e5, b18, b19, e6⟩
  have eL : ExcC K cL := ⟨g1, g2, g3, g4, g5, b18, b19, g6⟩
  have Kt : Kt2 K mg (T2 cE cL) cE cL cF := ⟨fun n => by
    unfold T2
    by_cases h : n = 4
    · rw [if_pos h]; exact .inr rfl
    · rw [if_neg h]; exact .inl rfl, PySem.W.mg_of X G aF, b16, b16', b17, b17', eE, eL⟩
  have FI_ : C8.Fun K "__init__" "Book.__init__" s_binit FI _ := ⟨⟨_, _, _, _, _, _, _, _, _, _, rfl, lI, cI_⟩⟩
  have bI_ := FI_.binds rfl (ps := ["self", "size", "bases"]) fun _ _ _ _ _ _ us hl => match us, hl with | [_, _, _], _ => rfl
  have FE_ : C8.Fun K "__init__" "BadBook.__init__" s_bad FE _ := ⟨⟨_, _, _, _, _, _, _, _, _, _, rfl, lE, cE_⟩⟩
  have bE_ := FE_.binds rfl (ps := ["self", "part"]) fun _ _ _ _ _ _ us hl => match us, hl with | [_, _], _ => rfl
  have D_num : C8.Def K mg "is_number" s_is_number F_num _ := ⟨⟨⟨_, _, _, _, _, _, _, _, _, _, rfl, l_num, c_num⟩⟩, PySem.W.mg_of X G a_num, k_num⟩
  have b_num := D_num.fn.binds rfl (ps := ["thing"]) fun _ _ _ _ _ _ us hl => match us, hl with | [_], _ => rfl
  have D_nwi : C8.Def K mg "is_number_within" s_is_number_within F_nwi _ := ⟨⟨⟨_, _, _, _, _, _, _, _, _, _, rfl, l_nwi, c_nwi⟩⟩, PySem.W.mg_of X G a_nwi, k_nwi⟩
  have b_nwi := D_nwi.fn.binds rfl (ps := ["thing", "least", "most"]) fun _ _ _ _ _ _ us hl => match us, hl with | [_, _, _], _ => rfl
  have D_isl : C8.Def K mg "is_list" s_is_list F_isl _ := ⟨⟨⟨_, _, _, _, _, _, _, _, _, _, rfl, l_isl, c_isl⟩⟩, PySem.W.mg_of X G a_isl, k_isl⟩
  have b_isl := D_isl.fn.binds rfl (ps := ["thing"]) fun _ _ _ _ _ _ us hl => match us, hl with | [_], _ => rfl
  have D_islot : C8.Def K mg "is_lot" s_is_lot F_islot _ := ⟨⟨⟨_, _, _, _, _, _, _, _, _, _, rfl, l_islot, c_islot⟩⟩, PySem.W.mg_of X G a_islot, k_islot⟩
  have b_islot := D_islot.fn.binds rfl (ps := ["thing", "size"]) fun _ _ _ _ _ _ us hl => match us, hl with | [_, _], _ => rfl
  have D_mask : C8.Def K mg "mask_of" s_mask_of F_mask _ := ⟨⟨⟨_, _, _, _, _, _, _, _, _, _, rfl, l_mask, c_mask⟩⟩, PySem.W.mg_of X G a_mask, k_mask⟩
  have b_mask := D_mask.fn.binds rfl (ps := ["lot"]) fun _ _ _ _ _ _ us hl => match us, hl with | [_], _ => rfl
  have D_bits : C8.Def K mg "bits_of" s_bits_of F_bits _ := ⟨⟨⟨_, _, _, _, _, _, _, _, _, _, rfl, l_bits, c_bits⟩⟩, PySem.W.mg_of X G a_bits, k_bits⟩
  have b_bits := D_bits.fn.binds rfl (ps := ["mask"]) fun _ _ _ _ _ _ us hl => match us, hl with | [_], _ => rfl
  have D_need : C8.Def K mg "need_size" s_need_size F_need _ := ⟨⟨⟨_, _, _, _, _, _, _, _, _, _, rfl, l_need, c_need⟩⟩, PySem.W.mg_of X G a_need, k_need⟩
  have b_need := D_need.fn.binds rfl (ps := ["size"]) fun _ _ _ _ _ _ us hl => match us, hl with | [_], _ => rfl
  have D_arel : C8.Def K mg "_are_lots_of_one_length" s_are_lots_of_one_length F_arel _ := ⟨⟨⟨_, _, _, _, _, _, _, _, _, _, rfl, l_arel, c_arel⟩⟩, PySem.W.mg_of X G a_arel, k_arel⟩
  have b_arel := D_arel.fn.binds rfl (ps := ["size", "bases"]) fun _ _ _ _ _ _ us hl => match us, hl with | [_, _], _ => rfl
  have D_exch : C8.Def K mg "are_exchanged" s_are_exchanged F_exch _ := ⟨⟨⟨_, _, _, _, _, _, _, _, _, _, rfl, l_exch, c_exch⟩⟩, PySem.W.mg_of X G a_exch, k_exch⟩
  have b_exch := D_exch.fn.binds rfl (ps := ["size", "masks"]) fun _ _ _ _ _ _ us hl => match us, hl with | [_, _], _ => rfl
  have D_swaps : C8.Def K mg "_swaps" s_swaps F_swaps _ := ⟨⟨⟨_, _, _, _, _, _, _, _, _, _, rfl, l_swaps, c_swaps⟩⟩, PySem.W.mg_of X G a_swaps, k_swaps⟩
  have b_swaps := D_swaps.fn.binds rfl (ps := ["size", "known", "mask", "bit"]) fun _ _ _ _ _ _ us hl => match us, hl with | [_, _, _, _], _ => rfl
  have D_begun : C8.Def K mg "_law_begun" Fr.s_law_begun F_begun _ := ⟨⟨⟨_, _, _, _, _, _, _, _, _, _, rfl, l_begun, c_begun⟩⟩, PySem.W.mg_of X G a_begun, k_begun⟩
  have b_begun := D_begun.fn.binds rfl (ps := ["script"]) fun _ _ _ _ _ _ us hl => match us, hl with | [_], _ => rfl
  have D_mixed : C8.Def K mg "_law_mixed" Fr.s_law_mixed F_mixed _ := ⟨⟨⟨_, _, _, _, _, _, _, _, _, _, rfl, l_mixed, c_mixed⟩⟩, PySem.W.mg_of X G a_mixed, k_mixed⟩
  have b_mixed := D_mixed.fn.binds rfl (ps := ["draw"]) fun _ _ _ _ _ _ us hl => match us, hl with | [_], _ => rfl
  have D_take : C8.Def K mg "_law_take" Fr.s_law_take F_take _ := ⟨⟨⟨_, _, _, _, _, _, _, _, _, _, rfl, l_take, c_take⟩⟩, PySem.W.mg_of X G a_take, k_take⟩
  have b_take := D_take.fn.binds rfl (ps := ["draw", "amount"]) fun _ _ _ _ _ _ us hl => match us, hl with | [_, _], _ => rfl
  have D_pick : C8.Def K mg "_law_pick" Fr.s_law_pick F_pick _ := ⟨⟨⟨_, _, _, _, _, _, _, _, _, _, rfl, l_pick, c_pick⟩⟩, PySem.W.mg_of X G a_pick, k_pick⟩
  have b_pick := D_pick.fn.binds rfl (ps := ["draw", "some"]) fun _ _ _ _ _ _ us hl => match us, hl with | [_, _], _ => rfl
  have D_shuf : C8.Def K mg "_law_shuffled" s_law_shuffled F_shuf _ := ⟨⟨⟨_, _, _, _, _, _, _, _, _, _, rfl, l_shuf, c_shuf⟩⟩, PySem.W.mg_of X G a_shuf, k_shuf⟩
  have b_shuf := D_shuf.fn.binds rfl (ps := ["draw", "some"]) fun _ _ _ _ _ _ us hl => match us, hl with | [_, _], _ => rfl
  have D_und : C8.Def K mg "_law_undone" s_law_undone F_und _ := ⟨⟨⟨_, _, _, _, _, _, _, _, _, _, rfl, l_und, c_und⟩⟩, PySem.W.mg_of X G a_und, k_und⟩
  have b_und := D_und.fn.binds rfl (ps := ["field", "number"]) fun _ _ _ _ _ _ us hl => match us, hl with | [_, _], _ => rfl
  have D_cau : C8.Def K mg "_law_caught" s_law_caught F_cau _ := ⟨⟨⟨_, _, _, _, _, _, _, _, _, _, rfl, l_cau, c_cau⟩⟩, PySem.W.mg_of X G a_cau, k_cau⟩
  have b_cau := D_cau.fn.binds rfl (ps := ["work"]) fun _ _ _ _ _ _ us hl => match us, hl with | [_], _ => rfl
  have D_lots : C8.Def K mg "_law_lots" s_law_lots F_lots _ := ⟨⟨⟨_, _, _, _, _, _, _, _, _, _, rfl, l_lots, c_lots⟩⟩, PySem.W.mg_of X G a_lots, k_lots⟩
  have b_lots := D_lots.fn.binds rfl (ps := ["things_here", "length"]) fun _ _ _ _ _ _ us hl => match us, hl with | [_, _], _ => rfl
  have D_wit : C8.Def K mg "_law_with" s_law_with F_wit _ := ⟨⟨⟨_, _, _, _, _, _, _, _, _, _, rfl, l_wit, c_wit⟩⟩, PySem.W.mg_of X G a_wit, k_wit⟩
  have b_wit := D_wit.fn.binds rfl (ps := ["lot", "other"]) fun _ _ _ _ _ _ us hl => match us, hl with | [_, _], _ => rfl
  have D_less : C8.Def K mg "_law_less" s_law_less F_less _ := ⟨⟨⟨_, _, _, _, _, _, _, _, _, _, rfl, l_less, c_less⟩⟩, PySem.W.mg_of X G a_less, k_less⟩
  have b_less := D_less.fn.binds rfl (ps := ["lot", "other"]) fun _ _ _ _ _ _ us hl => match us, hl with | [_, _], _ => rfl
  have D_sh : C8.Def K mg "_law_shared" s_law_shared F_sh _ := ⟨⟨⟨_, _, _, _, _, _, _, _, _, _, rfl, l_sh, c_sh⟩⟩, PySem.W.mg_of X G a_sh, k_sh⟩
  have b_sh := D_sh.fn.binds rfl (ps := ["lot", "other"]) fun _ _ _ _ _ _ us hl => match us, hl with | [_, _], _ => rfl
  have D_rin : C8.Def K mg "_law_rank_in" s_law_rank_in F_rin _ := ⟨⟨⟨_, _, _, _, _, _, _, _, _, _, rfl, l_rin, c_rin⟩⟩, PySem.W.mg_of X G a_rin, k_rin⟩
  have b_rin := D_rin.fn.binds rfl (ps := ["bases_here", "lot"]) fun _ _ _ _ _ _ us hl => match us, hl with | [_, _], _ => rfl
  have D_clo : C8.Def K mg "_law_closure_in" s_law_closure_in F_clo _ := ⟨⟨⟨_, _, _, _, _, _, _, _, _, _, rfl, l_clo, c_clo⟩⟩, PySem.W.mg_of X G a_clo, k_clo⟩
  have b_clo := D_clo.fn.binds rfl (ps := ["sketch", "lot"]) fun _ _ _ _ _ _ us hl => match us, hl with | [_, _], _ => rfl
  have D_rr : C8.Def K mg "_law_row_rank" s_law_row_rank F_rr _ := ⟨⟨⟨_, _, _, _, _, _, _, _, _, _, rfl, l_rr, c_rr⟩⟩, PySem.W.mg_of X G a_rr, k_rr⟩
  have b_rr := D_rr.fn.binds rfl (ps := ["field", "rows"]) fun _ _ _ _ _ _ us hl => match us, hl with | [_, _], _ => rfl
  have D_lon : C8.Def K mg "_law_longest" s_law_longest F_lon _ := ⟨⟨⟨_, _, _, _, _, _, _, _, _, _, rfl, l_lon, c_lon⟩⟩, PySem.W.mg_of X G a_lon, k_lon⟩
  have b_lon := D_lon.fn.binds rfl (ps := ["size", "is_free_here"]) fun _ _ _ _ _ _ us hl => match us, hl with | [_, _], _ => rfl
  have D_tsk : C8.Def K mg "_law_table_sketch" s_law_table_sketch F_tsk _ := ⟨⟨⟨_, _, _, _, _, _, _, _, _, _, rfl, l_tsk, c_tsk⟩⟩, PySem.W.mg_of X G a_tsk, k_tsk⟩
  have b_tsk := D_tsk.fn.binds rfl (ps := ["field", "rows"]) fun _ _ _ _ _ _ us hl => match us, hl with | [_, _], _ => rfl
  have D_pie : C8.Def K mg "_law_web_pieces" s_law_web_pieces F_pie _ := ⟨⟨⟨_, _, _, _, _, _, _, _, _, _, rfl, l_pie, c_pie⟩⟩, PySem.W.mg_of X G a_pie, k_pie⟩
  have b_pie := D_pie.fn.binds rfl (ps := ["places_here", "ties"]) fun _ _ _ _ _ _ us hl => match us, hl with | [_, _], _ => rfl
  have D_wsk : C8.Def K mg "_law_web_sketch" s_law_web_sketch F_wsk _ := ⟨⟨⟨_, _, _, _, _, _, _, _, _, _, rfl, l_wsk, c_wsk⟩⟩, PySem.W.mg_of X G a_wsk, k_wsk⟩
  have b_wsk := D_wsk.fn.binds rfl (ps := ["places_here", "ties"]) fun _ _ _ _ _ _ us hl => match us, hl with | [_, _], _ => rfl
  have D_rows : C8.Def K mg "_law_rows" s_law_rows F_rows _ := ⟨⟨⟨_, _, _, _, _, _, _, _, _, _, rfl, l_rows, c_rows⟩⟩, PySem.W.mg_of X G a_rows, k_rows⟩
  have b_rows := D_rows.fn.binds rfl (ps := ["draw", "field", "many", "width"]) fun _ _ _ _ _ _ us hl => match us, hl with | [_, _, _, _], _ => rfl
  have D_ties : C8.Def K mg "_law_ties" s_law_ties F_ties _ := ⟨⟨⟨_, _, _, _, _, _, _, _, _, _, rfl, l_ties, c_ties⟩⟩, PySem.W.mg_of X G a_ties, k_ties⟩
  have b_ties := D_ties.fn.binds rfl (ps := ["draw", "places_here", "many"]) fun _ _ _ _ _ _ us hl => match us, hl with | [_, _, _], _ => rfl
  have D_free : C8.Def K mg "_law_can_be_freer" s_law_can_be_freer F_free _ := ⟨⟨⟨_, _, _, _, _, _, _, _, _, _, rfl, l_free, c_free⟩⟩, PySem.W.mg_of X G a_free, k_free⟩
  have b_free := D_free.fn.binds rfl (ps := ["sketch"]) fun _ _ _ _ _ _ us hl => match us, hl with | [_], _ => rfl
  have D_dra : C8.Def K mg "_law_drawn_sketch" s_law_drawn_sketch F_dra _ := ⟨⟨⟨_, _, _, _, _, _, _, _, _, _, rfl, l_dra, c_dra⟩⟩, PySem.W.mg_of X G a_dra, k_dra⟩
  have b_dra := D_dra.fn.binds rfl (ps := ["draw", "size"]) fun _ _ _ _ _ _ us hl => match us, hl with | [_, _], _ => rfl
  have D_ske : C8.Def K mg "_law_sketch" s_law_sketch F_ske _ := ⟨⟨⟨_, _, _, _, _, _, _, _, _, _, rfl, l_ske, c_ske⟩⟩, PySem.W.mg_of X G a_ske, k_ske⟩
  have b_ske := D_ske.fn.binds rfl (ps := ["draw", "most"]) fun _ _ _ _ _ _ us hl => match us, hl with | [_, _], _ => rfl
  have D_made : C8.Def K mg "_law_made" s_law_made F_made _ := ⟨⟨⟨_, _, _, _, _, _, _, _, _, _, rfl, l_made, c_made⟩⟩, PySem.W.mg_of X G a_made, k_made⟩
  have b_made := D_made.fn.binds rfl (ps := ["draw", "sketch"]) fun _ _ _ _ _ _ us hl => match us, hl with | [_, _], _ => rfl
  have D_lotof : C8.Def K mg "lot_of" s_lot_of F_lotof _ := ⟨⟨⟨_, _, _, _, _, _, _, _, _, _, rfl, l_lotof, c_lotof⟩⟩, PySem.W.mg_of X G a_lotof, k_lotof⟩
  have b_lotof := D_lotof.fn.binds rfl (ps := ["mask"]) fun _ _ _ _ _ _ us hl => match us, hl with | [_], _ => rfl
  have D_ftab : C8.Def K mg "free_table" s_free_table F_ftab _ := ⟨⟨⟨_, _, _, _, _, _, _, _, _, _, rfl, l_ftab, c_ftab⟩⟩, PySem.W.mg_of X G a_ftab, k_ftab⟩
  have b_ftab := D_ftab.fn.binds rfl (ps := ["book"]) fun _ _ _ _ _ _ us hl => match us, hl with | [_], _ => rfl
  have D_rtab : C8.Def K mg "rank_table" s_rank_table F_rtab _ := ⟨⟨⟨_, _, _, _, _, _, _, _, _, _, rfl, l_rtab, c_rtab⟩⟩, PySem.W.mg_of X G a_rtab, k_rtab⟩
  have b_rtab := D_rtab.fn.binds rfl (ps := ["book"]) fun _ _ _ _ _ _ us hl => match us, hl with | [_], _ => rfl
  have D_cof : C8.Def K mg "closure_of" s_closure_of F_cof _ := ⟨⟨⟨_, _, _, _, _, _, _, _, _, _, rfl, l_cof, c_cof⟩⟩, PySem.W.mg_of X G a_cof, k_cof⟩
  have b_cof := D_cof.fn.binds rfl (ps := ["ranks", "mask"]) fun _ _ _ _ _ _ us hl => match us, hl with | [_, _], _ => rfl
  have D_nbook : C8.Def K mg "need_book" s_need_book F_nbook _ := ⟨⟨⟨_, _, _, _, _, _, _, _, _, _, rfl, l_nbook, c_nbook⟩⟩, PySem.W.mg_of X G a_nbook, k_nbook⟩
  have b_nbook := D_nbook.fn.binds rfl (ps := ["book"]) fun _ _ _ _ _ _ us hl => match us, hl with | [_], _ => rfl
  have D_nlot : C8.Def K mg "need_lot" s_need_lot F_nlot _ := ⟨⟨⟨_, _, _, _, _, _, _, _, _, _, rfl, l_nlot, c_nlot⟩⟩, PySem.W.mg_of X G a_nlot, k_nlot⟩
  have b_nlot := D_nlot.fn.binds rfl (ps := ["book", "lot"]) fun _ _ _ _ _ _ us hl => match us, hl with | [_, _], _ => rfl
  have D_uses : C8.Def K mg "_uses" s_uses F_uses _ := ⟨⟨⟨_, _, _, _, _, _, _, _, _, _, rfl, l_uses, c_uses⟩⟩, PySem.W.mg_of X G a_uses, k_uses⟩
  have b_uses := D_uses.fn.binds rfl (ps := ["book", "thing"]) fun _ _ _ _ _ _ us hl => match us, hl with | [_, _], _ => rfl
  have D_rank : C8.Def K mg "rank" s_rank F_rank _ := ⟨⟨⟨_, _, _, _, _, _, _, _, _, _, rfl, l_rank, c_rank⟩⟩, PySem.W.mg_of X G a_rank, k_rank⟩
  have b_rank := D_rank.fn.binds rfl (ps := ["book", "lot"]) fun _ _ _ _ _ _ us hl => match us, hl with | [_, _], _ => rfl
  have D_clos : C8.Def K mg "closure" s_closure F_clos _ := ⟨⟨⟨_, _, _, _, _, _, _, _, _, _, rfl, l_clos, c_clos⟩⟩, PySem.W.mg_of X G a_clos, k_clos⟩
  have b_clos := D_clos.fn.binds rfl (ps := ["book", "lot"]) fun _ _ _ _ _ _ us hl => match us, hl with | [_, _], _ => rfl
  have D_fl : C8.Def K mg "free_lots" s_free_lots F_fl _ := ⟨⟨⟨_, _, _, _, _, _, _, _, _, _, rfl, l_fl, c_fl⟩⟩, PySem.W.mg_of X G a_fl, k_fl⟩
  have b_fl := D_fl.fn.binds rfl (ps := ["book"]) fun _ _ _ _ _ _ us hl => match us, hl with | [_], _ => rfl
  have D_idle : C8.Def K mg "idle" s_idle F_idle _ := ⟨⟨⟨_, _, _, _, _, _, _, _, _, _, rfl, l_idle, c_idle⟩⟩, PySem.W.mg_of X G a_idle, k_idle⟩
  have b_idle := D_idle.fn.binds rfl (ps := ["book"]) fun _ _ _ _ _ _ us hl => match us, hl with | [_], _ => rfl
  have D_sure : C8.Def K mg "sure" s_sure F_sure _ := ⟨⟨⟨_, _, _, _, _, _, _, _, _, _, rfl, l_sure, c_sure⟩⟩, PySem.W.mg_of X G a_sure, k_sure⟩
  have b_sure := D_sure.fn.binds rfl (ps := ["book"]) fun _ _ _ _ _ _ us hl => match us, hl with | [_], _ => rfl
  have D_al : C8.Def K mg "_law_all_lots" s_law_all_lots F_al _ := ⟨⟨⟨_, _, _, _, _, _, _, _, _, _, rfl, l_al, c_al⟩⟩, PySem.W.mg_of X G a_al, k_al⟩
  have b_al := D_al.fn.binds rfl (ps := ["things_here"]) fun _ _ _ _ _ _ us hl => match us, hl with | [_], _ => rfl
  have D_ref : C8.Def K mg "_law_refused" s_law_refused F_ref _ := ⟨⟨⟨_, _, _, _, _, _, _, _, _, _, rfl, l_ref, c_ref⟩⟩, PySem.W.mg_of X G a_ref, k_ref⟩
  have b_ref := D_ref.fn.binds rfl (ps := ["draw", "book"]) fun _ _ _ _ _ _ us hl => match us, hl with | [_, _], _ => rfl
  have D_law : C8.Def K mg "law" s_law fa _ := ⟨⟨⟨_, _, _, _, _, _, _, _, _, _, rfl, l_law, c_law⟩⟩, PySem.W.mg_of X G a_law, k_law⟩
  obtain ⟨T, hT⟩ : ∃ T : List (Addr × Str), T = [(P_tsk, ("_law_table_sketch.<locals>.<lambda>" : Str)), (P_wsk, ("_law_web_sketch.<locals>.<lambda>" : Str)), (P_ref, ("_law_refused.<locals>.<lambda>" : Str))] := ⟨_, rfl⟩
  refine ⟨[(C_tsk, P_tsk), (C_wsk, P_wsk), (C_ref, P_ref)], PySem.W.fnOf "law" "law" (C8.fnArgs s_law) (C8.fnBody s_law) (C8.fnScope s_law) .none kV_law dc_law pm_law an_law cd_law ct_law, spLaw (LyC K cB cE cL) T, ?_, fun s u => .of_eq rfl, fun base _ _ tb => ?_, fun H a ns hl ht hs _ => law_at ?_ ?_ hl ht hs⟩
  · intro p hp
    simp only [List.mem_cons, List.not_mem_nil, or_false] at hp
    rcases hp with rfl | rfl | rfl
    · exact ⟨⟨"_law_table_sketch", by simp, tab_in a_tsk l_tsk rfl o_tsk p_tsk⟩, Option.isNone_iff_eq_none.mp n_tsk⟩
    · exact ⟨⟨"_law_web_sketch", by simp, tab_in a_wsk l_wsk rfl o_wsk p_wsk⟩, Option.isNone_iff_eq_none.mp n_wsk⟩
    · exact ⟨⟨"_law_refused", by simp, tab_in a_ref l_ref rfl o_ref p_ref⟩, Option.isNone_iff_eq_none.mp n_ref⟩
  · have t_tsk : TabIn base mg (Value.ref C_tsk) "_law_table_sketch.<locals>.<lambda>" T := ⟨C_tsk, P_tsk, tb (C_tsk, P_tsk) (by simp), rfl, by rw [hT]; simp, fun p hp e => by
      rw [hT] at hp
      simp only [List.mem_cons, List.not_mem_nil, or_false] at hp
      rcases hp with rfl | rfl | rfl
      · rfl
      · exact absurd e.symm p12
      · exact absurd e.symm p13⟩
    have t_wsk : TabIn base mg (Value.ref C_wsk) "_law_web_sketch.<locals>.<lambda>" T := ⟨C_wsk, P_wsk, tb (C_wsk, P_wsk) (by simp), rfl, by rw [hT]; simp, fun p hp e => by
      rw [hT] at hp
      simp only [List.mem_cons, List.not_mem_nil, or_false] at hp
      rcases hp with rfl | rfl | rfl
      · exact absurd e p12
      · rfl
      · exact absurd e.symm p23⟩
    have t_ref : TabIn base mg (Value.ref C_ref) "_law_refused.<locals>.<lambda>" T := ⟨C_ref, P_ref, tb (C_ref, P_ref) (by simp), rfl, by rw [hT]; simp, fun p hp e => by
      rw [hT] at hp
      simp only [List.mem_cons, List.not_mem_nil, or_false] at hp
      rcases hp with rfl | rfl | rfl
      · exact absurd e p13
      · exact absurd e p23
      · rfl⟩
    exact ok_all D_num b_num D_nwi b_nwi D_isl b_isl D_islot b_islot D_mask b_mask D_bits b_bits D_need b_need D_arel b_arel D_exch b_exch D_swaps b_swaps D_begun b_begun D_mixed b_mixed D_take b_take D_pick b_pick D_shuf b_shuf D_und b_und D_cau b_cau D_lots b_lots D_wit b_wit D_less b_less D_sh b_sh D_rin b_rin D_clo b_clo D_rr b_rr D_lon b_lon D_tsk b_tsk D_pie b_pie D_wsk b_wsk D_rows b_rows D_ties b_ties D_free b_free D_dra b_dra D_ske b_ske D_made b_made D_lotof b_lotof D_ftab b_ftab D_rtab b_rtab D_cof b_cof D_nbook b_nbook D_nlot b_nlot D_uses b_uses D_rank b_rank D_clos b_clos D_fl b_fl D_idle b_idle D_sure b_sure D_al b_al D_ref b_ref (fun _ _ _ _ => .of_eq rfl) (fun _ _ _ _ => .of_eq rfl) (fun _ _ _ => .of_eq rfl) (fun _ _ _ => .of_eq rfl) (fun _ _ _ => .of_eq rfl) D_law.fn FI_ bI_ FE_ bE_ iE tE (PySem.W.mg_of X G aE) oE xE eE e10 (PySem.W.mg_of X G aL) g7 g8 g3 g9 B Bx (PySem.W.mg_of X G aM) C TK BN Kt t_tsk t_wsk t_ref
  · intro p hp
    rw [hT] at hp
    simp only [List.mem_cons, List.not_mem_nil, or_false] at hp
    rcases hp with rfl | rfl | rfl
    · exact ⟨(C_tsk, P_tsk), by simp, rfl⟩
    · exact ⟨(C_wsk, P_wsk), by simp, rfl⟩
    · exact ⟨(C_ref, P_ref), by simp, rfl⟩
  · intro p hp
    simp only [List.mem_cons, List.not_mem_nil, or_false] at hp
    rcases hp with rfl | rfl | rfl
    · exact ⟨(P_tsk, ("_law_table_sketch.<locals>.<lambda>" : Str)), by rw [hT]; simp, rfl⟩
    · exact ⟨(P_wsk, ("_law_web_sketch.<locals>.<lambda>" : Str)), by rw [hT]; simp, rfl⟩
    · exact ⟨(P_ref, ("_law_refused.<locals>.<lambda>" : Str)), by rw [hT]; simp, rfl⟩
end Fv
open PySem PySem.W PyProof.Rows
set_option maxRecDepth 100000 in
set_option maxHeartbeats 0 in
theorem PySem.Challenge.cw_flatrooms_k02_ranks_and_closures_holds : PySem.Challenge.rw_flatrooms_k02_ranks_and_closures.Holds := by
  w_on; o_law; k_head; (case hw => w_witness2)
  k_fill
  refine Fw.walkT (l := PySem.Challenge.rw_flatrooms_k02_ranks_and_closures) (n := 63) (k := 10) (x := "script") (xs := ["_law_table_sketch", "_law_web_sketch", "_law_refused"]) rfl (by decide) rfl ⟨rfl, by decide, by decide⟩ (fun w h Y => Y.1) (by kernel_rfl) ?F
  case F =>
    intro w mg fa h KX G hmg
    refine' Fv.all_mk02 KX G hmg ?aB ?aE ?aL ?aF ?aM ?iI ?lI ?cI_ ?iE ?lE ?cE_ ?tE ?xL ?xr ?bk ?a_num ?l_num ?c_num ?k_num ?a_nwi ?l_nwi ?c_nwi ?k_nwi ?a_isl ?l_isl ?c_isl ?k_isl ?a_islot ?l_islot ?c_islot ?k_islot ?a_mask ?l_mask ?c_mask ?k_mask ?a_bits ?l_bits ?c_bits ?k_bits ?a_need ?l_need ?c_need ?k_need ?a_arel ?l_arel ?c_arel ?k_arel ?a_exch ?l_exch ?c_exch ?k_exch ?a_swaps ?l_swaps ?c_swaps ?k_swaps ?a_begun ?l_begun ?c_begun ?k_begun ?a_mixed ?l_mixed ?c_mixed ?k_mixed ?a_take ?l_take ?c_take ?k_take ?a_pick ?l_pick ?c_pick ?k_pick ?a_shuf ?l_shuf ?c_shuf ?k_shuf ?a_und ?l_und ?c_und ?k_und ?a_cau ?l_cau ?c_cau ?k_cau ?a_lots ?l_lots ?c_lots ?k_lots ?a_wit ?l_wit ?c_wit ?k_wit ?a_less ?l_less ?c_less ?k_less ?a_sh ?l_sh ?c_sh ?k_sh ?a_rin ?l_rin ?c_rin ?k_rin ?a_clo ?l_clo ?c_clo ?k_clo ?a_rr ?l_rr ?c_rr ?k_rr ?a_lon ?l_lon ?c_lon ?k_lon ?a_tsk ?l_tsk ?c_tsk ?k_tsk ?a_pie ?l_pie ?c_pie ?k_pie ?a_wsk ?l_wsk ?c_wsk ?k_wsk ?a_rows ?l_rows ?c_rows ?k_rows ?a_ties ?l_ties ?c_ties ?k_ties ?a_free ?l_free ?c_free ?k_free ?a_dra ?l_dra ?c_dra ?k_dra ?a_ske ?l_ske ?c_ske ?k_ske ?a_made ?l_made ?c_made ?k_made ?a_lotof ?l_lotof ?c_lotof ?k_lotof ?a_ftab ?l_ftab ?c_ftab ?k_ftab ?a_rtab ?l_rtab ?c_rtab ?k_rtab ?a_cof ?l_cof ?c_cof ?k_cof ?a_nbook ?l_nbook ?c_nbook ?k_nbook ?a_nlot ?l_nlot ?c_nlot ?k_nlot ?a_uses ?l_uses ?c_uses ?k_uses ?a_rank ?l_rank ?c_rank ?k_rank ?a_clos ?l_clos ?c_clos ?k_clos ?a_fl ?l_fl ?c_fl ?k_fl ?a_idle ?l_idle ?c_idle ?k_idle ?a_sure ?l_sure ?c_sure ?k_sure ?a_al ?l_al ?c_al ?k_al ?a_ref ?l_ref ?c_ref ?k_ref ?a_law ?l_law ?c_law ?k_law ?o_tsk ?p_tsk ?n_tsk ?o_wsk ?p_wsk ?n_wsk ?o_ref ?p_ref ?n_ref ?pn ?z_abs ?z_int ?z_len ?z_list ?z_tuple ?z_max ?z_range ?z_sorted ?z_set ?z_zip ?z_enumerate ?z_isinstance ?z_bool ?z_all ?z_repr ?z_min
    (case aB => k_is)
    (case aE => k_is)
    (case aL => k_is)
    (case aF => k_is)
    (case aM => k_is)
    (case iI => k_is)
    (case lI => k_is)
    (case cI_ => k_is)
    (case iE => k_is)
    (case lE => k_is)
    (case cE_ => k_is)
    (case tE => k_is)
    (case xL => k_is)
    (case xr => rfl)
    (case bk => kernel_rfl)
    (case a_num => k_is)
    (case l_num => k_is)
    (case c_num => k_is)
    (case k_num => k_is)
    (case a_nwi => k_is)
    (case l_nwi => k_is)
    (case c_nwi => k_is)
    (case k_nwi => k_is)
    (case a_isl => k_is)
    (case l_isl => k_is)
    (case c_isl => k_is)
    (case k_isl => k_is)
    (case a_islot => k_is)
    (case l_islot => k_is)
    (case c_islot => k_is)
    (case k_islot => k_is)
    (case a_mask => k_is)
    (case l_mask => k_is)
    (case c_mask => k_is)
    (case k_mask => k_is)
    (case a_bits => k_is)
    (case l_bits => k_is)
    (case c_bits => k_is)
    (case k_bits => k_is)
    (case a_need => k_is)
    (case l_need => k_is)
    (case c_need => k_is)
    (case k_need => k_is)
    (case a_arel => k_is)
    (case l_arel => k_is)
    (case c_arel => k_is)
    (case k_arel => k_is)
    (case a_exch => k_is)
    (case l_exch => k_is)
    (case c_exch => k_is)
    (case k_exch => k_is)
    (case a_swaps => k_is)
    (case l_swaps => k_is)
    (case c_swaps => k_is)
    (case k_swaps => k_is)
    (case a_begun => k_is)
    (case l_begun => k_is)
    (case c_begun => k_is)
    (case k_begun => k_is)
    (case a_mixed => k_is)
    (case l_mixed => k_is)
    (case c_mixed => k_is)
    (case k_mixed => k_is)
    (case a_take => k_is)
    (case l_take => k_is)
    (case c_take => k_is)
    (case k_take => k_is)
    (case a_pick => k_is)
    (case l_pick => k_is)
    (case c_pick => k_is)
    (case k_pick => k_is)
    (case a_shuf => k_is)
    (case l_shuf => k_is)
    (case c_shuf => k_is)
    (case k_shuf => k_is)
    (case a_und => k_is)
    (case l_und => k_is)
    (case c_und => k_is)
    (case k_und => k_is)
    (case a_cau => k_is)
    (case l_cau => k_is)
    (case c_cau => k_is)
    (case k_cau => k_is)
    (case a_lots => k_is)
    (case l_lots => k_is)
    (case c_lots => k_is)
    (case k_lots => k_is)
    (case a_wit => k_is)
    (case l_wit => k_is)
    (case c_wit => k_is)
    (case k_wit => k_is)
    (case a_less => k_is)
    (case l_less => k_is)
    (case c_less => k_is)
    (case k_less => k_is)
    (case a_sh => k_is)
    (case l_sh => k_is)
    (case c_sh => k_is)
    (case k_sh => k_is)
    (case a_rin => k_is)
    (case l_rin => k_is)
    (case c_rin => k_is)
    (case k_rin => k_is)
    (case a_clo => k_is)
    (case l_clo => k_is)
    (case c_clo => k_is)
    (case k_clo => k_is)
    (case a_rr => k_is)
    (case l_rr => k_is)
    (case c_rr => k_is)
    (case k_rr => k_is)
    (case a_lon => k_is)
    (case l_lon => k_is)
    (case c_lon => k_is)
    (case k_lon => k_is)
    (case a_tsk => k_is)
    (case l_tsk => k_is)
    (case c_tsk => k_is)
    (case k_tsk => k_is)
    (case a_pie => k_is)
    (case l_pie => k_is)
    (case c_pie => k_is)
    (case k_pie => k_is)
    (case a_wsk => k_is)
    (case l_wsk => k_is)
    (case c_wsk => k_is)
    (case k_wsk => k_is)
    (case a_rows => k_is)
    (case l_rows => k_is)
    (case c_rows => k_is)
    (case k_rows => k_is)
    (case a_ties => k_is)
    (case l_ties => k_is)
    (case c_ties => k_is)
    (case k_ties => k_is)
    (case a_free => k_is)
    (case l_free => k_is)
    (case c_free => k_is)
    (case k_free => k_is)
    (case a_dra => k_is)
    (case l_dra => k_is)
    (case c_dra => k_is)
    (case k_dra => k_is)
    (case a_ske => k_is)
    (case l_ske => k_is)
    (case c_ske => k_is)
    (case k_ske => k_is)
    (case a_made => k_is)
    (case l_made => k_is)
    (case c_made => k_is)
    (case k_made => k_is)
    (case a_lotof => k_is)
    (case l_lotof => k_is)
    (case c_lotof => k_is)
    (case k_lotof => k_is)
    (case a_ftab => k_is)
    (case l_ftab => k_is)
    (case c_ftab => k_is)
    (case k_ftab => k_is)
    (case a_rtab => k_is)
    (case l_rtab => k_is)
    (case c_rtab => k_is)
    (case k_rtab => k_is)
    (case a_cof => k_is)
    (case l_cof => k_is)
    (case c_cof => k_is)
    (case k_cof => k_is)
    (case a_nbook => k_is)
    (case l_nbook => k_is)
    (case c_nbook => k_is)
    (case k_nbook => k_is)
    (case a_nlot => k_is)
    (case l_nlot => k_is)
    (case c_nlot => k_is)
    (case k_nlot => k_is)
    (case a_uses => k_is)
    (case l_uses => k_is)
    (case c_uses => k_is)
    (case k_uses => k_is)
    (case a_rank => k_is)
    (case l_rank => k_is)
    (case c_rank => k_is)
    (case k_rank => k_is)
    (case a_clos => k_is)
    (case l_clos => k_is)
    (case c_clos => k_is)
    (case k_clos => k_is)
    (case a_fl => k_is)
    (case l_fl => k_is)
    (case c_fl => k_is)
    (case k_fl => k_is)
    (case a_idle => k_is)
    (case l_idle => k_is)
    (case c_idle => k_is)
    (case k_idle => k_is)
    (case a_sure => k_is)
    (case l_sure => k_is)
    (case c_sure => k_is)
    (case k_sure => k_is)
    (case a_al => k_is)
    (case l_al => k_is)
    (case c_al => k_is)
    (case k_al => k_is)
    (case a_ref => k_is)
    (case l_ref => k_is)
    (case c_ref => k_is)
    (case k_ref => k_is)
    (case a_law => k_is)
    (case l_law => k_is)
    (case c_law => k_is)
    (case k_law => k_is)
    (case o_tsk => k_is)
    (case p_tsk => rfl)
    (case n_tsk => kernel_rfl)
    (case o_wsk => k_is)
    (case p_wsk => rfl)
    (case n_wsk => kernel_rfl)
    (case o_ref => k_is)
    (case p_ref => rfl)
    (case n_ref => kernel_rfl)
    (case pn => kernel_rfl)
    (case z_abs => k_is)
    (case z_int => k_is)
    (case z_len => k_is)
    (case z_list => k_is)
    (case z_tuple => k_is)
    (case z_max => k_is)
    (case z_range => k_is)
    (case z_sorted => k_is)
    (case z_set => k_is)
    (case z_zip => k_is)
    (case z_enumerate => k_is)
    (case z_isinstance => k_is)
    (case z_bool => k_is)
    (case z_all => k_is)
    (case z_repr => k_is)
    (case z_min => k_is)
