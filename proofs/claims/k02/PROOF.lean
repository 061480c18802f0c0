import PyProof.Rows.All
import Wide.All
import OpenK.AllK
import Wide.FinOn
import HandS.ForMost
import HandS.Evl
import HandS.IsInst
import HandS.DeepEq
import PySem.Challenge.RW_threeroad_k02_beneath
set_option Elab.async false
set_option linter.all false
set_option maxRecDepth 100000
set_option maxHeartbeats 4000000
set_option autoImplicit false
/-! Own layer: values of expressions over plain data (ints, texts as lists of signs, lists). -/
namespace Vf
open PySem PySem.Spec PyProof.Rows L2 TL Evl

/-! ## texts -/
abbrev Tx := List Nat
def mk (l : Tx) : Str := ⟨l.toArray⟩
def vs (l : Tx) : V := .str (mk l)
def tx (s : String) : Tx := s.toList.map Char.toNat
theorem tl_of (l : Tx) : tl (mk l) = l := rfl
theorem len_of (l : Tx) : (mk l).length = l.length := by rw [len_tl, tl_of]
theorem mk_of (x : Str) : mk (tl x) = x := ext_tl rfl
theorem app_of (a b : Tx) : mk a ++ mk b = mk (a ++ b) := ext_tl (by rw [tl_append, tl_of, tl_of, tl_of])
theorem mk_inj {a b : Tx} (h : mk a = mk b) : a = b := by rw [← tl_of a, h, tl_of]
theorem vs_inj {a b : Tx} (h : vs a = vs b) : a = b := mk_inj (V.str.inj h)
theorem lit_of (s : String) : Str.ofString s = mk (tx s) := ext_tl (tl_ofString s)
theorem vlit (s : String) : V.str (Str.ofString s) = vs (tx s) := congrArg V.str (lit_of s)
theorem dec_vs (a b : Tx) : decide (vs a = vs b) = decide (a = b) := by
  by_cases h : a = b
  · subst h
    rw [decide_eq_true rfl, decide_eq_true rfl]
  · rw [decide_eq_false h, decide_eq_false (fun e => h (vs_inj e))]
theorem dec_int (a b : Int) : decide (V.int a = V.int b) = decide (a = b) := by
  by_cases h : a = b
  · subst h
    rw [decide_eq_true rfl, decide_eq_true rfl]
  · rw [decide_eq_false h, decide_eq_false (fun e => h (V.int.inj e))]
theorem dec_bl (a b : Bool) : decide (V.bl a = V.bl b) = (a == b) := by
  cases a <;> cases b <;> decide

/-! ## places -/
theorem atI_get {α β : Type} (f : α → β) (l : List α) (d : α) {i : Int} (h0 : 0 ≤ i) (h1 : i < l.length) : atI (l.map f) i = some (f (l.getD i.toNat d)) := by
  have hj : i.toNat < l.length := by omega
  unfold atI ixN
  rw [if_pos h0, if_pos (by rw [List.length_map]; exact h1)]
  show (l.map f)[i.toNat]? = _
  rw [List.getElem?_map, List.getElem?_eq_getElem hj, List.getD_eq_getElem?_getD, List.getElem?_eq_getElem hj]
  rfl
theorem atI_getT (l : Tx) {i : Int} (h0 : 0 ≤ i) (h1 : i < l.length) : atI (mk l).cps.toList i = some (l.getD i.toNat 0) := by
  have h := atI_get (id : Nat → Nat) l 0 h0 h1
  rw [List.map_id] at h
  exact h
/-- slices, of anything -/
def cutG {α : Type} (l : List α) (lo hi : Option Int) : List α := (l.drop (HT.sIx l.length 0 lo)).take (HT.sIx l.length l.length hi - HT.sIx l.length 0 lo)
theorem cutV_map {α : Type} (f : α → V) (l : List α) (lo hi : Option Int) : cutV (l.map f) lo hi = (cutG l lo hi).map f := by
  unfold cutV cutG
  rw [List.length_map, List.map_take, List.map_drop]
theorem cutS_of (l : Tx) (lo hi : Option Int) : cutS (mk l) lo hi = mk (cutG l lo hi) := by
  unfold cutS cutG
  rw [len_of]
  rfl
theorem cutG_to {α : Type} (l : List α) (n : Nat) : cutG l none (some (n : Int)) = l.take n := by
  unfold cutG
  rw [HT.sIx_none, HT.sIx_nat, Nat.sub_zero, List.drop_zero]
  by_cases h : n ≤ l.length
  · rw [Nat.min_eq_left h]
  · rw [Nat.min_eq_right (by omega), List.take_length, List.take_of_length_le (by omega)]
theorem cutG_from {α : Type} (l : List α) (n : Nat) : cutG l (some (n : Int)) none = l.drop n := by
  unfold cutG
  rw [HT.sIx_none, HT.sIx_nat]
  by_cases h : n ≤ l.length
  · rw [Nat.min_eq_left h]
    exact List.take_of_length_le (by rw [List.length_drop]; omega)
  · rw [Nat.min_eq_right (by omega), Nat.sub_self, List.take_zero, List.drop_of_length_le (by omega)]

section
variable {K : PySem.W.Frag} {σ : L2.St} {H H' : Hp} {ta tb te tx' : TE} {t u : TT} {x y z v : V} {r : R2} {a b i j : Int} {p q : Tx}

/-! ## ints -/
theorem e_add (ha : Ev ta σ H (.int a)) (hb : Ev tb σ H (.int b)) : Ev (tOp (rI0 fun i j => .int (i + j)) ta tb) σ H (.int (a + b)) := ev_op ha hb rv_I0
theorem e_sub (ha : Ev ta σ H (.int a)) (hb : Ev tb σ H (.int b)) : Ev (tOp (rI0 fun i j => .int (i - j)) ta tb) σ H (.int (a - b)) := ev_op ha hb rv_I0
theorem e_mul (ha : Ev ta σ H (.int a)) (hb : Ev tb σ H (.int b)) (h : CMul a b) : Ev (tOp (rI CMul fun i j => .int (i * j)) ta tb) σ H (.int (a * b)) := ev_op ha hb (rv_I h)
theorem e_mod (ha : Ev ta σ H (.int a)) (hb : Ev tb σ H (.int b)) (h : 0 < b) : Ev (tOp (rI (fun _ j => 0 < j) fun i j => .int (i % j)) ta tb) σ H (.int (a % b)) := ev_op ha hb (rv_I (C := fun _ j => 0 < j) h)
theorem e_div (ha : Ev ta σ H (.int a)) (hb : Ev tb σ H (.int b)) (h : 0 < b ∧ b < 1073741824) : Ev (tOp (rI CDiv fun i j => .int (i / j)) ta tb) σ H (.int (a / b)) := ev_op ha hb (rv_I (C := CDiv) h)
theorem e_neg (ha : Ev ta σ H (.int a)) : Ev (tUn (rU fun i => .int (-i)) ta) σ H (.int (-a)) := ev_un ha ru_neg
theorem e_lt (ha : Ev ta σ H (.int a)) (hb : Ev tb σ H (.int b)) : Ev (tOp (rI0 fun i j => .bl (decide (i < j))) ta tb) σ H (.bl (decide (a < b))) := ev_op ha hb rv_I0
theorem e_le (ha : Ev ta σ H (.int a)) (hb : Ev tb σ H (.int b)) : Ev (tOp (rI0 fun i j => .bl (decide (i ≤ j))) ta tb) σ H (.bl (decide (a ≤ b))) := ev_op ha hb rv_I0
theorem e_gt (ha : Ev ta σ H (.int a)) (hb : Ev tb σ H (.int b)) : Ev (tOp (rI0 fun i j => .bl (decide (j < i))) ta tb) σ H (.bl (decide (b < a))) := ev_op ha hb rv_I0
theorem e_ge (ha : Ev ta σ H (.int a)) (hb : Ev tb σ H (.int b)) : Ev (tOp (rI0 fun i j => .bl (decide (j ≤ i))) ta tb) σ H (.bl (decide (b ≤ a))) := ev_op ha hb rv_I0
theorem e_eqI (ha : Ev ta σ H (.int a)) (hb : Ev tb σ H (.int b)) : Ev (tOp rEq ta tb) σ H (.bl (decide (a = b))) := dec_int a b ▸ ev_op ha hb (rv_eq rfl)
theorem e_neI (ha : Ev ta σ H (.int a)) (hb : Ev tb σ H (.int b)) : Ev (tOp rNe ta tb) σ H (.bl (!decide (a = b))) := dec_int a b ▸ ev_op ha hb (rv_ne rfl)
theorem e_eqT (ha : Ev ta σ H (vs p)) (hb : Ev tb σ H (vs q)) : Ev (tOp rEq ta tb) σ H (.bl (decide (p = q))) := dec_vs p q ▸ ev_op ha hb (rv_eq rfl)
theorem e_neT (ha : Ev ta σ H (vs p)) (hb : Ev tb σ H (vs q)) : Ev (tOp rNe ta tb) σ H (.bl (!decide (p = q))) := dec_vs p q ▸ ev_op ha hb (rv_ne rfl)
theorem e_eqB {c d : Bool} (ha : Ev ta σ H (.bl c)) (hb : Ev tb σ H (.bl d)) : Ev (tOp rEq ta tb) σ H (.bl (c == d)) := dec_bl c d ▸ ev_op ha hb (rv_eq rfl)
theorem e_neB {c d : Bool} (ha : Ev ta σ H (.bl c)) (hb : Ev tb σ H (.bl d)) : Ev (tOp rNe ta tb) σ H (.bl (!(c == d))) := dec_bl c d ▸ ev_op ha hb (rv_ne rfl)

/-! ## texts -/
theorem e_lit {s : String} : Ev (tC (.str (Str.ofString s))) σ H (vs (tx s)) := by
  rw [← vlit]
  exact ev_c
def rAddT : R2 := fun x y H Q => ∃ i j, x = .str i ∧ y = .str j ∧ i.length + j.length ≤ sizeLine ∧ Q (.str (i ++ j)) H
theorem op_addT {X : Cx} : OpR X (binaryOp .Add) rAddT := op_add_str
theorem rv_addT (h : p.length + q.length ≤ 100000) : RV rAddT (vs p) (vs q) H (vs (p ++ q)) := fun H1 _ Q k =>
  ⟨mk p, mk q, rfl, rfl, by rw [len_of, len_of]; exact sz_of h, by rw [app_of]; exact k H1 (Ex.refl H1)⟩
theorem e_addT (ha : Ev ta σ H (vs p)) (hb : Ev tb σ H (vs q)) (h : p.length + q.length ≤ 100000) : Ev (tOp rAddT ta tb) σ H (vs (p ++ q)) := ev_op ha hb (rv_addT h)
theorem e_ixS (ha : Ev ta σ H (vs p)) (hb : Ev tb σ H (.int i)) (h : 0 ≤ i ∧ i < p.length ∧ p.length ≤ 100000) : Ev (tOp rIxS ta tb) σ H (vs [p.getD i.toNat 0]) :=
  ev_op ha hb (rv_ixS (by rw [len_of]; exact h.2.2) (atI_getT p h.1 h.2.1))
theorem e_slS {tl' th : TO} {lo hi : Option Int} (h : Ev te σ H (vs p)) (h1 : EvO tl' σ H lo) (h2 : EvO th σ H hi) (hz : p.length ≤ 100000) : Ev (tSl rSlS te tl' th) σ H (vs (cutG p lo hi)) := fun H1 e Q k =>
  h H1 e _ fun H2 e2 => h1 H2 (e.trans e2) _ fun H3 e3 => h2 H3 ((e.trans e2).trans e3) _ fun H4 e4 =>
    ⟨mk p, rfl, by rw [len_of]; exact sz_of hz, by rw [cutS_of]; exact k H4 ((e2.trans e3).trans e4)⟩
def rLenT : List V → Hp → VK → Prop := fun xs H Q => ∃ z, xs = [.str z] ∧ z.length ≤ sizeLine ∧ Q (.int z.length) H
theorem call_lenT {X : Cx} : CallR X (.builtin "len") rLenT := call_len_str
theorem e_lenT (h : Ev te σ H (vs p)) (hz : p.length ≤ 100000) : Ev (tCB rLenT (tCons te tNil)) σ H (.int (p.length : Int)) := ev_cb (ea_cons h ea_nil) fun H1 _ Q k =>
  ⟨mk p, rfl, by rw [len_of]; exact sz_of hz, by rw [len_of]; exact k H1 (Ex.refl H1)⟩
/-- one sign in a text -/
def rInT : R2 := fun x y H Q => ∃ (c : Nat) (z : Str), x = .str ⟨#[c]⟩ ∧ y = .str z ∧ Q (.bl (decide (c ∈ z.cps.toList))) H
def rNiT : R2 := fun x y H Q => ∃ (c : Nat) (z : Str), x = .str ⟨#[c]⟩ ∧ y = .str z ∧ Q (.bl (!decide (c ∈ z.cps.toList))) H
theorem op_inT {X : Cx} : OpR X (compareOp .In) rInT := op_in_sign
theorem op_niT {X : Cx} : OpR X (compareOp .NotIn) rNiT := op_notIn_sign
theorem e_inT {c : Nat} (ha : Ev ta σ H (vs [c])) (hb : Ev tb σ H (vs p)) : Ev (tOp rInT ta tb) σ H (.bl (decide (c ∈ p))) := ev_op ha hb fun H1 _ Q k => ⟨c, mk p, rfl, rfl, k H1 (Ex.refl H1)⟩
theorem e_niT {c : Nat} (ha : Ev ta σ H (vs [c])) (hb : Ev tb σ H (vs p)) : Ev (tOp rNiT ta tb) σ H (.bl (!decide (c ∈ p))) := ev_op ha hb fun H1 _ Q k => ⟨c, mk p, rfl, rfl, k H1 (Ex.refl H1)⟩
/-- sep.join(list) -/
def rJoinT (K : PySem.W.Frag) : V → List V → Hp → VK → Prop := fun x xs H Q => ∃ a p, ∃ ys : List Str, x = .str a ∧ xs = [.ref p] ∧ (SqL K H p (ys.map V.str) ∨ SqT K H p (ys.map V.str)) ∧
  (ys.map (·.length)).sum + ys.length * a.length ≤ 16777216 ∧ Q (.str (Txt.join a ys)) H
theorem pe_joinT {X : Cx} {o e : Expr} {to te : TE} {apos pos : Pos} (ho : PE X o to) (he : PE X e te) (hs : starEach [e] X.env = [(false, eval e X.env)] := by rfl) (hbase : attributeBase o "join" X.env (eval o X.env) = eval o X.env := by rfl) (hline : (apos.endLine == pos.line) = true := by rfl) :
    PE X (.Call (.Attribute o "join" apos) [e] [] pos) (tM1 (rJoinT X.K) to te) := pe_join ho he hs hbase hline
def sumLen (l : List Tx) : Nat := (l.map List.length).sum
theorem map_vs (l : List Tx) : l.map vs = (l.map mk).map V.str := by rw [List.map_map]; rfl
theorem sum_mk (l : List Tx) : ((l.map mk).map (·.length)).sum = sumLen l := by
  unfold sumLen
  rw [List.map_map]
  congr 1
theorem join_of (s : Tx) (l : List Tx) : Txt.join (mk s) (l.map mk) = mk (joinL s l) := ext_tl (by
  rw [join_eq, tl_join, tl_of, tl_of, List.map_map]
  congr 1
  exact (List.map_congr_left fun x _ => tl_of x).trans (List.map_id l))
theorem jn_rule {s : Tx} {l : List Tx} {pl : Addr} {H1 : Hp} {Q : VK} (hS : SqL K H1 pl (l.map vs)) (hz : sumLen l + l.length * s.length ≤ 16777216) (k : Q (vs (joinL s l)) H1) : rJoinT K (vs s) [.ref pl] H1 Q :=
  ⟨mk s, pl, l.map mk, rfl, rfl, Or.inl (map_vs l ▸ hS), by rw [sum_mk, List.length_map, len_of]; exact hz, by rw [join_of]; exact k⟩
theorem jn_size {s : Tx} {l : List Tx} (hz : sumLen l ≤ 1000000 ∧ l.length ≤ 1000 ∧ s.length ≤ 1000) : sumLen l + l.length * s.length ≤ 16777216 := by
  have h := Nat.mul_le_mul hz.2.1 hz.2.2
  omega
theorem e_joinN {s : Tx} {l : List Tx} (h : Ev ta σ H (vs s)) (hl : EvL te σ H (l.map vs)) (hz : sumLen l ≤ 1000000 ∧ l.length ≤ 1000 ∧ s.length ≤ 1000) : Ev (tM1 (rJoinT K) ta te) σ H (vs (joinL s l)) := fun H1 e Q k =>
  h H1 e _ fun H2 e2 => ⟨⟨mk s, rfl⟩, hl H2 (e.trans e2) _ fun pl H3 _ e3 hp => jn_rule (sq_of hp) (jn_size hz) (k H3 (e2.trans e3))⟩
theorem e_joinR {s : Tx} {l : List Tx} {pl : Addr} (h : Ev ta σ H (vs s)) (hl : Ev te σ H (.ref pl)) (hS : SqL K H pl (l.map vs)) (hz : sumLen l ≤ 1000000 ∧ l.length ≤ 1000 ∧ s.length ≤ 1000) : Ev (tM1 (rJoinT K) ta te) σ H (vs (joinL s l)) := fun H1 e Q k =>
  h H1 e _ fun H2 e2 => ⟨⟨mk s, rfl⟩, hl H2 (e.trans e2) _ fun H3 e3 => jn_rule (ex_l ((e.trans e2).trans e3) hS) (jn_size hz) (k H3 (e2.trans e3))⟩
/-- x.split(one sign) -/
def rSplitT : V → List V → Hp → VK → Prop := fun x xs H Q => ∃ a b, x = .str a ∧ xs = [.str b] ∧ (b.length == 0) = false ∧ a.length + 2 ≤ sizeLine ∧ rNewStrs (Txt.split a b) H Q
theorem pe_splitT {X : Cx} {o e : Expr} {to te : TE} {apos pos : Pos} (ho : PE X o to) (he : PE X e te) (hs : starEach [e] X.env = [(false, eval e X.env)] := by rfl) (hbase : attributeBase o "split" X.env (eval o X.env) = eval o X.env := by rfl) (hline : (apos.endLine == pos.line) = true := by rfl) :
    PE X (.Call (.Attribute o "split" apos) [e] [] pos) (tM1 rSplitT to te) := pe_split ho he hs hbase hline
def cuts (c : Nat) (l : Tx) : List Tx := spl [c] 0 [] l
theorem split_of {c : Nat} (hc : c < 256) (l : Tx) : (Txt.split (mk l) (mk [c])).map V.str = (cuts c l).map vs := by
  have h := split_spl (mk l) (mk [c]) (by rw [tl_of]; simp) (kind_ok (by show (#[c] : Array Nat).all (· < 256) = true; simp [hc]))
  rw [tl_of, tl_of] at h
  show _ = (spl [c] 0 [] l).map vs
  rw [← h, List.map_map]
  exact List.map_congr_left fun y _ => by
    show V.str y = V.str (mk (tl y))
    rw [mk_of]
theorem l_split {c : Nat} (ha : Ev ta σ H (vs p)) (hb : Ev te σ H (vs [c])) (hc : c < 256) (hz : p.length ≤ 90000) : EvL (tM1 rSplitT ta te) σ H ((cuts c p).map vs) := fun H1 e Q k =>
  ha H1 e _ fun H2 e2 => ⟨⟨mk p, rfl⟩, hb H2 (e.trans e2) _ fun H3 e3 =>
    ⟨mk p, mk [c], rfl, rfl, by rw [len_of]; rfl, by rw [len_of]; exact sz_of (by omega), fun pl np => by
      have e4 := split_of hc p
      refine k pl _ (fresh_back (e2.trans e3) np) ((e2.trans e3).trans (Ex.new np)) ?_
      rw [upd_same, e4]⟩⟩
/-- startswith -/
theorem starts_of (p q : Tx) : Txt.startswith (mk p) (mk q) = q.isPrefixOf p := by
  show ((decide (0 + (mk q).length ≤ (mk p).length)) && Builtin.Str.subAt (mk p) (mk q) 0) = _
  rw [len_of, len_of, Nat.zero_add, PySem.StrLaws.subAt_eq, List.drop_zero, len_of]
  show (decide (q.length ≤ p.length) && (p.take q.length == q)) = q.isPrefixOf p
  cases h : q.isPrefixOf p with
  | true =>
    obtain ⟨r, rfl⟩ := List.isPrefixOf_iff_prefix.mp h
    simp
  | false =>
    have hn : ¬ q <+: p := fun z => by rw [List.isPrefixOf_iff_prefix.mpr z] at h; cases h
    have : ¬ p.take q.length = q := fun z => hn ⟨p.drop q.length, (congrArg (· ++ p.drop q.length) z).symm.trans (List.take_append_drop _ _)⟩
    rw [beq_eq_false_iff_ne.mpr this, Bool.and_false]
def rStartsT : V → List V → Hp → VK → Prop := fun x xs H Q => ∃ a b, x = .str a ∧ xs = [.str b] ∧ Q (.bl (Txt.startswith a b)) H
theorem pe_startsT {X : Cx} {o e : Expr} {to te : TE} {apos pos : Pos} (ho : PE X o to) (he : PE X e te) (hs : starEach [e] X.env = [(false, eval e X.env)] := by rfl) (hbase : attributeBase o "startswith" X.env (eval o X.env) = eval o X.env := by rfl) (hline : (apos.endLine == pos.line) = true := by rfl) :
    PE X (.Call (.Attribute o "startswith" apos) [e] [] pos) (tM1 rStartsT to te) := pe_m1 PySem.F.slot_str_startswith PySem.F.type_str_startswith mt_startswith ho he hs hbase hline
theorem e_starts (ha : Ev ta σ H (vs p)) (hb : Ev te σ H (vs q)) : Ev (tM1 rStartsT ta te) σ H (.bl (q.isPrefixOf p)) := fun H1 e Q k =>
  ha H1 e _ fun H2 e2 => ⟨⟨mk p, rfl⟩, hb H2 (e.trans e2) _ fun H3 e3 => ⟨mk p, mk q, rfl, rfl, by rw [starts_of]; exact k H3 (e2.trans e3)⟩⟩
/-! ## lists -/
theorem e_ixL {α : Type} {f : α → V} {l : List α} (d : α) {pl : Addr} (h : Ev ta σ H (.ref pl)) (hS : SqL K H pl (l.map f)) (hb : Ev tb σ H (.int i)) (hi : 0 ≤ i ∧ i < l.length) : Ev (tOp (rIxL K) ta tb) σ H (f (l.getD i.toNat d)) := ev_op h hb (rv_ixL hS (atI_get f l d hi.1 hi.2))
theorem e_ixN {α : Type} {f : α → V} {l : List α} (d : α) (h : EvL ta σ H (l.map f)) (hb : Ev tb σ H (.int i)) (hi : 0 ≤ i ∧ i < l.length) : Ev (tOp (rIxL K) ta tb) σ H (f (l.getD i.toNat d)) :=
  ev_opL1 h (fun _ e => hb.mono e) fun _ _ hp _ => rv_ixL (sq_of hp) (atI_get f l d hi.1 hi.2)
theorem e_lenL {α : Type} {f : α → V} {l : List α} {pl : Addr} (h : Ev ta σ H (.ref pl)) (hS : SqL K H pl (l.map f)) : Ev (tCB (rLenS K) (tCons ta tNil)) σ H (.int (l.length : Int)) := by
  have g := ev_len h hS
  rw [List.length_map] at g
  exact g
theorem e_lenN {α : Type} {f : α → V} {l : List α} (h : EvL ta σ H (l.map f)) : Ev (tCB (rLenS K) (tCons ta tNil)) σ H (.int (l.length : Int)) := by
  have g := ev_lenN (K := K) h
  rw [List.length_map] at g
  exact g
theorem call_lenQ {X : Cx} : CallR X (.builtin "len") (rLenS X.K) := call_len_seq
theorem l_slR {α : Type} {f : α → V} {l : List α} {tl' th : TO} {lo hi : Option Int} {pl : Addr} (h : Ev te σ H (.ref pl)) (hS : SqL K H pl (l.map f)) (h1 : EvO tl' σ H lo) (h2 : EvO th σ H hi) : EvL (tSl (rSlL K) te tl' th) σ H ((cutG l lo hi).map f) :=
  cutV_map f l lo hi ▸ el_sl h h1 h2 hS
theorem e_all {l : List Bool} (h : EvL ta σ H (l.map V.bl)) : Ev (tCB (rAll K) (tCons ta tNil)) σ H (.bl (l.all id)) := fun H1 e Q k =>
  h H1 e _ fun pl H2 _ e2 hp => ⟨pl, l, rfl, sq_of hp, k H2 e2⟩
theorem inV_vs (p : Tx) (l : List Tx) : inV (vs p) (l.map vs) = decide (p ∈ l) := by
  unfold inV
  rw [List.any_map]
  induction l with
  | nil => rfl
  | cons y r ih =>
    rw [List.any_cons, ih]
    show ((mk y == mk p) || _) = _
    by_cases h : y = p
    · subst h
      simp
    · have : (mk y == mk p) = false := beq_eq_false_iff_ne.mpr fun e => h (mk_inj e)
      rw [this]
      have h2 : ¬ p = y := fun e => h e.symm
      simp [h2]
theorem flat_vs (l : List Tx) : (l.map vs).all flatV = true := by
  rw [List.all_map]
  exact List.all_eq_true.mpr fun _ _ => rfl
theorem e_inN {l : List Tx} (ha : Ev ta σ H (vs p)) (hb : EvL tb σ H (l.map vs)) : Ev (tOp (rIn K false) ta tb) σ H (.bl (decide (p ∈ l))) := inV_vs p l ▸ ev_opL ha hb fun _ _ h _ => rv_isL (sq_of h) rfl (flat_vs l)
theorem e_inU {l : List Tx} (ha : Ev ta σ H (vs p)) (hb : EvU tb σ H (l.map vs)) : Ev (tOp (rIn K false) ta tb) σ H (.bl (decide (p ∈ l))) := inV_vs p l ▸ ev_inU ha hb rfl (flat_vs l)
theorem e_inR {l : List Tx} {pl : Addr} (ha : Ev ta σ H (vs p)) (hb : Ev tb σ H (.ref pl)) (hS : SqL K H pl (l.map vs)) : Ev (tOp (rIn K false) ta tb) σ H (.bl (decide (p ∈ l))) := inV_vs p l ▸ ev_op ha hb (rv_isL hS rfl (flat_vs l))

/-! ## comprehensions without ifs -/
theorem given_all (n : Nat) (g : Nat → V) : given n (fun _ => true) g = (List.range n).map g := by
  unfold given
  rw [List.filter_eq_self.mpr fun _ _ => rfl]
theorem l_mapR {α : Type} {f : α → V} {ta' : TA} {jx : Nat} {ws : List Nat} {n : Int} (g : Nat → α) (h : EvA ta' σ H [.int n]) (hn : 0 ≤ n ∧ n ≤ 40000) (he : ∀ k : Nat, (k : Int) < n → Ev te ((wipe σ ws).set jx (some (.int (k : Int)))) H (f (g k)))
    (hw : ∀ w, wipe ((wipe σ ws).set jx (some w)) ws = wipe σ ws := by exact fun _ => rfl) : EvL (tLc (iRng1 ta') (gName jx) tYes te ws) σ H (((List.range n.toNat).map g).map f) := by
  have q := el_lcR1 (t := tYes) (te := te) (fun _ => true) (fun k => f (g k)) h hn hw (fun _ _ _ _ => fun H1 _ Q k => k H1 (Ex.refl H1)) (fun k H1 e hk _ => (he k hk).mono e)
  rw [given_all] at q
  rw [List.map_map]
  exact q
theorem given_list {α β : Type} (f : β → V) (g : α → β) (l : List α) (d : α) : given l.length (fun _ => true) (fun k => f (g (l.getD k d))) = (l.map g).map f := by
  rw [given_all]
  apply List.ext_getElem
  · simp
  · intro k h1 h2
    simp only [List.getElem_map, List.getElem_range]
    rw [List.getD_eq_getElem?_getD, List.getElem?_eq_getElem (by simpa using h1)]
    rfl
theorem map_at {α : Type} {f : α → V} {l : List α} {k : Nat} {w : V} (d : α) (h : (l.map f)[k]? = some w) : l.getD k d ∈ l ∧ w = f (l.getD k d) := by
  rw [List.getElem?_map] at h
  cases e : l[k]? with
  | none => rw [e] at h; cases h
  | some y =>
    rw [e] at h
    have e2 : l.getD k d = y := by rw [List.getD_eq_getElem?_getD, e]; rfl
    rw [e2]
    exact ⟨List.mem_of_getElem? e, (Option.some.inj h).symm⟩
/-- over a list that stands -/
theorem l_mapL {α β : Type} {f : α → V} {f2 : β → V} {l : List α} {pl : Addr} {tl' : TE} {jx : Nat} {ws : List Nat} (d : α) (g : α → β) (h : Ev tl' σ H (.ref pl)) (hS : SqL K H pl (l.map f)) (hz : l.length ≤ 40000)
    (he : ∀ y ∈ l, Ev te ((wipe σ ws).set jx (some (f y))) H (f2 (g y))) (hw : ∀ w, wipe ((wipe σ ws).set jx (some w)) ws = wipe σ ws := by exact fun _ => rfl) : EvL (tLc (iList K tl') (gName jx) tYes te ws) σ H ((l.map g).map f2) := by
  have q := el_lcL (t := tYes) (te := te) (fun _ => true) (fun k => f2 (g (l.getD k d))) h hS (by rw [List.length_map]; exact hz) hw (fun _ _ _ _ _ => fun H1 _ Q k => k H1 (Ex.refl H1)) (fun k w H1 e hk _ => by
    obtain ⟨hm, ew⟩ := map_at d hk
    rw [ew]
    exact (he _ hm).mono e)
  rw [List.length_map, given_list] at q
  exact q
/-- over the signs of a text -/
theorem l_mapS {β : Type} {f2 : β → V} {tl' : TE} {jx : Nat} {ws : List Nat} (g : Nat → β) (h : Ev tl' σ H (vs p)) (hz : p.length ≤ 40000)
    (he : ∀ c ∈ p, Ev te ((wipe σ ws).set jx (some (vs [c]))) H (f2 (g c))) (hw : ∀ w, wipe ((wipe σ ws).set jx (some w)) ws = wipe σ ws := by exact fun _ => rfl) : EvL (tLc (iStr tl') (gName jx) tYes te ws) σ H ((p.map g).map f2) := fun H0 e0 Q q => h H0 e0 _ fun H1 e1 => ⟨mk p, rfl, fun D hD => by
  refine ⟨fun k m H2 => m = p.length - k ∧ k ≤ p.length ∧ Cw H1 (fun _ => true) (fun k => f2 (g (p.getD k 0))) D k H2, ⟨p.length, by simp, Nat.zero_le _, hD, Ex.new hD, upd_same⟩, fun k m H2 hW => ?_⟩
  obtain ⟨rfl, hk, hC⟩ := hW
  have hsz : (mk p).cps.size = p.length := by show p.toArray.size = _; simp
  by_cases hlt : k < p.length
  · refine Or.inr ⟨by show k < (mk p).cps.size; omega, fun H3 => Cw H1 (fun _ => true) (fun k => f2 (g (p.getD k 0))) D (k + 1) H3, fun H3 h3 => ⟨p.length - (k + 1), by omega, rfl, hlt, h3⟩, fun w H3 hy => ?_⟩
    obtain ⟨rfl, c, hc, rfl⟩ := hy
    have hc2 : p[k]? = some c := by
      have : (mk p).cps[k]? = p[k]? := by show p.toArray[k]? = _; simp
      rw [← this]; exact hc
    have hm : c ∈ p := List.mem_of_getElem? hc2
    have hd : p.getD k 0 = c := by rw [List.getD_eq_getElem?_getD, hc2]; rfl
    exact ⟨hw _, cw_turn hC (by omega) (fun H4 _ Q k => k H4 (Ex.refl H4)) (fun _ => by
      show Ev te _ H1 (f2 (g (p.getD k 0)))
      rw [hd]
      exact (he c hm).mono (e0.trans e1))⟩
  · have ek : k = p.length := by omega
    refine Or.inl ⟨by show (mk p).cps.size ≤ k; omega, ?_⟩
    subst ek
    have h3 := hC.2.2
    rw [given_list] at h3
    exact q D H2 (fresh_back e1 hC.1) (e1.trans hC.2.1) h3⟩

/-! ## displays -/
theorem a_one (h : Ev te σ H x) : EvA (tCons te tNil) σ H [x] := ea_cons h ea_nil
theorem a_two (h : Ev ta σ H x) (h2 : Ev tb σ H y) : EvA (tCons ta (tCons tb tNil)) σ H [x, y] := ea_cons h (a_one h2)
theorem tyx_lst {pl : Addr} {xs : List V} (h : SqL K H pl xs) : TyX K H (.ref pl) (.type "list") := by
  rcases h with (h | ⟨o, h⟩) | ⟨o, _, _, h, hc, _⟩
  · exact .base (.lst h)
  · exact .base (.frz h)
  · exact .kList h hc
/-! ## isinstance of plain values -/
theorem e_isi {w : V} {tw uw : Value} {c : V} {ok : Bool} (h : Ev ta σ H w) (hc : Ev tb σ H c) (k : ClsV c uw) (ty : ∀ H1, Ex H H1 → TyX K H1 w tw) (hk : PySem.W.kitOne K tw uw = some ok) : Ev (tCB (rIsi K) (tCons ta (tCons tb tNil))) σ H (.bl ok) :=
  ev_cb (a_two h hc) fun H1 e Q q => ⟨w, c, tw, uw, ok, rfl, k, ty H1 e, hk, q H1 (Ex.refl H1)⟩
end

/-! ## promises: a value, or a new list -/
/-- a pure def: called with such arguments it gives such a value, whatever else stands -/
def spP (R : List V → Hp → V → Prop) : Sp := fun vs' H Q _ => ∃ v, R vs' H v ∧ RetV v H Q
def spN (R : List V → Hp → List V → Prop) : Sp := fun vs' H Q _ => ∃ xs, R vs' H xs ∧ RetL xs H Q
theorem sv_of {R : List V → Hp → V → Prop} {ws : List V} {H : Hp} {v : V} (h : ∀ H1, Ex H H1 → R ws H1 v) : SpV (spP R) ws H v := fun H1 e Q q _ => ⟨v, h H1 e, q⟩
theorem sl_of {R : List V → Hp → List V → Prop} {ws : List V} {H : Hp} {xs : List V} (h : ∀ H1, Ex H H1 → R ws H1 xs) : SpL (spN R) ws H xs := fun H1 e Q q _ => ⟨xs, h H1 e, q⟩

/-! ## a def as its callers see it -/
structure Cal (P : Program) (w : World) (K : PySem.W.Frag) (mg : Str → Option Value) (base : Heap) (k : Nat) (x : Str) (ps : List Str) (sp : Sp) : Prop where
  ex : ∃ f fd, FnOk P w K mg base CX0 k f fd ps sp ∧ mg x = some (.ref f) ∧ PySem.W.keepIn K (.ref f) = true ∧ Binds K fd ps []
theorem pe_cal {X : Cx} {k : Nat} {x : Str} {ps : List Str} {sp : Sp} {e : Expr} {es : List Expr} {t : TA} {p pos : Pos} (C : Cal X.prog X.w X.K X.mg X.base k x ps sp) (hr : Room k X.A) (hg : Gl X x) (ha : PA X (e :: es) t)
    (hdb : (x == ("__debug__" : Str)) = false := by decide) (he : starEach (e :: es) X.env = (false, eval e X.env) :: starEach es X.env := by rfl) (hpl : (backTo pos (starEach es X.env)).any (·.1) = false := by rfl) :
    PE X (.Call (.Name x p) (e :: es) [] pos) (tCall sp [] E0 t) := by
  obtain ⟨f, fd, F, g, kp, b⟩ := C.ex
  exact pe_call (CX := CX0) (E := E0) F hr hg g kp b .nil pass0 ha hdb he hpl
/-- a def of the text, proved -/
theorem cal_of {P : Program} {w : World} {K : PySem.W.Frag} {mg : Str → Option Value} {base : Heap} {k : Nat} {x : Str} {ps : List Str} {sp : Sp} {f : Addr} {fd : FuncData} (F : FnOk P w K mg base CX0 k f fd ps sp) (g : mg x = some (.ref f)) (kp : PySem.W.keepIn K (.ref f) = true) (b : Binds K fd ps []) :
    Cal P w K mg base k x ps sp := ⟨f, fd, F, g, kp, b⟩
end Vf
namespace Vf
open PySem PySem.Spec PyProof.Rows L2 TL Evl

/-! ## loops as folds that may be left -/
inductive Stp (S R : Type) where
  | go (s : S) | brk (s : S) | ret (r : R)
def runL {α S R : Type} (f : S → α → Stp S R) : List α → S → Stp S R
  | [], s => .go s
  | x :: xs, s => match f s x with
    | .go s2 => runL f xs s2
    | .brk s2 => .brk s2
    | .ret r => .ret r
def aftL {S R : Type} (o : Stp S R) (g : S → R) : R := match o with
  | .go s => g s
  | .brk s => g s
  | .ret r => r
theorem runL_app {α S R : Type} (f : S → α → Stp S R) : ∀ (l m : List α) (s : S), runL f (l ++ m) s = match runL f l s with
    | .go s2 => runL f m s2
    | .brk s2 => .brk s2
    | .ret r => .ret r
  | [], m, s => rfl
  | x :: xs, m, s => by
    rw [List.cons_append]
    simp only [runL]
    cases h : f s x with
    | go s2 => exact runL_app f xs m s2
    | brk s2 => rfl
    | ret r => rfl
theorem runL_go {α S R : Type} {f : S → α → Stp S R} {y : α} {r : List α} {s s2 : S} (h : f s y = .go s2) : runL f (y :: r) s = runL f r s2 := by
  simp only [runL]
  rw [h]
theorem runL_ret {α S R : Type} {f : S → α → Stp S R} {y : α} {r : List α} {s : S} {q : R} (h : f s y = .ret q) : runL f (y :: r) s = .ret q := by
  simp only [runL]
  rw [h]
theorem runL_all {α S R : Type} (f : S → α → Stp S R) (g : S → α → S) (hf : ∀ s y, f s y = .go (g s y)) : ∀ (l : List α) (s : S), runL f l s = .go (l.foldl g s)
  | [], s => rfl
  | y :: r, s => by
    rw [runL_go (hf s y), runL_all f g hf r, List.foldl_cons]
theorem runL_next {α S R : Type} {f : S → α → Stp S R} {l : List α} {i : Nat} {y : α} {s0 s : S} (h : runL f (l.take i) s0 = .go s) (hy : l[i]? = some y) : runL f (l.take (i + 1)) s0 = f s y := by
  rw [List.take_add_one, hy, runL_app, h]
  show (match f s y with | .go s2 => runL f [] s2 | .brk s2 => .brk s2 | .ret r => .ret r) = _
  cases f s y <;> rfl
theorem runL_out {α S R : Type} {f : S → α → Stp S R} {l : List α} {i : Nat} {s0 : S} {o : Stp S R} (h : runL f (l.take i) s0 = o) (ho : ∀ s, o ≠ .go s) : runL f l s0 = o := by
  have e : l = l.take i ++ l.drop i := (List.take_append_drop i l).symm
  rw [e, runL_app, h]
  cases o with
  | go s => exact absurd rfl (ho s)
  | brk s => rfl
  | ret r => rfl

section
variable {K : PySem.W.Frag} {σ : L2.St} {H H' : Hp} {ta tb te tl' : TE} {D : Ends} {tu tw tz : TS} {α S R : Type}
/-- what a loop's body has to show -/
def BodyOk (tu : TS) (D : Ends) (j : Nat) (f : α → V) (step : S → α → Stp S R) (l : List α) (s0 : S) (Rep : S → L2.St → Hp → Prop) : Prop :=
  ∀ (Nx Bk : L2.St → Hp → Prop) (i : Nat) (s : S) (y : α) (σ1 : L2.St) (H1 : Hp), l[i]? = some y → runL step (l.take i) s0 = .go s → Rep s σ1 H1 → (∀ s2 σ2 H2, step s y = .go s2 → Rep s2 σ2 H2 → Nx σ2 H2) → (∀ s2 σ2 H2, step s y = .brk s2 → Rep s2 σ2 H2 → Bk σ2 H2) →
    (∀ r, step s y = .ret r → runL step l s0 = .ret r) → tu { D with nx := Nx, ct := Nx, bk := Bk } (σ1.set j (some (f y))) H1
def OutOk (tz : TS) (D : Ends) (step : S → α → Stp S R) (l : List α) (s0 : S) (Rep : S → L2.St → Hp → Prop) : Prop :=
  ∀ s σ1 H1, (runL step l s0 = .go s ∨ runL step l s0 = .brk s) → Rep s σ1 H1 → tz D σ1 H1
theorem loop_core {f : α → V} {l : List α} {step : S → α → Stp S R} {s0 : S} {Rep : S → L2.St → Hp → Prop} {j : Nat} (hb : BodyOk tu D j f step l s0 Rep) (ho : OutOk tz D step l s0 Rep) {i : Nat} {y : α} {σ1 : L2.St} {H1 : Hp} (hy : l[i]? = some y)
    (p : ∃ s, runL step (l.take i) s0 = .go s ∧ Rep s σ1 H1) : tu { D with nx := fun σ2 H2 => ∃ s, runL step (l.take (i + 1)) s0 = .go s ∧ Rep s σ2 H2, ct := fun σ2 H2 => ∃ s, runL step (l.take (i + 1)) s0 = .go s ∧ Rep s σ2 H2, bk := tz D } (σ1.set j (some (f y))) H1 := by
  obtain ⟨s, hr, hp⟩ := p
  have hn := runL_next hr hy
  exact hb _ _ i s y σ1 H1 hy hr hp (fun s2 σ2 H2 e q => ⟨s2, hn.trans e, q⟩) (fun s2 σ2 H2 e q => ho s2 σ2 H2 (Or.inr (runL_out (hn.trans e) (fun _ z => by cases z))) q) (fun r e => runL_out (hn.trans e) (fun _ z => by cases z))
theorem loop_end {l : List α} {step : S → α → Stp S R} {s0 : S} {Rep : S → L2.St → Hp → Prop} (ho : OutOk tz D step l s0 Rep) {n : Nat} (hn : n = l.length) {σ1 : L2.St} {H1 : Hp} (p : ∃ s, runL step (l.take n) s0 = .go s ∧ Rep s σ1 H1) : tz D σ1 H1 := by
  obtain ⟨s, hr, hp⟩ := p
  rw [hn, List.take_length] at hr
  exact ho s σ1 H1 (Or.inl hr) hp
/-- for x in a list that stands -/
theorem q_loopL {f : α → V} {l : List α} (step : S → α → Stp S R) (s0 : S) (Rep : S → L2.St → Hp → Prop) {j : Nat} {pl : Addr} (h : Ev tl' σ H (.ref pl)) (hS : SqL K H pl (l.map f)) (h0 : ∀ H1, Ex H H1 → Rep s0 σ H1) (hl : ∀ s σ1 H1, Rep s σ1 H1 → SqL K H1 pl (l.map f))
    (hb : BodyOk tu D j f step l s0 Rep) (ho : OutOk tz D step l s0 Rep) : tSeq (tFor (iList K tl') (gName j) tu) tz D σ H :=
  q_forLn h hS (fun i σ1 H1 => ∃ s, runL step (l.take i) s0 = .go s ∧ Rep s σ1 H1) (fun H1 e => ⟨s0, rfl, h0 H1 e⟩) (fun i σ1 H1 _ ⟨s, _, p⟩ => hl s σ1 H1 p) (fun i x σ1 H1 hx p => by
    rw [List.getElem?_map] at hx
    cases hy : l[i]? with
    | none => rw [hy] at hx; cases hx
    | some y =>
      rw [hy] at hx
      have ex : f y = x := Option.some.inj hx
      subst ex
      exact loop_core hb ho hy p) (fun σ1 H1 p => loop_end ho (List.length_map _ ) p)
/-- for x in a new list -/
theorem q_loopN {f : α → V} {l : List α} (step : S → α → Stp S R) (s0 : S) (Rep : Addr → S → L2.St → Hp → Prop) {j : Nat} (h : EvL tl' σ H (l.map f)) (h0 : ∀ p H1, H p = none → Ex H H1 → H1 p = some (.lst (l.map f)) → Rep p s0 σ H1) (hl : ∀ p s σ1 H1, Rep p s σ1 H1 → SqL K H1 p (l.map f))
    (hb : ∀ p, BodyOk tu D j f step l s0 (Rep p)) (ho : ∀ p, OutOk tz D step l s0 (Rep p)) : tSeq (tFor (iList K tl') (gName j) tu) tz D σ H :=
  q_forNLn h (fun p i σ1 H1 => ∃ s, runL step (l.take i) s0 = .go s ∧ Rep p s σ1 H1) (fun p H1 np e hp => ⟨s0, rfl, h0 p H1 np e hp⟩) (fun p i σ1 H1 _ ⟨s, _, q⟩ => hl p s σ1 H1 q) (fun p i x σ1 H1 hx q => by
    rw [List.getElem?_map] at hx
    cases hy : l[i]? with
    | none => rw [hy] at hx; cases hx
    | some y =>
      rw [hy] at hx
      have ex : f y = x := Option.some.inj hx
      subst ex
      exact loop_core (hb p) (ho p) hy q) (fun p σ1 H1 q => loop_end (ho p) (List.length_map _) q)
/-- for k in range(n) -/
theorem q_loopR {ta' : TA} {n : Int} (step : S → Nat → Stp S R) (s0 : S) (Rep : S → L2.St → Hp → Prop) {j : Nat} (h : EvA ta' σ H [.int n]) (hn : 0 ≤ n ∧ n ≤ 100000) (h0 : ∀ H1, Ex H H1 → Rep s0 σ H1)
    (hb : BodyOk tu D j (fun k : Nat => V.int (k : Int)) step (List.range n.toNat) s0 Rep) (ho : OutOk tz D step (List.range n.toNat) s0 Rep) : tSeq (tFor (iRng1 ta') (gName j) tu) tz D σ H :=
  q_forR1 h hn (fun i σ1 H1 => ∃ s, runL step ((List.range n.toNat).take i) s0 = .go s ∧ Rep s σ1 H1) (fun H1 e => ⟨s0, rfl, h0 H1 e⟩) (fun i σ1 H1 hi p => by
    have hy : (List.range n.toNat)[i]? = some i := by rw [List.getElem?_range (by omega)]
    exact loop_core (f := fun k : Nat => V.int (k : Int)) hb ho hy p) (fun σ1 H1 p => loop_end ho (by rw [List.length_range]) p)
/-- for k in range(a, b) -/
theorem q_loopR2 {ta' : TA} {lo n : Int} (step : S → Nat → Stp S R) (s0 : S) (Rep : S → L2.St → Hp → Prop) {j : Nat} (h : EvA ta' σ H [.int lo, .int n]) (hn : 0 ≤ lo ∧ lo ≤ 100000 ∧ -100000 ≤ n ∧ n ≤ 100000) (h0 : ∀ H1, Ex H H1 → Rep s0 σ H1)
    (hb : BodyOk tu D j (fun k : Nat => V.int (lo + (k : Int))) step (List.range (n - lo).toNat) s0 Rep) (ho : OutOk tz D step (List.range (n - lo).toNat) s0 Rep) : tSeq (tFor (iRng2 ta') (gName j) tu) tz D σ H :=
  q_forR2 h hn (fun i σ1 H1 => ∃ s, runL step ((List.range (n - lo).toNat).take i) s0 = .go s ∧ Rep s σ1 H1) (fun H1 e => ⟨s0, rfl, h0 H1 e⟩) (fun i σ1 H1 hi p => by
    have hy : (List.range (n - lo).toNat)[i]? = some i := by rw [List.getElem?_range (by omega)]
    exact loop_core (f := fun k : Nat => V.int (lo + (k : Int))) hb ho hy p) (fun σ1 H1 p => loop_end ho (by rw [List.length_range]) p)
/-- for c in a text -/
theorem q_loopS {p : Tx} (step : S → Nat → Stp S R) (s0 : S) (Rep : S → L2.St → Hp → Prop) {j : Nat} (h : Ev tl' σ H (vs p)) (h0 : ∀ H1, Ex H H1 → Rep s0 σ H1)
    (hb : BodyOk tu D j (fun c : Nat => vs [c]) step p s0 Rep) (ho : OutOk tz D step p s0 Rep) : tSeq (tFor (iStr tl') (gName j) tu) tz D σ H := h H (Ex.refl H) _ fun H1 e => ⟨mk p, rfl, by
  refine ⟨fun i m σ1 H2 => m = p.length - i ∧ i ≤ p.length ∧ ∃ s, runL step (p.take i) s0 = .go s ∧ Rep s σ1 H2, ⟨p.length, by simp, Nat.zero_le _, s0, rfl, h0 H1 e⟩, fun i m σ1 H2 hW => ?_⟩
  obtain ⟨rfl, hi, q⟩ := hW
  have hsz : (mk p).cps.size = p.length := by show p.toArray.size = _; simp
  by_cases hlt : i < p.length
  · refine Or.inr ⟨by show i < (mk p).cps.size; omega, fun σ2 H3 => ∃ s, runL step (p.take (i + 1)) s0 = .go s ∧ Rep s σ2 H3, fun σ2 H3 h3 => ⟨p.length - (i + 1), by omega, rfl, hlt, h3⟩, fun w H3 hy => ?_⟩
    obtain ⟨rfl, c, hc, rfl⟩ := hy
    have hc2 : p[i]? = some c := by
      have : (mk p).cps[i]? = p[i]? := by show p.toArray[i]? = _; simp
      rw [← this]; exact hc
    exact loop_core (f := fun c : Nat => vs [c]) hb ho hc2 q
  · have ei : i = p.length := by omega
    exact Or.inl ⟨by show (mk p).cps.size ≤ i; omega, loop_end ho ei q⟩⟩
/-! ## what is wanted, along the ways -/
theorem ret_T {β : Type} {f : β → V} {b : Bool} {x y : β} {Q : VK} (k : RetV (f (if b = true then x else y)) H Q) (hb : b = true) : RetV (f x) H Q := by
  rw [if_pos hb] at k
  exact k
theorem ret_F {β : Type} {f : β → V} {b : Bool} {x y : β} {Q : VK} (k : RetV (f (if b = true then x else y)) H Q) (hb : b = false) : RetV (f y) H Q := by
  rw [hb, if_neg Bool.false_ne_true] at k
  exact k
theorem retL_T {β : Type} {f : β → V} {b : Bool} {x y : List β} {Q : VK} (k : RetL ((if b = true then x else y).map f) H Q) (hb : b = true) : RetL (x.map f) H Q := by
  rw [if_pos hb] at k
  exact k
theorem retL_F {β : Type} {f : β → V} {b : Bool} {x y : List β} {Q : VK} (k : RetL ((if b = true then x else y).map f) H Q) (hb : b = false) : RetL (y.map f) H Q := by
  rw [hb, if_neg Bool.false_ne_true] at k
  exact k
theorem ret_run {β : Type} {f : β → V} {o : Stp S β} {g : S → β} {r : β} {Q : VK} (k : RetV (f (aftL o g)) H Q) (h : o = .ret r) : RetV (f r) H Q := by
  rw [h] at k
  exact k
theorem ret_go {β : Type} {f : β → V} {o : Stp S β} {g : S → β} {s : S} {Q : VK} (k : RetV (f (aftL o g)) H Q) (h : o = .go s ∨ o = .brk s) : RetV (f (g s)) H Q := by
  rcases h with h | h
  · rw [h] at k
    exact k
  · rw [h] at k
    exact k
theorem retL_run {β : Type} {f : β → V} {o : Stp S (List β)} {g : S → List β} {r : List β} {Q : VK} (k : RetL ((aftL o g).map f) H Q) (h : o = .ret r) : RetL (r.map f) H Q := by
  rw [h] at k
  exact k
theorem retL_go {β : Type} {f : β → V} {o : Stp S (List β)} {g : S → List β} {s : S} {Q : VK} (k : RetL ((aftL o g).map f) H Q) (h : o = .go s ∨ o = .brk s) : RetL ((g s).map f) H Q := by
  rcases h with h | h
  · rw [h] at k
    exact k
  · rw [h] at k
    exact k
/-! ## own lists that change -/
theorem q_appM {H0 : Hp} {pl : Addr} {f : α → V} {l : List α} {v : α} (e0 : Ex H0 H) (n0 : H0 pl = none) (hl : H pl = some (.lst (l.map f))) (ha : Ev ta σ H (.ref pl)) (h : Ev te σ H (f v)) (hz : l.length < 100000)
    (k : ∀ H1, Ex H0 H1 → H1 pl = some (.lst ((l ++ [v]).map f)) → (∀ q o, q ≠ pl → H q = some o → H1 q = some o) → tz D σ H1) : tSeq (tDrop (tBM K "list" rAppend ta (tCons te tNil))) tz D σ H :=
  q_app hl ha h (by rw [List.length_map]; exact hz) fun H1 e1 => k _ (Ex.mut (e0.trans e1) n0) (by rw [upd_same, List.map_append]; rfl) fun q o hq hh => by
    rw [upd_ne hq]
    exact e1 q o hh
theorem s_appM {H0 : Hp} {pl : Addr} {f : α → V} {l : List α} {v : α} (e0 : Ex H0 H) (n0 : H0 pl = none) (hl : H pl = some (.lst (l.map f))) (ha : Ev ta σ H (.ref pl)) (h : Ev te σ H (f v)) (hz : l.length < 100000)
    (k : ∀ H1, Ex H0 H1 → H1 pl = some (.lst ((l ++ [v]).map f)) → (∀ q o, q ≠ pl → H q = some o → H1 q = some o) → D.nx σ H1) : tDrop (tBM K "list" rAppend ta (tCons te tNil)) D σ H :=
  s_app hl ha h (by rw [List.length_map]; exact hz) fun H1 e1 => k _ (Ex.mut (e0.trans e1) n0) (by rw [upd_same, List.map_append]; rfl) fun q o hq hh => by
    rw [upd_ne hq]
    exact e1 q o hh
theorem ixN_at {n : Nat} {i : Int} {j : Nat} (h : (0 ≤ i ∧ i = j ∨ i < 0 ∧ i + n = j) ∧ j < n) : ixN n i = some j := by
  unfold ixN
  by_cases h0 : 0 ≤ i
  · rw [if_pos h0, if_pos (by omega)]
    congr 1
    omega
  · rw [if_neg h0, if_pos (by omega)]
    congr 1
    omega
theorem s_setM {H0 : Hp} {pl : Addr} {f : α → V} {l : List α} {v : α} {i : Int} (j : Nat) {tb' : TE} (e0 : Ex H0 H) (n0 : H0 pl = none) (hl : H pl = some (.lst (l.map f))) (h : Ev te σ H (f v)) (ha : Ev ta σ H (.ref pl)) (hi : Ev tb' σ H (.int i)) (hj : (0 ≤ i ∧ i = j ∨ i < 0 ∧ i + l.length = j) ∧ j < l.length)
    (k : ∀ H1, Ex H0 H1 → H1 pl = some (.lst ((l.set j v).map f)) → (∀ q o, q ≠ pl → H q = some o → H1 q = some o) → D.nx σ H1) : tAsg te (gSub ta tb' rSetL) D σ H := h H (Ex.refl H) _ fun H1 e1 => ha H1 e1 _ fun H2 e2 => hi H2 (e1.trans e2) _ fun H3 e3 =>
  ⟨pl, l.map f, i, j, rfl, rfl, ((e1.trans e2).trans e3) pl _ hl, ixN_at (by rw [List.length_map]; exact hj), k _ (Ex.mut (e0.trans ((e1.trans e2).trans e3)) n0) (by rw [upd_same, List.map_set]) fun q o hq hh => by
    rw [upd_ne hq]
    exact ((e1.trans e2).trans e3) q o hh⟩
theorem q_setM {H0 : Hp} {pl : Addr} {f : α → V} {l : List α} {v : α} {i : Int} (j : Nat) {tb' : TE} (e0 : Ex H0 H) (n0 : H0 pl = none) (hl : H pl = some (.lst (l.map f))) (h : Ev te σ H (f v)) (ha : Ev ta σ H (.ref pl)) (hi : Ev tb' σ H (.int i)) (hj : (0 ≤ i ∧ i = j ∨ i < 0 ∧ i + l.length = j) ∧ j < l.length)
    (k : ∀ H1, Ex H0 H1 → H1 pl = some (.lst ((l.set j v).map f)) → (∀ q o, q ≠ pl → H q = some o → H1 q = some o) → tz D σ H1) : tSeq (tAsg te (gSub ta tb' rSetL)) tz D σ H := s_setM (D := { D with nx := tz D }) j e0 n0 hl h ha hi hj k
/-! ## more -/
theorem el_is {xs ys : List V} (h : EvL te σ H xs) (e : xs = ys) : EvL te σ H ys := e ▸ h
def aftS {S S2 R : Type} (o : Stp S R) (g : S → Stp S2 R) : Stp S2 R := match o with
  | .go s => g s
  | .brk s => g s
  | .ret r => .ret r
theorem aftS_go {S2 : Type} {o : Stp S R} {g : S → Stp S2 R} {s : S} {q : Stp S2 R} (kq : q = aftS o g) (h : o = .go s ∨ o = .brk s) : q = g s := by
  rcases h with h | h
  · rw [h] at kq
    exact kq
  · rw [h] at kq
    exact kq
theorem aftS_ret {S2 : Type} {o : Stp S R} {g : S → Stp S2 R} {r : R} {q : Stp S2 R} (kq : q = aftS o g) (h : o = .ret r) : q = .ret r := by
  rw [h] at kq
  exact kq
theorem kq_T {β : Type} {b : Bool} {x y q : β} (kq : q = if b = true then x else y) (hb : b = true) : q = x := by
  rw [if_pos hb] at kq
  exact kq
theorem kq_F {β : Type} {b : Bool} {x y q : β} (kq : q = if b = true then x else y) (hb : b = false) : q = y := by
  rw [hb, if_neg Bool.false_ne_true] at kq
  exact kq
/-- if c: x = e -/
theorem set_same {β : Type} : ∀ {l : List (Option β)} {i : Nat} {y : β}, l[i]? = some (some y) → l.set i (some y) = l
  | [], _, _, h => by simp at h
  | a :: r, 0, y, h => by
    have e : a = some y := Option.some.inj h
    rw [e]
    rfl
  | a :: r, i + 1, y, h => by
    show a :: r.set i (some y) = a :: r
    rw [set_same (l := r) (i := i) h]
theorem q_ifSet {i : Nat} {b : Bool} {t : TT} {f : α → V} {x y z : α} (h : EvT t σ H b) (h1 : b = true → Ev te σ H (f x)) (h2 : σ[i]? = some (some (f y))) (hz : (if b = true then x else y) = z) (k : ∀ H1, Ex H H1 → tz D (σ.set i (some (f z))) H1) : tSeq (tIfS t (tAsg te (gName i)) tNext) tz D σ H := by
  subst hz
  exact q_ifAsg h (fun hb => by rw [if_pos hb]; exact h1 hb) (fun hb => by
    rw [hb, if_neg Bool.false_ne_true]
    exact set_same h2) k
theorem s_ifSet {i : Nat} {b : Bool} {t : TT} {f : α → V} {x y z : α} (h : EvT t σ H b) (h1 : b = true → Ev te σ H (f x)) (h2 : σ[i]? = some (some (f y))) (hz : (if b = true then x else y) = z) (k : ∀ H1, Ex H H1 → D.nx (σ.set i (some (f z))) H1) : tIfS t (tAsg te (gName i)) tNext D σ H := by
  subst hz
  exact s_ifAsg h (fun hb => by rw [if_pos hb]; exact h1 hb) (fun hb => by
    rw [hb, if_neg Bool.false_ne_true]
    exact set_same h2) k
theorem e_if {t : TT} {b : Bool} {f : α → V} {x y : α} (h : EvT t σ H b) (h1 : b = true → Ev ta σ H (f x)) (h2 : b = false → Ev tb σ H (f y)) : Ev (tIf t ta tb) σ H (f (if b = true then x else y)) :=
  ev_if h (fun hb => by rw [if_pos hb]; exact h1 hb) (fun hb => by rw [hb, if_neg Bool.false_ne_true]; exact h2 hb)
theorem e_chain {r r' : R2} {tc : TE} {x y z : V} {b c : Bool} (ha : Ev ta σ H x) (hb : Ev tb σ H y) (hc : Ev tc σ H z) (h1 : ∀ H1, Ex H H1 → RV r x y H1 (.bl b)) (h2 : ∀ H1, Ex H H1 → RV r' y z H1 (.bl c)) : Ev (tChain r r' ta tb tc) σ H (.bl (b && c)) := fun H1 e Q q =>
  ha H1 e _ fun H2 e2 => hb H2 (e.trans e2) _ fun H3 e3 => h1 H3 ((e.trans e2).trans e3) H3 (Ex.refl H3) _ fun H4 e4 => ⟨b, rfl, by
    cases b with
    | true => exact hc H4 (((e.trans e2).trans e3).trans e4) _ fun H5 e5 => h2 H5 ((((e.trans e2).trans e3).trans e4).trans e5) H5 (Ex.refl H5) Q fun H6 e6 => q H6 ((((e2.trans e3).trans e4).trans e5).trans e6)
    | false => exact q H4 ((e2.trans e3).trans e4)⟩
theorem e_min2 {i j : Int} (ha : Ev ta σ H (.int i)) (hb : Ev tb σ H (.int j)) : Ev (tCB (fun xs H Q => ∃ i j, xs = [.int i, .int j] ∧ Q (.int (if j < i then j else i)) H) (tCons ta (tCons tb tNil))) σ H (.int (min i j)) := fun H1 e Q q =>
  ha H1 e _ fun H2 e2 => hb H2 (e.trans e2) _ fun H3 e3 => ⟨i, j, rfl, by
    have : (if j < i then j else i) = min i j := by split <;> omega
    rw [this]
    exact q H3 (e2.trans e3)⟩
theorem e_max2 {i j : Int} (ha : Ev ta σ H (.int i)) (hb : Ev tb σ H (.int j)) : Ev (tCB (fun xs H Q => ∃ i j, xs = [.int i, .int j] ∧ Q (.int (if j > i then j else i)) H) (tCons ta (tCons tb tNil))) σ H (.int (max i j)) := fun H1 e Q q =>
  ha H1 e _ fun H2 e2 => hb H2 (e.trans e2) _ fun H3 e3 => ⟨i, j, rfl, by
    have : (if j > i then j else i) = max i j := by split <;> omega
    rw [this]
    exact q H3 (e2.trans e3)⟩
theorem l_mapR2 {α' : Type} {f : α' → V} {ta' : TA} {jx : Nat} {ws : List Nat} {lo n : Int} (g : Nat → α') (h : EvA ta' σ H [.int lo, .int n]) (hn : -100000 ≤ lo ∧ lo ≤ 100000 ∧ -100000 ≤ n ∧ n ≤ 100000 ∧ n - lo ≤ 40000) (he : ∀ k : Nat, lo + (k : Int) < n → Ev te ((wipe σ ws).set jx (some (.int (lo + (k : Int))))) H (f (g k)))
    (hw : ∀ w, wipe ((wipe σ ws).set jx (some w)) ws = wipe σ ws := by exact fun _ => rfl) : EvL (tLc (iRng2 ta') (gName jx) tYes te ws) σ H (((List.range (n - lo).toNat).map g).map f) := fun H0 e0 Q q => h H0 e0 _ fun H1 e1 => ⟨lo, n, rfl, ⟨by omega, by omega, by omega, by omega⟩, fun Dl hD =>
  lc_range (lo := lo) (n := (n - lo).toNat) (Cw H1 (fun _ => true) (fun k => f (g k)) Dl) ⟨hD, Ex.new hD, upd_same⟩ (fun i H2 hi p =>
    ⟨hw _, cw_turn p (by omega) (fun H4 _ Q k => k H4 (Ex.refl H4)) (fun _ => (he i (by omega)).mono (e0.trans e1))⟩) (fun H2 p => by
      have h3 := p.2.2
      rw [given_all] at h3
      exact q Dl H2 (fresh_back e1 p.1) (e1.trans p.2.1) (h3.trans (by rw [List.map_map]; rfl)))⟩
theorem e_ixLast {f : α → V} {l : List α} (d : α) {pl : Addr} (h : Ev ta σ H (.ref pl)) (hS : SqL K H pl (l.map f)) (hb : Ev tb σ H (.int (-1))) (hi : 0 < l.length) : Ev (tOp (rIxL K) ta tb) σ H (f (l.getLastD d)) :=
  ev_op h hb (rv_ixL hS (by
    unfold atI
    rw [ixN_at (j := l.length - 1) (by rw [List.length_map]; omega)]
    show (l.map f)[l.length - 1]? = _
    rw [List.getElem?_map, List.getElem?_eq_getElem (by omega)]
    show some _ = some _
    congr 2
    rw [List.getLastD_eq_getLast?, List.getLast?_eq_getElem?, List.getElem?_eq_getElem (by omega)]
    rfl))
/-- a filter ahead -/
theorem given_filter {β : Type} (f : β → V) (g : α → β) (c : α → Bool) (l : List α) (d : α) : given l.length (fun k => c (l.getD k d)) (fun k => f (g (l.getD k d))) = ((l.filter c).map g).map f := by
  unfold given
  rw [List.map_map]
  have e : l = (List.range l.length).map (fun k => l.getD k d) := by
    apply List.ext_getElem
    · simp
    · intro k h1 h2
      simp only [List.getElem_map, List.getElem_range]
      rw [List.getD_eq_getElem?_getD, List.getElem?_eq_getElem h1]
      rfl
  conv => rhs; rw [e, List.filter_map, List.map_map]
  rfl
theorem l_filL {β : Type} {f : α → V} {f2 : β → V} {l : List α} {pl : Addr} {jx : Nat} {ws : List Nat} {t : TT} (c : α → Bool) (g : α → β) (d : α) (h : Ev tl' σ H (.ref pl)) (hS : SqL K H pl (l.map f)) (hz : l.length ≤ 40000)
    (ht : ∀ y ∈ l, EvT t ((wipe σ ws).set jx (some (f y))) H (c y)) (he : ∀ y ∈ l, c y = true → Ev te ((wipe σ ws).set jx (some (f y))) H (f2 (g y))) (hw : ∀ w, wipe ((wipe σ ws).set jx (some w)) ws = wipe σ ws := by exact fun _ => rfl) :
    EvL (tLc (iList K tl') (gName jx) t te ws) σ H (((l.filter c).map g).map f2) := by
  have q := el_lcL (t := t) (te := te) (fun k => c (l.getD k d)) (fun k => f2 (g (l.getD k d))) h hS (by rw [List.length_map]; exact hz) hw (fun k w H1 e hk => by
    obtain ⟨hm, ew⟩ := map_at d hk
    rw [ew]
    exact (ht _ hm).mono e) (fun k w H1 e hk hc => by
    obtain ⟨hm, ew⟩ := map_at d hk
    rw [ew]
    exact (he _ hm hc).mono e)
  rw [List.length_map, given_filter] at q
  exact q
theorem paired_self {E : V → V → Prop} : ∀ {l : List V}, (∀ y ∈ l, E y y) → Paired E l l
  | [], _ => .nil
  | _ :: r, h => .cons (h _ List.mem_cons_self) (paired_self fun y hy => h y (List.mem_cons_of_mem _ hy))
/-- two new lists that are equal -/
theorem e_eqLL {f : α → V} {l l2 : List α} (hf : ∀ y, flatB (f y) = true) (ha : EvL ta σ H (l.map f)) (hb : EvL tb σ H (l2.map f)) (h : l = l2) : Ev (tOp (rEqV K) ta tb) σ H (.bl true) :=
  ev_opLL ha hb fun p q H1 hp hq _ => fun H2 e2 Q k => ⟨1, by decide, Or.inl ⟨p, q, _, _, rfl, rfl, sq_of (e2 p _ hp), sq_of (e2 q _ hq), by
    rw [← h]
    exact paired_self fun y hy => by
      obtain ⟨z, _, rfl⟩ := List.mem_map.mp hy
      exact Or.inl ⟨rfl, hf z⟩⟩, k H2 (Ex.refl H2)⟩
/-! ## a text many times -/
def rep (p : Tx) (n : Int) : Tx := (List.replicate n.toNat p).flatten
def rMulT : R2 := fun x y H Q => ∃ i n, x = .str i ∧ y = .int n ∧ MulOk i n ∧ Q (.str (Txt.mul i n)) H
theorem op_mulT {X : Cx} : OpR X (binaryOp .Mult) rMulT := by
  intro pins s σ H x y v u Q I rx ry h
  obtain ⟨i, n, rfl, rfl, hok, q⟩ := h
  obtain ⟨t, rfl⟩ := rx
  obtain ⟨t', rfl⟩ := ry
  exact SB.mul hok fun t' tk => ⟨.str (Txt.mul i n), H, I.tok _, ⟨_, rfl⟩, q⟩
theorem fold_tl : ∀ (k : Nat) (a p : Array Nat), ((List.replicate k p).foldl (· ++ ·) a).toList = a.toList ++ (List.replicate k p.toList).flatten
  | 0, a, p => by simp
  | k + 1, a, p => by
    rw [List.replicate_succ, List.foldl_cons, fold_tl k, List.replicate_succ, List.flatten_cons, Array.toList_append, List.append_assoc]
theorem mul_of (p : Tx) (n : Int) : Txt.mul (mk p) n = mk (rep p n) := by
  unfold Txt.mul rep
  by_cases h : n < 1
  · rw [if_pos h, show n.toNat = 0 by omega]
    rfl
  · rw [if_neg h]
    by_cases h2 : (n == 1 || (mk p).length == 0) = true
    · rw [if_pos h2]
      rcases Bool.or_eq_true_iff.mp h2 with h3 | h3
      · have : n = 1 := by simpa using h3
        subst this
        show mk p = mk ((List.replicate 1 p).flatten)
        simp
      · rw [len_of] at h3
        have : p = [] := List.length_eq_zero_iff.mp (by simpa using h3)
        subst this
        simp
    · rw [if_neg h2]
      exact ext_tl (by
        rw [tl_of]
        show ((List.replicate n.toNat (mk p).cps).foldl (· ++ ·) #[]).toList = _
        rw [fold_tl]
        rfl)
theorem mulok {p : Tx} {n : Int} (h : n ≤ 4096 ∧ p.length ≤ 4096 ∧ -4096 ≤ n) : MulOk (mk p) n := by
  have e : (mk p).length = p.length := len_of p
  refine ⟨by simp only [Bool.or_eq_false_iff, decide_eq_false_iff_not]; omega, fun h1 _ => ?_, fun h1 _ => ?_⟩
  · rw [e]
    have h5 : ((2 : Int) ^ 63 - 1) / 4096 ≤ (2 ^ 63 - 1) / n := by
      apply Int.le_ediv_of_mul_le (by omega)
      have : ((2 : Int) ^ 63 - 1) / 4096 * n ≤ ((2 : Int) ^ 63 - 1) / 4096 * 4096 := Int.mul_le_mul_of_nonneg_left h.1 (by decide)
      exact Int.le_trans this (by decide)
    have h6 : (4096 : Int) ≤ (2 ^ 63 - 1) / 4096 := by decide
    omega
  · rw [e]
    have h5 : p.length * n.toNat ≤ 4096 * 4096 := Nat.mul_le_mul h.2.1 (by omega)
    unfold Builtin.Str.tooLong
    simp only [decide_eq_false_iff_not]
    have : sizeLine = 16777216 := rfl
    omega
theorem e_mulT {p : Tx} {n : Int} (ha : Ev ta σ H (vs p)) (hb : Ev tb σ H (.int n)) (h : n ≤ 4096 ∧ p.length ≤ 4096 ∧ -4096 ≤ n) : Ev (tOp rMulT ta tb) σ H (vs (rep p n)) :=
  ev_op ha hb fun H1 _ Q k => ⟨mk p, n, rfl, rfl, mulok h, by rw [mul_of]; exact k H1 (Ex.refl H1)⟩
/-- the state behind a loop that nothing leaves by return -/
def outL [Inhabited S] : Stp S Unit → S
  | .go s => s
  | .brk s => s
  | .ret _ => default
theorem outL_of [Inhabited S] {o : Stp S Unit} {s : S} (h : o = .go s ∨ o = .brk s) : s = outL o := by
  rcases h with h | h
  · rw [h]
    rfl
  · rw [h]
    rfl
end
/-! ## rules whose answer hangs on the written part, with it named -/
section
variable {X : Cx}
theorem sl_listK (K : PySem.W.Frag) (h : X.K = K := by rfl) : SlR X (rSlL K) := h ▸ sl_list
theorem ix_listK (K : PySem.W.Frag) (h : X.K = K := by rfl) : IxR X (rIxL K) := h ▸ ix_list
theorem op_inK (K : PySem.W.Frag) (h : X.K = K := by rfl) : OpR X (compareOp .In) (rIn K false) := h ▸ op_in_seq
theorem call_lenK (K : PySem.W.Frag) (h : X.K = K := by rfl) : CallR X (.builtin "len") (rLenS K) := h ▸ call_lenQ
theorem cr_allK (K : PySem.W.Frag) (hc : X.calm = true) (h : X.K = K := by rfl) : CallR X (.builtin "all") (rAll K) := h ▸ cr_all hc
theorem call_isiK' (K : PySem.W.Frag) (h : X.K = K := by rfl) : CallR X (.builtin "isinstance") (rIsi K) := h ▸ call_isi
theorem op_eqVK (K : PySem.W.Frag) (hu : X.A.units + 64 < cLine) (h : X.K = K := by rfl) : OpR X (compareOp .Eq) (rEqV K) := h ▸ op_eqV hu
theorem pi_listK (K : PySem.W.Frag) {tg l : Expr} {tl' : TE} (hl : PE X l tl') (h : X.K = K := by rfl) : PI X tg l (iList K tl') := h ▸ pi_list hl
theorem pe_joinK (K : PySem.W.Frag) {o e : Expr} {to te : TE} {apos pos : Pos} (ho : PE X o to) (he : PE X e te) (h : X.K = K := by rfl) (hs : starEach [e] X.env = [(false, eval e X.env)] := by rfl) (hbase : attributeBase o "join" X.env (eval o X.env) = eval o X.env := by rfl) (hline : (apos.endLine == pos.line) = true := by rfl) :
    PE X (.Call (.Attribute o "join" apos) [e] [] pos) (tM1 (rJoinT K) to te) := h ▸ pe_joinT ho he hs hbase hline
end
/-! ## texts and their parts -/
theorem cuts_nil (c : Nat) : cuts c [] = [[]] := rfl
theorem spl_acc (c : Nat) : ∀ (l acc : Tx), spl [c] 0 acc l = match spl [c] 0 [] l with | [] => [] | p :: r => (acc ++ p) :: r
  | [], acc => by rw [spl_nil, spl_nil]; simp
  | d :: r, acc => by
    by_cases h : d = c
    · subst h
      have hp : pre [d] (d :: r) = true := by simp [pre]
      rw [spl_hit hp, spl_hit hp]
      simp
    · have hp : pre [c] (d :: r) = false := pre_of_head [] r h
      rw [spl_miss hp, spl_miss hp, spl_acc c r (acc ++ [d]), spl_acc c r ([] ++ [d])]
      cases spl [c] 0 [] r with
      | nil => rfl
      | cons p q => simp
theorem cuts_hit (c : Nat) (r : Tx) : cuts c (c :: r) = [] :: cuts c r := by
  have hp : pre [c] (c :: r) = true := by simp [pre]
  exact spl_hit hp
theorem cuts_miss {c d : Nat} (h : d ≠ c) (r : Tx) : cuts c (d :: r) = match cuts c r with | [] => [] | p :: q => (d :: p) :: q := by
  have hp : pre [c] (d :: r) = false := pre_of_head [] r h
  show spl [c] 0 [] (d :: r) = _
  rw [spl_miss hp, spl_acc]
  rfl
theorem cuts_ne (c : Nat) : ∀ l : Tx, cuts c l ≠ []
  | [] => by rw [cuts_nil]; simp
  | d :: r => by
    by_cases h : d = c
    · subst h
      rw [cuts_hit]
      simp
    · rw [cuts_miss h]
      have := cuts_ne c r
      cases e : cuts c r with
      | nil => exact absurd e this
      | cons p q => simp
theorem cuts_len (c : Nat) : ∀ l : Tx, (cuts c l).length ≤ l.length + 1
  | [] => by rw [cuts_nil]; simp
  | d :: r => by
    have ih := cuts_len c r
    by_cases h : d = c
    · subst h
      rw [cuts_hit]
      simp only [List.length_cons]
      omega
    · rw [cuts_miss h]
      cases e : cuts c r with
      | nil => simp
      | cons p q =>
        rw [e] at ih
        simp only [List.length_cons] at ih ⊢
        omega
theorem sumLen_cons (p : Tx) (l : List Tx) : sumLen (p :: l) = p.length + sumLen l := by
  unfold sumLen
  rw [List.map_cons, List.sum_cons]
theorem sumLen_nil : sumLen [] = 0 := rfl
theorem sumLen_app (l m : List Tx) : sumLen (l ++ m) = sumLen l + sumLen m := by
  unfold sumLen
  rw [List.map_append, List.sum_append]
theorem cuts_sum (c : Nat) : ∀ l : Tx, sumLen (cuts c l) ≤ l.length
  | [] => by rw [cuts_nil]; decide
  | d :: r => by
    have ih := cuts_sum c r
    by_cases h : d = c
    · subst h
      rw [cuts_hit, sumLen_cons]
      simp only [List.length_cons, List.length_nil]
      omega
    · rw [cuts_miss h]
      cases e : cuts c r with
      | nil => simp [sumLen_nil]
      | cons p q =>
        rw [e, sumLen_cons] at ih
        show sumLen ((d :: p) :: q) ≤ _
        rw [sumLen_cons]
        simp only [List.length_cons]
        omega
theorem sumLen_mem : ∀ {l : List Tx} {k : Tx}, k ∈ l → k.length ≤ sumLen l
  | [], k, h => by cases h
  | p :: r, k, h => by
    rw [sumLen_cons]
    rcases List.mem_cons.mp h with e | e
    · subst e
      omega
    · have := sumLen_mem e
      omega
theorem cuts_mem (c : Nat) {l k : Tx} (h : k ∈ cuts c l) : k.length ≤ l.length := Nat.le_trans (sumLen_mem h) (cuts_sum c l)
theorem sumLen_take : ∀ (l : List Tx) (n : Nat), sumLen (l.take n) ≤ sumLen l
  | [], n => by simp
  | p :: r, 0 => by rw [List.take_zero, sumLen_nil]; omega
  | p :: r, n + 1 => by
    rw [List.take_succ_cons, sumLen_cons, sumLen_cons]
    have := sumLen_take r n
    omega
theorem sumLen_drop : ∀ (l : List Tx) (n : Nat), sumLen (l.drop n) ≤ sumLen l
  | [], n => by simp
  | p :: r, 0 => by rw [List.drop_zero]; omega
  | p :: r, n + 1 => by
    rw [List.drop_succ_cons, sumLen_cons]
    have := sumLen_drop r n
    omega
theorem cut_sum (l : List Tx) (a b : Option Int) : sumLen (cutG l a b) ≤ sumLen l := Nat.le_trans (sumLen_take _ _) (sumLen_drop _ _)
theorem cut_len {α : Type} (l : List α) (a b : Option Int) : (cutG l a b).length ≤ l.length := by
  unfold cutG
  rw [List.length_take, List.length_drop]
  omega
theorem joinL_len (s : Tx) : ∀ l : List Tx, (joinL s l).length ≤ sumLen l + l.length * s.length
  | [] => by simp [joinL]
  | [p] => by simp [joinL, sumLen]
  | p :: q :: r => by
    have ih := joinL_len s (q :: r)
    show (p ++ (s ++ joinL s (q :: r))).length ≤ _
    rw [sumLen_cons, List.length_append, List.length_append, List.length_cons, Nat.succ_mul]
    omega
theorem getD_le {l : List Tx} {n : Nat} (h : ∀ p ∈ l, p.length ≤ n) (i : Nat) : (l.getD i []).length ≤ n := by
  rw [List.getD_eq_getElem?_getD]
  cases e : l[i]? with
  | none => simp
  | some p => exact h p (List.mem_of_getElem? e)
end Vf


namespace K02
open PySem PySem.Spec PyProof.Rows L2 TL Evl Vf
/-! ## written texts -/
def lit0 : Tx := tx "/"
theorem len_lit0 : lit0.length = 1 := by decide +kernel
def lit1 : Tx := tx "abcdefghijklmnopqrstuvwxyzABCDEFGHIJKLMNOPQRSTUVWXYZ0123456789.-_"
theorem len_lit1 : lit1.length = 65 := by decide +kernel
def lit2 : Tx := tx "."
theorem len_lit2 : lit2.length = 1 := by decide +kernel
def lit3 : Tx := tx ".."
theorem len_lit3 : lit3.length = 2 := by decide +kernel
def lit4 : Tx := tx "x."
theorem len_lit4 : lit4.length = 2 := by decide +kernel
/-! ## mirrors -/
/-! ### above -/
def m_above_v1 (ppath : Tx) : List Tx := (cuts 47 ppath)
def m_above (ppath : Tx) : List Tx := ((List.range (((m_above_v1 ppath).length : Int) - (1 : Int)).toNat).map (fun k0 : Nat => (joinL lit0 (cutG (m_above_v1 ppath) none (some ((1 : Int) + (k0 : Int)))))))
/-! ### is_beneath -/
def m_is_beneath (ppath : Tx) (pupper : Tx) : Bool := ((pupper ++ lit0).isPrefixOf ppath)
/-! ### _law_cell_at -/
def m_law_cell_at (p_script : List Int) (p_k : Int) : Int := (if (decide (p_k < (p_script.length : Int))) = true then (p_script.getD p_k.toNat 0) else (0 : Int))
/-! ### _law_sign_by -/
def m_law_sign_by (p_k : Int) : Tx := [lit1.getD (p_k % (65 : Int)).toNat 0]
/-! ### _law_part_by -/
def m_law_part_by_v1 (p_cell : Int) : Tx := (m_law_sign_by p_cell)
def m_law_part_by_v2 (p_cell : Int) : Tx := if (decide (((p_cell / (65 : Int)) % (2 : Int)) = (1 : Int))) = true then ((m_law_part_by_v1 p_cell) ++ (m_law_sign_by (p_cell / (130 : Int)))) else (m_law_part_by_v1 p_cell)
def m_law_part_by (p_cell : Int) : Tx := (if ((decide ((m_law_part_by_v2 p_cell) = lit2)) || (decide ((m_law_part_by_v2 p_cell) = lit3))) = true then lit4 else (m_law_part_by_v2 p_cell))
/-! ### _law_begins -/
def m_law_begins_step1 (p_upper : List Tx) (p_lower : List Tx) : Unit → Nat → Stp (Unit) (Bool) := fun s1 y1 => (if (!decide ((p_upper.getD (y1 : Int).toNat []) = (p_lower.getD (y1 : Int).toNat []))) = true then (Stp.ret false) else (Stp.go ()))
def m_law_begins (p_upper : List Tx) (p_lower : List Tx) : Bool := (if (decide ((p_upper.length : Int) ≥ (p_lower.length : Int))) = true then false else (aftL (runL (m_law_begins_step1 p_upper p_lower) (List.range (p_upper.length : Int).toNat) ()) (fun s1 => true)))
/-! ### law -/
def m_law_v1 (p_script : List Int) : List Tx := ((List.range ((1 : Int) + ((m_law_cell_at p_script (0 : Int)) % (8 : Int))).toNat).map (fun k0 : Nat => (m_law_part_by (m_law_cell_at p_script ((4 : Int) + (k0 : Int))))))
def m_law_v2 (p_script : List Int) : List Tx := ((List.range ((1 : Int) + ((m_law_cell_at p_script (1 : Int)) % (8 : Int))).toNat).map (fun k0 : Nat => (m_law_part_by (m_law_cell_at p_script ((12 : Int) + (k0 : Int))))))
def m_law_v3 (p_script : List Int) : Int := ((m_law_cell_at p_script (2 : Int)) % (((m_law_v1 p_script).length : Int) + (1 : Int)))
def m_law_v4 (s1 : List Tx) (y1 : Nat) (p_script : List Int) : List Tx := s1.set ((y1 : Int)).toNat ((m_law_v1 p_script).getD (y1 : Int).toNat [])
def m_law_step1 (p_script : List Int) : List Tx → Nat → Stp (List Tx) (Unit) := fun s1 y1 => (Stp.go (m_law_v4 s1 y1 p_script))
def m_law_v5 (p_script : List Int) : List Tx := outL (runL (m_law_step1 p_script) (List.range (min (m_law_v3 p_script) ((m_law_v2 p_script).length : Int)).toNat) (m_law_v2 p_script))
def m_law_v6 (p_script : List Int) : Int := ((min (max (m_law_v3 p_script) (1 : Int)) ((m_law_v5 p_script).length : Int)) - (1 : Int))
def m_law_v7 (p_script : List Int) : List Tx := (m_law_v5 p_script).set ((m_law_v6 p_script)).toNat (((m_law_v5 p_script).getD (m_law_v6 p_script).toNat []) ++ (m_law_sign_by ((m_law_cell_at p_script (3 : Int)) % (62 : Int))))
def m_law_v8 (p_script : List Int) : List Tx := if (decide ((((m_law_cell_at p_script (2 : Int)) / (9 : Int)) % (4 : Int)) = (1 : Int))) = true then (m_law_v7 p_script) else (m_law_v5 p_script)
def m_law_v9 (p_script : List Int) : Int := ((min (max (m_law_v3 p_script) (1 : Int)) ((m_law_v8 p_script).length : Int)) - (1 : Int))
def m_law_v10 (p_script : List Int) : List Tx := (m_law_v8 p_script).set ((m_law_v9 p_script)).toNat ((cutG ((m_law_v8 p_script).getD (m_law_v9 p_script).toNat []) none (some (-(1 : Int)))) ++ (m_law_sign_by ((m_law_cell_at p_script (3 : Int)) % (62 : Int))))
def m_law_v11 (p_script : List Int) : List Tx := if (decide ((((m_law_cell_at p_script (2 : Int)) / (9 : Int)) % (4 : Int)) = (2 : Int))) = true then (m_law_v10 p_script) else (m_law_v8 p_script)
def m_law_v12 (p_script : List Int) : Tx := (joinL lit0 (m_law_v1 p_script))
def m_law_v13 (p_script : List Int) : Tx := (joinL lit0 (m_law_v11 p_script))
def m_law_v14 (p_script : List Int) : Bool := (m_is_beneath (m_law_v13 p_script) (m_law_v12 p_script))
def m_law_v15 (p_script : List Int) : Bool := (m_is_beneath (m_law_v12 p_script) (m_law_v13 p_script))
def m_law (p_script : List Int) : Bool := (if ((!true) || (!true)) = true then false else (if ((!((m_law_v14 p_script) == (m_law_begins (m_law_v1 p_script) (m_law_v11 p_script)))) || (!((m_law_v15 p_script) == (m_law_begins (m_law_v11 p_script) (m_law_v1 p_script))))) = true then false else (((decide ((m_law_v12 p_script) ∈ (m_above (m_law_v13 p_script)))) == (m_law_v14 p_script)) && ((decide ((m_law_v13 p_script) ∈ (m_above (m_law_v12 p_script)))) == (m_law_v15 p_script)))))

theorem above_sum (p : Tx) : sumLen (m_above_v1 p) ≤ p.length := cuts_sum 47 p
theorem sign_len (k : Int) : (m_law_sign_by k).length = 1 := rfl
theorem no_app {c : Nat} {a b : Tx} (h1 : c ∉ a) (h2 : c ∉ b) : c ∉ a ++ b := fun h => (List.mem_append.mp h).elim h1 h2
theorem lit0_eq : lit0 = [47] := rfl
/-- parts as the law draws them: of few signs, without a stroke -/
def Good (n : Nat) (l : List Tx) : Prop := (1 ≤ l.length ∧ l.length ≤ 8) ∧ (∀ p ∈ l, 47 ∉ p) ∧ ∀ p ∈ l, p.length ≤ n
theorem sign_no (k : Int) : 47 ∉ m_law_sign_by k := by
  unfold m_law_sign_by
  have h0 : ∀ c ∈ lit1, c ≠ 47 := by decide +kernel
  have h1 : lit1.getD (k % 65).toNat 0 ∈ lit1 := by
    rw [List.getD_eq_getElem?_getD]
    have h2 : (k % 65).toNat < lit1.length := by rw [len_lit1]; omega
    rw [List.getElem?_eq_getElem h2]
    exact List.getElem_mem h2
  intro h
  exact h0 _ h1 (List.mem_singleton.mp h).symm
theorem part_ok (c : Int) : 47 ∉ m_law_part_by c ∧ (m_law_part_by c).length ≤ 2 := by
  have h1 := sign_no c
  have h2 := sign_no (c / 130)
  have l1 := sign_len c
  have l2 := sign_len (c / 130)
  have h : 47 ∉ m_law_part_by_v2 c ∧ (m_law_part_by_v2 c).length ≤ 2 := by
    unfold m_law_part_by_v2
    split
    · exact ⟨no_app h1 h2, by rw [List.length_append]; show (m_law_sign_by c).length + _ ≤ 2; omega⟩
    · exact ⟨h1, by show (m_law_sign_by c).length ≤ 2; omega⟩
  unfold m_law_part_by
  split
  · exact ⟨by decide, by decide⟩
  · exact h
theorem map_good {n : Nat} (h1 : 1 ≤ n ∧ n ≤ 8) (g : Nat → Int) : Good 2 ((List.range n).map fun k => m_law_part_by (g k)) := by
  refine ⟨by rw [List.length_map, List.length_range]; exact h1, fun p hp => ?_, fun p hp => ?_⟩
  · obtain ⟨k, _, rfl⟩ := List.mem_map.mp hp
    exact (part_ok _).1
  · obtain ⟨k, _, rfl⟩ := List.mem_map.mp hp
    exact (part_ok _).2
theorem v1_ok (s : List Int) : Good 2 (m_law_v1 s) := map_good (by omega) _
theorem v2_ok (s : List Int) : Good 2 (m_law_v2 s) := map_good (by omega) _
theorem v3_in (s : List Int) : 0 ≤ m_law_v3 s ∧ m_law_v3 s ≤ (m_law_v1 s).length := by
  unfold m_law_v3
  have h1 := Int.emod_nonneg (m_law_cell_at s 2) (b := ((m_law_v1 s).length : Int) + 1) (by omega)
  have h2 := Int.emod_lt_of_pos (m_law_cell_at s 2) (b := ((m_law_v1 s).length : Int) + 1) (by omega)
  omega
theorem set_good {n : Nat} {l : List Tx} (h : Good n l) (i : Nat) {v : Tx} (h1 : 47 ∉ v) (h2 : v.length ≤ n) : Good n (l.set i v) := by
  refine ⟨by rw [List.length_set]; exact h.1, fun p hp => ?_, fun p hp => ?_⟩
  · rcases List.mem_or_eq_of_mem_set hp with e | e
    · exact h.2.1 p e
    · rw [e]; exact h1
  · rcases List.mem_or_eq_of_mem_set hp with e | e
    · exact h.2.2 p e
    · rw [e]; exact h2
theorem Good.at {n : Nat} {l : List Tx} (h : Good n l) (i : Nat) : 47 ∉ l.getD i [] ∧ (l.getD i []).length ≤ n := by
  rw [List.getD_eq_getElem?_getD]
  cases e : l[i]? with
  | none => exact ⟨by simp, by simp⟩
  | some p => exact ⟨h.2.1 p (List.mem_of_getElem? e), h.2.2 p (List.mem_of_getElem? e)⟩
theorem Good.mono {n m : Nat} {l : List Tx} (h : Good n l) (hm : n ≤ m) : Good m l := ⟨h.1, h.2.1, fun p hp => Nat.le_trans (h.2.2 p hp) hm⟩
theorem run1_gen (s : List Int) : ∀ (l : List Nat) (t : List Tx), Good 2 t → ∃ t2, runL (m_law_step1 s) l t = .go t2 ∧ Good 2 t2 ∧ t2.length = t.length
  | [], t, h => ⟨t, rfl, h, rfl⟩
  | y :: r, t, h => by
    have g := set_good h ((y : Int)).toNat ((v1_ok s).at (y : Int).toNat).1 ((v1_ok s).at (y : Int).toNat).2
    obtain ⟨t2, e, g2, l2⟩ := run1_gen s r _ g
    rw [List.length_set] at l2
    exact ⟨t2, (runL_go (show m_law_step1 s t y = .go (m_law_v4 t y s) from rfl)).trans e, g2, l2⟩
theorem run1_ok {s : List Int} {n i : Nat} {t : List Tx} (h : runL (m_law_step1 s) ((List.range n).take i) (m_law_v2 s) = .go t) : t.length = (m_law_v2 s).length := by
  obtain ⟨t2, e, _, l2⟩ := run1_gen s ((List.range n).take i) (m_law_v2 s) (v2_ok s)
  rw [e] at h
  injection h with h
  rw [← h]
  exact l2
theorem v5_ok (s : List Int) : Good 2 (m_law_v5 s) := by
  obtain ⟨t2, e, g, _⟩ := run1_gen s (List.range (min (m_law_v3 s) ((m_law_v2 s).length : Int)).toNat) (m_law_v2 s) (v2_ok s)
  unfold m_law_v5
  rw [e]
  exact g
theorem v8_ok (s : List Int) : Good 3 (m_law_v8 s) := by
  have g5 := v5_ok s
  unfold m_law_v8
  split
  · have a := g5.at (m_law_v6 s).toNat
    exact set_good (g5.mono (by decide)) _ (no_app a.1 (sign_no _)) (by rw [List.length_append]; have := sign_len ((m_law_cell_at s (3 : Int)) % (62 : Int)); omega)
  · exact g5.mono (by decide)
theorem cut_mem {α : Type} {l : List α} {a b : Option Int} {x : α} (h : x ∈ cutG l a b) : x ∈ l := List.mem_of_mem_drop (List.mem_of_mem_take h)
theorem v11_ok (s : List Int) : Good 4 (m_law_v11 s) := by
  have g8 := v8_ok s
  unfold m_law_v11
  split
  · have a := g8.at (m_law_v9 s).toNat
    exact set_good (g8.mono (by decide)) _ (no_app (fun z => a.1 (cut_mem z)) (sign_no _)) (by
      rw [List.length_append]
      have := sign_len ((m_law_cell_at s (3 : Int)) % (62 : Int))
      have := cut_len ((m_law_v8 s).getD (m_law_v9 s).toNat []) none (some (-(1 : Int)))
      omega)
  · exact g8.mono (by decide)
theorem sumLen_le {n : Nat} : ∀ {l : List Tx}, (∀ p ∈ l, p.length ≤ n) → sumLen l ≤ n * l.length
  | [], _ => by simp [sumLen_nil]
  | p :: r, h => by
    have h1 := h p List.mem_cons_self
    have h2 := sumLen_le (l := r) (fun q hq => h q (List.mem_cons_of_mem _ hq))
    rw [sumLen_cons, List.length_cons, Nat.mul_succ]
    omega
theorem Good.sum {n : Nat} {l : List Tx} (h : Good n l) : sumLen l ≤ n * 8 := Nat.le_trans (sumLen_le h.2.2) (Nat.mul_le_mul_left n h.1.2)
theorem Good.join {n : Nat} {l : List Tx} (h : Good n l) (hn : n ≤ 4) : (joinL lit0 l).length ≤ 60 := by
  have h1 := h.sum
  have h2 := joinL_len lit0 l
  have h3 := Nat.mul_le_mul_right 8 hn
  have h4 := h.1.2
  rw [lit0_eq] at h2 ⊢
  simp only [List.length_cons, List.length_nil] at h2
  omega
theorem v12_le (s : List Int) : (m_law_v12 s).length ≤ 60 := (v1_ok s).join (by decide)
theorem v13_le (s : List Int) : (m_law_v13 s).length ≤ 60 := (v11_ok s).join (by decide)
/-! what lies beneath what, by parts -/
theorem cuts_join {n : Nat} {l : List Tx} (h : Good n l) : cuts 47 (joinL [47] l) = l := spl_join (List.length_pos_iff.mp h.1.1) h.2.1
theorem cuts_two : ∀ (a r : Tx), cuts 47 (a ++ 47 :: r) = cuts 47 a ++ cuts 47 r
  | [], r => by rw [List.nil_append, cuts_hit, cuts_nil]; rfl
  | d :: a, r => by
    rw [List.cons_append]
    by_cases h : d = 47
    · subst h
      rw [cuts_hit, cuts_hit, cuts_two a r]
      rfl
    · rw [cuts_miss h, cuts_miss h, cuts_two a r]
      cases e : cuts 47 a with
      | nil => exact absurd e (cuts_ne 47 a)
      | cons p q => rfl
theorem joinL_two (c : Nat) : ∀ (P R : List Tx), P ≠ [] → R ≠ [] → joinL [c] (P ++ R) = joinL [c] P ++ c :: joinL [c] R
  | [], _, h, _ => absurd rfl h
  | [p], R, _, h => by
    cases R with
    | nil => exact absurd rfl h
    | cons q r => rfl
  | p :: q :: r, R, _, h => by
    have ih := joinL_two c (q :: r) R (by simp) h
    show p ++ ([c] ++ joinL [c] ((q :: r) ++ R)) = _
    rw [ih]
    simp [joinL]
/-- the one begins the other, which has more -/
def PP (P Q : List Tx) : Prop := P.length < Q.length ∧ Q.take P.length = P
instance (P Q : List Tx) : Decidable (PP P Q) := by unfold PP; exact inferInstance
theorem beneath_pp {n m : Nat} {P Q : List Tx} (hP : Good n P) (hQ : Good m Q) : m_is_beneath (joinL lit0 Q) (joinL lit0 P) = decide (PP P Q) := by
  unfold m_is_beneath
  rw [lit0_eq]
  by_cases h : PP P Q
  · rw [decide_eq_true h]
    have e : Q = P ++ Q.drop P.length := by
      conv => lhs; rw [← List.take_append_drop P.length Q, h.2]
    have hd : Q.drop P.length ≠ [] := fun z => by
      have := congrArg List.length z
      rw [List.length_drop, List.length_nil] at this
      have := h.1
      omega
    rw [e, joinL_two 47 _ _ (List.length_pos_iff.mp hP.1.1) hd]
    exact List.isPrefixOf_iff_prefix.mpr ⟨joinL [47] (Q.drop P.length), by simp⟩
  · rw [decide_eq_false h]
    cases e : (joinL [47] P ++ [47]).isPrefixOf (joinL [47] Q) with
    | false => rfl
    | true =>
      obtain ⟨r, hr⟩ := List.isPrefixOf_iff_prefix.mp e
      have h1 := congrArg (cuts 47) hr
      rw [cuts_join hQ, List.append_assoc] at h1
      rw [show [47] ++ r = 47 :: r from rfl, cuts_two, cuts_join hP] at h1
      have h2 : 0 < (cuts 47 r).length := List.length_pos_iff.mpr (cuts_ne 47 r)
      exact absurd ⟨by rw [← h1, List.length_append]; omega, by rw [← h1, List.take_left]⟩ h
theorem begins_run (P Q : List Tx) (h : P.length < Q.length) : ∀ i, i ≤ P.length → runL (m_law_begins_step1 P Q) (List.range i) () = if P.take i = Q.take i then .go () else .ret false := by
  intro i
  induction i with
  | zero => intro _; rfl
  | succ i ih =>
    intro hi
    have e1 : P.take (i + 1) = P.take i ++ [P.getD i []] := by
      rw [List.take_add_one, List.getD_eq_getElem?_getD, List.getElem?_eq_getElem (by omega)]
      rfl
    have e2 : Q.take (i + 1) = Q.take i ++ [Q.getD i []] := by
      rw [List.take_add_one, List.getD_eq_getElem?_getD, List.getElem?_eq_getElem (by omega)]
      rfl
    rw [List.range_succ, runL_app, ih (by omega), e1, e2]
    by_cases h1 : P.take i = Q.take i
    · rw [if_pos h1, h1]
      show runL (m_law_begins_step1 P Q) [i] () = _
      by_cases h2 : P.getD i [] = Q.getD i []
      · have e : m_law_begins_step1 P Q () i = .go () := by
          unfold m_law_begins_step1
          rw [Int.toNat_natCast, decide_eq_true h2]
          rfl
        rw [runL_go e, if_pos (by rw [h2])]
        rfl
      · have e : m_law_begins_step1 P Q () i = .ret false := by
          unfold m_law_begins_step1
          rw [Int.toNat_natCast, decide_eq_false h2]
          rfl
        rw [runL_ret e, if_neg]
        intro z
        have z2 := List.append_cancel_left z
        injection z2 with z3 _
        exact h2 z3
    · rw [if_neg h1, if_neg]
      intro z
      have z2 := (List.append_inj z (by simp only [List.length_take]; omega)).1
      exact h1 z2
theorem begins_pp (P Q : List Tx) : m_law_begins P Q = decide (PP P Q) := by
  unfold m_law_begins
  by_cases h : (P.length : Int) ≥ (Q.length : Int)
  · rw [decide_eq_true h, if_pos rfl, decide_eq_false]
    intro z
    have := z.1
    omega
  · rw [decide_eq_false h, if_neg Bool.false_ne_true, Int.toNat_natCast, begins_run P Q (by omega) _ (Nat.le_refl _), List.take_length]
    by_cases h2 : P = Q.take P.length
    · rw [if_pos h2, decide_eq_true ⟨by omega, h2.symm⟩]
      rfl
    · rw [if_neg h2, decide_eq_false (fun z => h2 z.2.symm)]
      rfl
theorem above_pp {n m : Nat} {P Q : List Tx} (hP : Good n P) (hQ : Good m Q) : decide (joinL lit0 P ∈ m_above (joinL lit0 Q)) = decide (PP P Q) := by
  have e : m_above (joinL lit0 Q) = (List.range (Q.length - 1)).map fun k => joinL [47] (Q.take (k + 1)) := by
    unfold m_above m_above_v1
    rw [lit0_eq, cuts_join hQ]
    have e3 : (((Q.length : Nat) : Int) - 1).toNat = Q.length - 1 := by omega
    rw [e3]
    apply List.map_congr_left
    intro k hk
    show joinL [47] (cutG Q none (some ((1 : Int) + (k : Int)))) = _
    rw [show (1 : Int) + (k : Int) = ((k + 1 : Nat) : Int) by omega, cutG_to]
  rw [e, lit0_eq]
  by_cases h : PP P Q
  · rw [decide_eq_true h]
    apply decide_eq_true
    refine List.mem_map.mpr ⟨P.length - 1, List.mem_range.mpr (by have := h.1; have := hP.1.1; omega), ?_⟩
    rw [Nat.sub_add_cancel hP.1.1, h.2]
  · rw [decide_eq_false h]
    apply decide_eq_false
    intro hm
    obtain ⟨k, hk, ek⟩ := List.mem_map.mp hm
    have hk2 := List.mem_range.mp hk
    have hT : Good m (Q.take (k + 1)) := ⟨by rw [List.length_take]; have := hQ.1; omega, fun p hp => hQ.2.1 p (List.mem_of_mem_take hp), fun p hp => hQ.2.2 p (List.mem_of_mem_take hp)⟩
    have h1 := congrArg (cuts 47) ek
    rw [cuts_join hT, cuts_join hP] at h1
    have hl : P.length = k + 1 := by rw [← h1, List.length_take]; omega
    exact h ⟨by omega, by rw [hl, h1]⟩
theorem law_holds (s : List Int) : m_law s = true := by
  have g1 := v1_ok s
  have g2 := v11_ok s
  unfold m_law m_law_v14 m_law_v15 m_law_v12 m_law_v13
  rw [beneath_pp g1 g2, beneath_pp g2 g1, begins_pp, begins_pp, above_pp g1 g2, above_pp g2 g1]
  generalize decide (PP (m_law_v1 s) (m_law_v11 s)) = a
  generalize decide (PP (m_law_v11 s) (m_law_v1 s)) = b
  cases a <;> cases b <;> rfl

end K02


namespace K02
open PySem PySem.Spec PyProof.Rows L2 TL Evl Vf
/-! ## the text -/
def topS (i : Nat) : Stmt := PySem.Challenge.pw_threeroad_k02_beneath.main.body.getD i (.Pass ⟨0, 0, 0, 0⟩)
abbrev s_above : Stmt := topS 1
theorem sc_above : FnScope ["path", "parts", "many"] ["path"] (defScope s_above) := ⟨rfl, rfl, rfl, by decide +kernel, rfl, by decide +kernel, by decide +kernel⟩
abbrev s_is_beneath : Stmt := topS 2
theorem sc_is_beneath : FnScope ["path", "upper"] ["path", "upper"] (defScope s_is_beneath) := ⟨rfl, rfl, rfl, by decide +kernel, rfl, by decide +kernel, by decide +kernel⟩
abbrev s_law_cell_at : Stmt := topS 4
theorem sc_law_cell_at : FnScope ["_law_script", "_law_k"] ["_law_script", "_law_k"] (defScope s_law_cell_at) := ⟨rfl, rfl, rfl, by decide +kernel, rfl, by decide +kernel, by decide +kernel⟩
abbrev s_law_sign_by : Stmt := topS 5
theorem sc_law_sign_by : FnScope ["_law_k"] ["_law_k"] (defScope s_law_sign_by) := ⟨rfl, rfl, rfl, by decide +kernel, rfl, by decide +kernel, by decide +kernel⟩
abbrev s_law_part_by : Stmt := topS 6
theorem sc_law_part_by : FnScope ["_law_cell", "_law_part"] ["_law_cell"] (defScope s_law_part_by) := ⟨rfl, rfl, rfl, by decide +kernel, rfl, by decide +kernel, by decide +kernel⟩
abbrev s_law_begins : Stmt := topS 7
theorem sc_law_begins : FnScope ["_law_upper", "_law_lower", "_law_k"] ["_law_upper", "_law_lower"] (defScope s_law_begins) := ⟨rfl, rfl, rfl, by decide +kernel, rfl, by decide +kernel, by decide +kernel⟩
abbrev s_law : Stmt := topS 8
theorem sc_law : FnScope ["_law_script", "_law_ones", "_law_others", "_law_alike", "_law_k", "_law_one", "_law_other", "_law_left", "_law_right", "_law_at"] ["_law_script"] (defScope s_law) := ⟨rfl, rfl, rfl, by decide +kernel, rfl, by decide +kernel, by decide +kernel⟩
/-- what the top leaves of names that are not defs -/
structure Bt (mg : Str → Option Value) : Prop where
  z_bool : mg "bool" = none
  z_isinstance : mg "isinstance" = none
  z_len : mg "len" = none
  z_max : mg "max" = none
  z_min : mg "min" = none
  z_range : mg "range" = none
section
variable {P : Program} {w : World} {K : PySem.W.Frag} {mg : Str → Option Value} {base : Heap}
local macro_rules | `(tactic| walk_at "vside") => `(tactic| first | omega | assumption | (simp only [List.length_cons, List.length_nil, List.length_map, List.length_range, List.length_append, List.length_set, decide_eq_true_eq, Bool.and_eq_true, Bool.or_eq_true, Bool.not_eq_true', decide_eq_false_iff_not] at *; omega))
def sp_above (K : PySem.W.Frag) : Sp := spN fun ws H v => ∃ (ppath : Tx), ws = [vs ppath] ∧ (ppath.length ≤ 900) ∧ v = List.map vs (m_above ppath)
theorem ok_above {f : Addr} {fd : FuncData} (F : Fun K "above" "above" s_above f fd) (z : Bt mg)  : FnOk P w K mg base CX0 1 f fd ["path"] (sp_above K) := by
  refine F.ok (k := 0) sc_above (fun ws H Q E h => ?_) (fun cdv A outer s H ws Q E hr h => ?_)
  · obtain ⟨_, ⟨_, rfl, _⟩, _⟩ := h
    rfl
  · obtain ⟨_, ⟨ppath, rfl, hpre, rfl⟩, k0⟩ := h
    have L_lit0 := len_lit0
    have hc1 := cuts_len 47 ppath
    refine ⟨_, (pss_cons (ps_set (i := 1) sc_above.nd rfl (Or.inr rfl) (pe_splitT (pv 0) pe_str))
      (pss_one (ps_ret (pe_lc (own := [("many", 2)]) (g := gName 2) (tt := tYes) rfl sc_above.nd (pi_range2 (by rfl) z.z_range (pa_cons pe_int (pa_cons (pe_callB (call_lenK K) (by rfl) z.z_len PySem.boot_len (pa_cons (pv 1) pa_nil)) pa_nil))) (blkOk_by (own := [("many", 2)]) (N := ["path", "parts", "many"]) (sc := defScope s_above) (by decide +kernel)) (fun _ _ _ _ _ => pg_name (i := 2) sc_above.nd rfl (Or.inl rfl)) (fun _ _ _ _ _ => pts_nil) (fun _ _ _ _ _ => (pe_joinK K pe_str (pe_slice (sl_listK K) (pv 1) po_none (po_some (pv 2))))))))), ?_⟩
    refine q_asgL (xs := List.map vs (m_above_v1 ppath)) (el_is (l_split (c := 47) (ev_var rfl) (ev_is (w := vs [47]) (ev_is (w := vs lit0) e_lit rfl) (by first | rfl | decide)) (by decide) (by walk_at "vside")) rfl) fun p1_arts H1 n1a e1a h1_arts => ?_
    have n1 := fresh_back (Ex.refl H) n1a
    have e1 := Ex.trans (Ex.refl H) e1a
    have fm_above_v1 : List.length (m_above_v1 ppath) = List.length ((cuts 47 ppath)) := rfl
    exact s_retL (l_mapR2 (f := vs) (fun k0 : Nat => (joinL lit0 (cutG (m_above_v1 ppath) none (some ((1 : Int) + (k0 : Int)))))) (ea_cons ev_c (ea_cons (e_lenL (f := vs) (l := (m_above_v1 ppath)) (ev_var rfl) (sq_of h1_arts)) ea_nil)) (by walk_at "vside") (fun k0 hk => have := cut_sum (m_above_v1 ppath) none (some ((1 : Int) + (k0 : Int))); have := cut_len (m_above_v1 ppath) none (some ((1 : Int) + (k0 : Int))); have := above_sum ppath; (e_joinN (l := (cutG (m_above_v1 ppath) none (some ((1 : Int) + (k0 : Int))))) (ev_is (w := vs lit0) e_lit rfl) (l_slR (f := vs) (l := (m_above_v1 ppath)) (ev_var rfl) (sq_of h1_arts) eo_none (eo_some (ev_var rfl))) (by walk_at "vside")))) fun pR H2 nR e2a hR => RetL.go k0 e1 nR e2a hR
def sp_is_beneath (K : PySem.W.Frag) : Sp := spP fun ws H v => ∃ (ppath : Tx) (pupper : Tx), ws = [vs ppath, vs pupper] ∧ (ppath.length ≤ 900 ∧ pupper.length ≤ 900) ∧ v = V.bl (m_is_beneath ppath pupper)
theorem ok_is_beneath {f : Addr} {fd : FuncData} (F : Fun K "is_beneath" "is_beneath" s_is_beneath f fd) (z : Bt mg)  : FnOk P w K mg base CX0 1 f fd ["path", "upper"] (sp_is_beneath K) := by
  refine F.ok (k := 0) sc_is_beneath (fun ws H Q E h => ?_) (fun cdv A outer s H ws Q E hr h => ?_)
  · obtain ⟨_, ⟨_, _, rfl, _⟩, _⟩ := h
    rfl
  · obtain ⟨_, ⟨ppath, pupper, rfl, hpre, rfl⟩, k0⟩ := h
    have L_lit0 := len_lit0
    refine ⟨_, (pss_one (ps_ret (pe_startsT (pv 0) (pe_op op_addT (pv 1) pe_str)))), ?_⟩
    exact s_ret (e_starts (ev_var rfl) (e_addT (ev_var rfl) (ev_is (w := vs lit0) e_lit rfl) (by walk_at "vside"))) fun H1 e1a => RetV.go k0 (Ex.trans (Ex.refl H) e1a)
def sp_law_cell_at (K : PySem.W.Frag) : Sp := spP fun ws H v => ∃ (ap_script : Addr) (p_script : List Int) (p_k : Int), ws = [.ref ap_script, V.int p_k] ∧ SqL K H ap_script (List.map V.int p_script) ∧ (0 ≤ p_k) ∧ v = V.int (m_law_cell_at p_script p_k)
theorem ok_law_cell_at {f : Addr} {fd : FuncData} (F : Fun K "_law_cell_at" "_law_cell_at" s_law_cell_at f fd) (z : Bt mg)  : FnOk P w K mg base CX0 1 f fd ["_law_script", "_law_k"] (sp_law_cell_at K) := by
  refine F.ok (k := 0) sc_law_cell_at (fun ws H Q E h => ?_) (fun cdv A outer s H ws Q E hr h => ?_)
  · obtain ⟨_, ⟨_, _, _, rfl, _⟩, _⟩ := h
    rfl
  · obtain ⟨_, ⟨ap_script, p_script, p_k, rfl, hSp_script, hpre, rfl⟩, k0⟩ := h
    refine ⟨_, (pss_cons (ps_if (pt_cmpR op_lt (pv 1) (pe_callB (call_lenK K) (by rfl) z.z_len PySem.boot_len (pa_cons (pv 0) pa_nil)) (nomark _)) (pss_one (ps_ret (pe_ix (ix_listK K) (pv 0) (pv 1) (fun _ _ => rfl)))) pss_nil)
      (pss_one (ps_ret pe_int))), ?_⟩
    refine q_when (b := (decide (p_k < (p_script.length : Int)))) (et_test (e_lt (ev_var rfl) (e_lenL (f := V.int) (l := p_script) (ev_var rfl) (ex_l (Ex.refl H) hSp_script)))) (fun hb1 H1 e1a => ?_) (fun hb1 H1 e1a => ?_)
    · have e1 := Ex.trans (Ex.refl H) e1a
      have k1a := ret_T k0 hb1
      exact s_ret (e_ixL (f := V.int) (l := p_script) 0 (ev_var rfl) (ex_l e1 hSp_script) (ev_var rfl) (by walk_at "vside")) fun H2 e2a => RetV.go k1a (Ex.trans e1 e2a)
    · have e1 := Ex.trans (Ex.refl H) e1a
      have k2b := ret_F k0 hb1
      exact s_ret ev_c fun H3 e3a => RetV.go k2b (Ex.trans e1 e3a)
def sp_law_sign_by (K : PySem.W.Frag) : Sp := spP fun ws H v => ∃ (p_k : Int), ws = [V.int p_k] ∧ v = vs (m_law_sign_by p_k)
theorem ok_law_sign_by {f : Addr} {fd : FuncData} (F : Fun K "_law_sign_by" "_law_sign_by" s_law_sign_by f fd) (z : Bt mg)  : FnOk P w K mg base CX0 1 f fd ["_law_k"] (sp_law_sign_by K) := by
  refine F.ok (k := 0) sc_law_sign_by (fun ws H Q E h => ?_) (fun cdv A outer s H ws Q E hr h => ?_)
  · obtain ⟨_, ⟨_, rfl, _⟩, _⟩ := h
    rfl
  · obtain ⟨_, ⟨p_k, rfl, rfl⟩, k0⟩ := h
    have L_lit1 := len_lit1
    refine ⟨_, (pss_one (ps_ret (pe_ix ix_str pe_str (pe_op op_mod (pv 0) pe_int) (fun _ _ => rfl)))), ?_⟩
    exact s_ret (e_ixS (ev_is (w := vs lit1) e_lit rfl) (e_mod (ev_var rfl) ev_c (by walk_at "vside")) (by walk_at "vside")) fun H1 e1a => RetV.go k0 (Ex.trans (Ex.refl H) e1a)
def sp_law_part_by (K : PySem.W.Frag) : Sp := spP fun ws H v => ∃ (p_cell : Int), ws = [V.int p_cell] ∧ v = vs (m_law_part_by p_cell)
theorem ok_law_part_by {f : Addr} {fd : FuncData} (F : Fun K "_law_part_by" "_law_part_by" s_law_part_by f fd) (z : Bt mg) (C_law_sign_by : Cal P w K mg base 1 "_law_sign_by" ["_law_k"] (sp_law_sign_by K)) : FnOk P w K mg base CX0 2 f fd ["_law_cell"] (sp_law_part_by K) := by
  refine F.ok (k := 1) sc_law_part_by (fun ws H Q E h => ?_) (fun cdv A outer s H ws Q E hr h => ?_)
  · obtain ⟨_, ⟨_, rfl, _⟩, _⟩ := h
    rfl
  · obtain ⟨_, ⟨p_cell, rfl, rfl⟩, k0⟩ := h
    have L_lit2 := len_lit2
    have L_lit3 := len_lit3
    have L_lit4 := len_lit4
    have s1 := sign_len p_cell
    have s2 := sign_len (p_cell / 130)
    refine ⟨_, (pss_cons (ps_set (i := 1) sc_law_part_by.nd rfl (Or.inl rfl) (pe_cal C_law_sign_by (hr.mono (by decide)) (by rfl) (pa_cons (pv 0) pa_nil)))
      (pss_cons (ps_if (pt_cmpR op_eq (pe_op op_mod (pe_op op_fdiv (pv 0) pe_int) pe_int) pe_int (nomark _)) (pss_one (ps_set (i := 1) sc_law_part_by.nd rfl (Or.inl rfl) (pe_op op_addT (pv 1) (pe_cal C_law_sign_by (hr.mono (by decide)) (by rfl) (pa_cons (pe_op op_fdiv (pv 0) pe_int) pa_nil))))) pss_nil)
      (pss_cons (ps_if (PW.pt (pw_or (pt_cmpR op_eq (pv 1) pe_str (nomark _)) (pw_or1 (pt_cmpR op_eq (pv 1) pe_str (nomark _))))) (pss_one (ps_ret pe_str)) pss_nil)
      (pss_one (ps_ret (pv 1)))))), ?_⟩
    refine q_asg (v := vs (m_law_part_by_v1 p_cell)) (ev_is (ev_call (ea_cons (ev_var rfl) ea_nil) (sv_of fun HC eC => ⟨_, rfl, rfl⟩)) rfl) fun H1 e1a => ?_
    have e1 := Ex.trans (Ex.refl H) e1a
    have fm_law_part_by_v1 : List.length (m_law_part_by_v1 p_cell) = List.length ((m_law_sign_by p_cell)) := rfl
    refine q_ifSet (f := vs) (z := (m_law_part_by_v2 p_cell)) (et_test (e_eqI (e_mod (e_div (ev_var rfl) ev_c (by walk_at "vside")) ev_c (by walk_at "vside")) ev_c)) (fun hc => (e_addT (ev_var rfl) (ev_call (ea_cons (e_div (ev_var rfl) ev_c (by walk_at "vside")) ea_nil) (sv_of fun HC eC => ⟨_, rfl, rfl⟩)) (by walk_at "vside"))) rfl rfl fun H2 e2a => ?_
    have e2 := Ex.trans e1 e2a
    refine q_when (b := ((decide ((m_law_part_by_v2 p_cell) = lit2)) || (decide ((m_law_part_by_v2 p_cell) = lit3)))) (et_or (et_test (e_eqT (ev_var rfl) (ev_is (w := vs lit2) e_lit rfl))) (fun hc => (et_test (e_eqT (ev_var rfl) (ev_is (w := vs lit3) e_lit rfl))))) (fun hb3 H3 e3a => ?_) (fun hb3 H3 e3a => ?_)
    · have e3 := Ex.trans e2 e3a
      have k1a := ret_T k0 hb3
      exact s_ret (ev_is (w := vs lit4) e_lit rfl) fun H4 e4a => RetV.go k1a (Ex.trans e3 e4a)
    · have e3 := Ex.trans e2 e3a
      have k2b := ret_F k0 hb3
      exact s_ret (ev_var rfl) fun H5 e5a => RetV.go k2b (Ex.trans e3 e5a)
def sp_law_begins (K : PySem.W.Frag) : Sp := spP fun ws H v => ∃ (ap_upper : Addr) (p_upper : List Tx) (ap_lower : Addr) (p_lower : List Tx), ws = [.ref ap_upper, .ref ap_lower] ∧ SqL K H ap_upper (List.map vs p_upper) ∧ SqL K H ap_lower (List.map vs p_lower) ∧ (p_upper.length ≤ 100 ∧ p_lower.length ≤ 100) ∧ v = V.bl (m_law_begins p_upper p_lower)
theorem ok_law_begins {f : Addr} {fd : FuncData} (F : Fun K "_law_begins" "_law_begins" s_law_begins f fd) (z : Bt mg)  : FnOk P w K mg base CX0 1 f fd ["_law_upper", "_law_lower"] (sp_law_begins K) := by
  refine F.ok (k := 0) sc_law_begins (fun ws H Q E h => ?_) (fun cdv A outer s H ws Q E hr h => ?_)
  · obtain ⟨_, ⟨_, _, _, _, rfl, _⟩, _⟩ := h
    rfl
  · obtain ⟨_, ⟨ap_upper, p_upper, ap_lower, p_lower, rfl, hSp_upper, hSp_lower, hpre, rfl⟩, k0⟩ := h
    refine ⟨_, (pss_cons (ps_if (pt_cmpR op_ge (pe_callB (call_lenK K) (by rfl) z.z_len PySem.boot_len (pa_cons (pv 0) pa_nil)) (pe_callB (call_lenK K) (by rfl) z.z_len PySem.boot_len (pa_cons (pv 1) pa_nil)) (nomark _)) (pss_one (ps_ret pe_bl)) pss_nil)
      (pss_cons (ps_for PassesOwn.never rfl (pi_range1 (by rfl) z.z_range (pa_cons (pe_callB (call_lenK K) (by rfl) z.z_len PySem.boot_len (pa_cons (pv 0) pa_nil)) pa_nil)) (pg_name (i := 2) sc_law_begins.nd rfl (Or.inl rfl))
      (pss_one (ps_if (pt_cmpR op_ne (pe_ix (ix_listK K) (pv 0) (pv 2) (fun _ _ => rfl)) (pe_ix (ix_listK K) (pv 1) (pv 2) (fun _ _ => rfl)) (nomark _)) (pss_one (ps_ret pe_bl)) pss_nil)))
      (pss_one (ps_ret pe_bl)))), ?_⟩
    refine q_when (b := (decide ((p_upper.length : Int) ≥ (p_lower.length : Int)))) (et_test (e_ge (e_lenL (f := vs) (l := p_upper) (ev_var rfl) (ex_l (Ex.refl H) hSp_upper)) (e_lenL (f := vs) (l := p_lower) (ev_var rfl) (ex_l (Ex.refl H) hSp_lower)))) (fun hb1 H1 e1a => ?_) (fun hb1 H1 e1a => ?_)
    · have e1 := Ex.trans (Ex.refl H) e1a
      have k1a := ret_T k0 hb1
      exact s_ret ev_c fun H2 e2a => RetV.go k1a (Ex.trans e1 e2a)
    · have e1 := Ex.trans (Ex.refl H) e1a
      have k2b := ret_F k0 hb1
      refine q_loopR (R := Bool) (n := (p_upper.length : Int)) (m_law_begins_step1 p_upper p_lower) () (fun (s1 : Unit) (σ1 : L2.St) (H1L : Hp) => ∃ (j1_0 : Option V), σ1 = [some (.ref ap_upper), some (.ref ap_lower), j1_0] ∧ Ex H H1L) (ea_cons (e_lenL (f := vs) (l := p_upper) (ev_var rfl) (ex_l e1 hSp_upper)) ea_nil) (by walk_at "vside") (fun H5 e5a => ⟨_, rfl, Ex.trans e1 e5a⟩) ?_ ?_
      · intro Nx1 Bk1 i1 s1 y1 σ1 H1L hy1 hrun1 hq1 hnx1 hbk1 hrt1
        obtain ⟨j1_0, rfl, e1L⟩ := hq1
        have hk1 := List.mem_range.mp (List.mem_of_getElem? hy1)
        have kq1_0 : (m_law_begins_step1 p_upper p_lower) s1 y1 = (if (!decide ((p_upper.getD (y1 : Int).toNat []) = (p_lower.getD (y1 : Int).toNat []))) = true then (Stp.ret false) else (Stp.go ())) := rfl
        refine s_when (b := (!decide ((p_upper.getD (y1 : Int).toNat []) = (p_lower.getD (y1 : Int).toNat [])))) (et_test (e_neT (e_ixL (f := vs) (l := p_upper) [] (ev_var rfl) (ex_l e1L hSp_upper) (ev_var rfl) (by walk_at "vside")) (e_ixL (f := vs) (l := p_lower) [] (ev_var rfl) (ex_l e1L hSp_lower) (ev_var rfl) (by walk_at "vside")))) (fun hb3 H3 e3a => ?_) (fun hb3 H3 e3a => ?_)
        · have e3 := Ex.trans e1L e3a
          have kq1_1 := kq_T kq1_0 hb3
          have kr1 := hrt1 _ kq1_1
          exact s_ret ev_c fun H4 e4a => RetV.go (ret_run k2b kr1) (Ex.trans e3 e4a)
        · have e3 := Ex.trans e1L e3a
          have kq1_2 := kq_F kq1_0 hb3
          exact hnx1 () _ _ kq1_2 ⟨_, rfl, e3⟩
      · intro s1 σ1 H1L hr1 hq1
        obtain ⟨j1_0, rfl, e1L⟩ := hq1
        have k4r := ret_go k2b hr1
        exact s_ret ev_c fun H7 e7a => RetV.go k4r (Ex.trans e1L e7a)
def sp_law (K : PySem.W.Frag) : Sp := spP fun ws H v => ∃ (ap_script : Addr) (p_script : List Int), ws = [.ref ap_script] ∧ SqL K H ap_script (List.map V.int p_script) ∧ v = V.bl (m_law p_script)
theorem ok_law {f : Addr} {fd : FuncData} (F : Fun K "law" "law" s_law f fd) (z : Bt mg) (C_law_cell_at : Cal P w K mg base 1 "_law_cell_at" ["_law_script", "_law_k"] (sp_law_cell_at K)) (C_law_part_by : Cal P w K mg base 2 "_law_part_by" ["_law_cell"] (sp_law_part_by K)) (C_law_sign_by : Cal P w K mg base 1 "_law_sign_by" ["_law_k"] (sp_law_sign_by K)) (C_is_beneath : Cal P w K mg base 1 "is_beneath" ["path", "upper"] (sp_is_beneath K)) (C_law_begins : Cal P w K mg base 1 "_law_begins" ["_law_upper", "_law_lower"] (sp_law_begins K)) (C_above : Cal P w K mg base 1 "above" ["path"] (sp_above K)) : FnOk P w K mg base CX0 3 f fd ["_law_script"] (sp_law K) := by
  refine F.ok (k := 2) sc_law (fun ws H Q E h => ?_) (fun cdv A outer s H ws Q E hr h => ?_)
  · obtain ⟨_, ⟨_, _, rfl, _⟩, _⟩ := h
    rfl
  · obtain ⟨_, ⟨ap_script, p_script, rfl, hSp_script, rfl⟩, k0⟩ := h
    have L_lit0 := len_lit0
    refine ⟨_, (pss_cons (ps_setLc (i := 1) (own := [("_law_k", 4)]) (g := gName 4) (tt := tYes) rfl sc_law.nd rfl rfl (sw_true rfl rfl rfl (by decide +kernel)) (pi_range1 (by rfl) z.z_range (pa_cons (pe_op op_add pe_int (pe_op op_mod (pe_cal C_law_cell_at (hr.mono (by decide)) (by rfl) (pa_cons (pv 0) (pa_cons pe_int pa_nil))) pe_int)) pa_nil)) (blkOk_by (own := [("_law_k", 4)]) (N := ["_law_script", "_law_ones", "_law_others", "_law_alike", "_law_k", "_law_one", "_law_other", "_law_left", "_law_right", "_law_at"]) (sc := defScope s_law) (by decide +kernel)) (fun _ _ _ _ _ => pg_name (i := 4) sc_law.nd rfl (Or.inl rfl)) (fun _ _ _ _ _ => pts_nil) (fun _ _ _ _ _ => (pe_cal C_law_part_by (hr.mono (by decide)) (by rfl) (pa_cons (pe_cal C_law_cell_at (hr.mono (by decide)) (by rfl) (pa_cons (pv 0) (pa_cons (pe_op op_add pe_int (pv 4)) pa_nil))) pa_nil))))
      (pss_cons (ps_setLc (i := 2) (own := [("_law_k", 4)]) (g := gName 4) (tt := tYes) rfl sc_law.nd rfl rfl (sw_true rfl rfl rfl (by decide +kernel)) (pi_range1 (by rfl) z.z_range (pa_cons (pe_op op_add pe_int (pe_op op_mod (pe_cal C_law_cell_at (hr.mono (by decide)) (by rfl) (pa_cons (pv 0) (pa_cons pe_int pa_nil))) pe_int)) pa_nil)) (blkOk_by (own := [("_law_k", 4)]) (N := ["_law_script", "_law_ones", "_law_others", "_law_alike", "_law_k", "_law_one", "_law_other", "_law_left", "_law_right", "_law_at"]) (sc := defScope s_law) (by decide +kernel)) (fun _ _ _ _ _ => pg_name (i := 4) sc_law.nd rfl (Or.inl rfl)) (fun _ _ _ _ _ => pts_nil) (fun _ _ _ _ _ => (pe_cal C_law_part_by (hr.mono (by decide)) (by rfl) (pa_cons (pe_cal C_law_cell_at (hr.mono (by decide)) (by rfl) (pa_cons (pv 0) (pa_cons (pe_op op_add pe_int (pv 4)) pa_nil))) pa_nil))))
      (pss_cons (ps_set (i := 3) sc_law.nd rfl (Or.inl rfl) (pe_op op_mod (pe_cal C_law_cell_at (hr.mono (by decide)) (by rfl) (pa_cons (pv 0) (pa_cons pe_int pa_nil))) (pe_op op_add (pe_callB (call_lenK K) (by rfl) z.z_len PySem.boot_len (pa_cons (pv 1) pa_nil)) pe_int)))
      (pss_cons (ps_for PassesOwn.never rfl (pi_range1 (by rfl) z.z_range (pa_cons (pe_callB (call_min2 rfl) (by rfl) z.z_min (by decide +kernel) (pa_cons (pv 3) (pa_cons (pe_callB (call_lenK K) (by rfl) z.z_len PySem.boot_len (pa_cons (pv 2) pa_nil)) pa_nil))) pa_nil)) (pg_name (i := 4) sc_law.nd rfl (Or.inl rfl))
      (pss_one (ps_asg (pe_ix (ix_listK K) (pv 1) (pv 4) (fun _ _ => rfl)) (pg_sub (pv 2) (pv 4) set_list))))
      (pss_cut (ps_if (pt_cmpR op_eq (pe_op op_mod (pe_op op_fdiv (pe_cal C_law_cell_at (hr.mono (by decide)) (by rfl) (pa_cons (pv 0) (pa_cons pe_int pa_nil))) pe_int) pe_int) pe_int (nomark _)) (pss_cons (ps_set (i := 9) sc_law.nd rfl (Or.inl rfl) (pe_op op_sub (pe_callB (call_min2 rfl) (by rfl) z.z_min (by decide +kernel) (pa_cons (pe_callB (call_max2 rfl) (by rfl) z.z_max (by decide +kernel) (pa_cons (pv 3) (pa_cons pe_int pa_nil))) (pa_cons (pe_callB (call_lenK K) (by rfl) z.z_len PySem.boot_len (pa_cons (pv 2) pa_nil)) pa_nil))) pe_int))
      (pss_one (ps_asg (pe_op op_addT (pe_ix (ix_listK K) (pv 2) (pv 9) (fun _ _ => rfl)) (pe_cal C_law_sign_by (hr.mono (by decide)) (by rfl) (pa_cons (pe_op op_mod (pe_cal C_law_cell_at (hr.mono (by decide)) (by rfl) (pa_cons (pv 0) (pa_cons pe_int pa_nil))) pe_int) pa_nil))) (pg_sub (pv 2) (pv 9) set_list)))) pss_nil)
      (pss_cut (ps_if (pt_cmpR op_eq (pe_op op_mod (pe_op op_fdiv (pe_cal C_law_cell_at (hr.mono (by decide)) (by rfl) (pa_cons (pv 0) (pa_cons pe_int pa_nil))) pe_int) pe_int) pe_int (nomark _)) (pss_cons (ps_set (i := 9) sc_law.nd rfl (Or.inl rfl) (pe_op op_sub (pe_callB (call_min2 rfl) (by rfl) z.z_min (by decide +kernel) (pa_cons (pe_callB (call_max2 rfl) (by rfl) z.z_max (by decide +kernel) (pa_cons (pv 3) (pa_cons pe_int pa_nil))) (pa_cons (pe_callB (call_lenK K) (by rfl) z.z_len PySem.boot_len (pa_cons (pv 2) pa_nil)) pa_nil))) pe_int))
      (pss_one (ps_asg (pe_op op_addT (pe_slice sl_str (pe_ix (ix_listK K) (pv 2) (pv 9) (fun _ _ => rfl)) po_none (po_some (pe_un un_neg pe_int))) (pe_cal C_law_sign_by (hr.mono (by decide)) (by rfl) (pa_cons (pe_op op_mod (pe_cal C_law_cell_at (hr.mono (by decide)) (by rfl) (pa_cons (pv 0) (pa_cons pe_int pa_nil))) pe_int) pa_nil))) (pg_sub (pv 2) (pv 9) set_list)))) pss_nil)
      (pss_cons (ps_set (i := 5) sc_law.nd rfl (Or.inl rfl) (pe_joinK K pe_str (pv 1)))
      (pss_cons (ps_set (i := 6) sc_law.nd rfl (Or.inl rfl) (pe_joinK K pe_str (pv 2)))
      (pss_cons (ps_set (i := 7) sc_law.nd rfl (Or.inl rfl) (pe_cal C_is_beneath (hr.mono (by decide)) (by rfl) (pa_cons (pv 6) (pa_cons (pv 5) pa_nil))))
      (pss_cons (ps_set (i := 8) sc_law.nd rfl (Or.inl rfl) (pe_cal C_is_beneath (hr.mono (by decide)) (by rfl) (pa_cons (pv 5) (pa_cons (pv 6) pa_nil))))
      (pss_cons (ps_if (PW.pt (pw_or (pt_not (pt_val (pe_callB (call_isiK' K) (by rfl) z.z_isinstance (by decide +kernel) (pa_cons (pv 7) (pa_cons (pe_bltn (v := .ty "bool") (by rfl) z.z_bool (by decide +kernel) rfl) pa_nil))))) (pw_or1 (pt_not (pt_val (pe_callB (call_isiK' K) (by rfl) z.z_isinstance (by decide +kernel) (pa_cons (pv 8) (pa_cons (pe_bltn (v := .ty "bool") (by rfl) z.z_bool (by decide +kernel) rfl) pa_nil)))))))) (pss_one (ps_ret pe_bl)) pss_nil)
      (pss_cons (ps_if (PW.pt (pw_or (pt_cmpR op_ne (pv 7) (pe_cal C_law_begins (hr.mono (by decide)) (by rfl) (pa_cons (pv 1) (pa_cons (pv 2) pa_nil))) (nomark _)) (pw_or1 (pt_cmpR op_ne (pv 8) (pe_cal C_law_begins (hr.mono (by decide)) (by rfl) (pa_cons (pv 2) (pa_cons (pv 1) pa_nil))) (nomark _))))) (pss_one (ps_ret pe_bl)) pss_nil)
      (pss_one (ps_ret (pe_and (pe_cmpR op_eq (pe_cmpR (op_inK K) (pv 5) (pe_cal C_above (hr.mono (by decide)) (by rfl) (pa_cons (pv 6) pa_nil)) (by rfl)) (pv 7) (nomark _)) (pe_one (pe_cmpR op_eq (pe_cmpR (op_inK K) (pv 6) (pe_cal C_above (hr.mono (by decide)) (by rfl) (pa_cons (pv 5) pa_nil)) (by rfl)) (pv 8) (nomark _)))))))))))))))))), ?_⟩
    refine q_asgL (xs := List.map vs (m_law_v1 p_script)) (el_is (l_mapR (f := vs) (fun k0 : Nat => (m_law_part_by (m_law_cell_at p_script ((4 : Int) + (k0 : Int))))) (ea_cons (e_add ev_c (e_mod (ev_call (ea_cons (ev_var rfl) (ea_cons ev_c ea_nil)) (sv_of fun HC eC => ⟨_, _, _, rfl, ex_l eC (ex_l (Ex.refl H) hSp_script), (by walk_at "vside"), rfl⟩)) ev_c (by walk_at "vside"))) ea_nil) (by walk_at "vside") (fun k0 hk => (ev_call (ea_cons (ev_call (ea_cons (ev_var rfl) (ea_cons (e_add ev_c (ev_var rfl)) ea_nil)) (sv_of fun HC eC => ⟨_, _, _, rfl, ex_l eC (ex_l (Ex.refl H) hSp_script), (by walk_at "vside"), rfl⟩)) ea_nil) (sv_of fun HC eC => ⟨_, rfl, rfl⟩)))) rfl) fun p1_ones H1 n1a e1a h1_ones => ?_
    have n1 := fresh_back (Ex.refl H) n1a
    have e1 := Ex.trans (Ex.refl H) e1a
    have fm_law_v1 : List.length (m_law_v1 p_script) = List.length (((List.range ((1 : Int) + ((m_law_cell_at p_script (0 : Int)) % (8 : Int))).toNat).map (fun k0 : Nat => (m_law_part_by (m_law_cell_at p_script ((4 : Int) + (k0 : Int))))))) := rfl
    have g1 := (v1_ok p_script).1
    have g1s := (v1_ok p_script).sum
    refine q_asgL (xs := List.map vs (m_law_v2 p_script)) (el_is (l_mapR (f := vs) (fun k0 : Nat => (m_law_part_by (m_law_cell_at p_script ((12 : Int) + (k0 : Int))))) (ea_cons (e_add ev_c (e_mod (ev_call (ea_cons (ev_var rfl) (ea_cons ev_c ea_nil)) (sv_of fun HC eC => ⟨_, _, _, rfl, ex_l eC (ex_l e1 hSp_script), (by walk_at "vside"), rfl⟩)) ev_c (by walk_at "vside"))) ea_nil) (by walk_at "vside") (fun k0 hk => (ev_call (ea_cons (ev_call (ea_cons (ev_var rfl) (ea_cons (e_add ev_c (ev_var rfl)) ea_nil)) (sv_of fun HC eC => ⟨_, _, _, rfl, ex_l eC (ex_l e1 hSp_script), (by walk_at "vside"), rfl⟩)) ea_nil) (sv_of fun HC eC => ⟨_, rfl, rfl⟩)))) rfl) fun p2_others H2 n2a e2a h2_others => ?_
    have n2 := fresh_back e1 n2a
    have d_p1_ones_p2_others := ne_of_none h1_ones n2a
    have e2 := Ex.trans e1 e2a
    have h1_ones := e2a _ _ h1_ones
    have fm_law_v2 : List.length (m_law_v2 p_script) = List.length (((List.range ((1 : Int) + ((m_law_cell_at p_script (1 : Int)) % (8 : Int))).toNat).map (fun k0 : Nat => (m_law_part_by (m_law_cell_at p_script ((12 : Int) + (k0 : Int))))))) := rfl
    have g2 := (v2_ok p_script).1
    refine q_asg (v := V.int (m_law_v3 p_script)) (ev_is (e_mod (ev_call (ea_cons (ev_var rfl) (ea_cons ev_c ea_nil)) (sv_of fun HC eC => ⟨_, _, _, rfl, ex_l eC (ex_l e2 hSp_script), (by walk_at "vside"), rfl⟩)) (e_add (e_lenL (f := vs) (l := (m_law_v1 p_script)) (ev_var rfl) (sq_of h1_ones)) ev_c) (by walk_at "vside")) rfl) fun H3 e3a => ?_
    have e3 := Ex.trans e2 e3a
    have h1_ones := e3a _ _ h1_ones
    have h2_others := e3a _ _ h2_others
    have fm_law_v3 : (m_law_v3 p_script) = ((m_law_cell_at p_script (2 : Int)) % (((m_law_v1 p_script).length : Int) + (1 : Int))) := rfl
    have g3 := v3_in p_script
    refine q_loopR (R := Unit) (n := (min (m_law_v3 p_script) ((m_law_v2 p_script).length : Int))) (m_law_step1 p_script) (m_law_v2 p_script) (fun (s1 : List Tx) (σ1 : L2.St) (H1L : Hp) => ∃ (j1_0 : Option V), σ1 = [some (.ref ap_script), some (.ref p1_ones), some (.ref p2_others), some (V.int (m_law_v3 p_script)), j1_0, none, none, none, none, none] ∧ Ex H H1L ∧ H1L p1_ones = some (.lst (List.map vs (m_law_v1 p_script))) ∧ H1L p2_others = some (.lst (List.map vs s1))) (ea_cons (e_min2 (ev_var rfl) (e_lenL (f := vs) (l := (m_law_v2 p_script)) (ev_var rfl) (sq_of h2_others))) ea_nil) (by walk_at "vside") (fun H5 e5a => ⟨_, rfl, Ex.trans e3 e5a, e5a _ _ h1_ones, e5a _ _ h2_others⟩) ?_ ?_
    · intro Nx1 Bk1 i1 s1 y1 σ1 H1L hy1 hrun1 hq1 hnx1 hbk1 hrt1
      obtain ⟨j1_0, rfl, e1L, h1_ones, h2_others⟩ := hq1
      have hk1 := List.mem_range.mp (List.mem_of_getElem? hy1)
      have g1r := run1_ok hrun1
      have kq1_0 : (m_law_step1 p_script) s1 y1 = (Stp.go (m_law_v4 s1 y1 p_script)) := rfl
      refine s_setM (f := vs) (l := s1) (v := ((m_law_v1 p_script).getD (y1 : Int).toNat [])) ((y1 : Int)).toNat e1L n2 h2_others (e_ixL (f := vs) (l := (m_law_v1 p_script)) [] (ev_var rfl) (sq_of h1_ones) (ev_var rfl) (by walk_at "vside")) (ev_var rfl) (ev_var rfl) (by walk_at "vside") fun H4 e4 h2_others m4 => ?_
      replace h2_others : H4 p2_others = some (.lst (List.map vs (m_law_v4 s1 y1 p_script))) := h2_others
      replace h1_ones := m4 _ _ (by first | exact d_p1_ones_p2_others | exact Ne.symm d_p2_others_p1_ones) h1_ones
      have fm_law_v4 : List.length (m_law_v4 s1 y1 p_script) = List.length (s1.set ((y1 : Int)).toNat ((m_law_v1 p_script).getD (y1 : Int).toNat [])) := rfl
      exact hnx1 (m_law_v4 s1 y1 p_script) _ _ kq1_0 ⟨_, rfl, e4, h1_ones, h2_others⟩
    · intro s1 σ1 H1L hr1 hq1
      obtain ⟨j1_0, rfl, e1L, h1_ones, h2_others⟩ := hq1
      obtain rfl : s1 = (m_law_v5 p_script) := outL_of hr1
      have g5 := (v5_ok p_script).1
      refine q_cut (M := (fun (σ7m : L2.St) (H7m : Hp) => ∃ (jm7_k : Option V) (jm7_at : Option V), σ7m = [some (.ref ap_script), some (.ref p1_ones), some (.ref p2_others), some (V.int (m_law_v3 p_script)), jm7_k, none, none, none, none, jm7_at] ∧ Ex H H7m ∧ H7m p1_ones = some (.lst (List.map vs (m_law_v1 p_script))) ∧ H7m p2_others = some (.lst (List.map vs (m_law_v8 p_script))))) ?_ ?_
      · refine s_when (b := (decide ((((m_law_cell_at p_script (2 : Int)) / (9 : Int)) % (4 : Int)) = (1 : Int)))) (et_test (e_eqI (e_mod (e_div (ev_call (ea_cons (ev_var rfl) (ea_cons ev_c ea_nil)) (sv_of fun HC eC => ⟨_, _, _, rfl, ex_l eC (ex_l e1L hSp_script), (by walk_at "vside"), rfl⟩)) ev_c (by walk_at "vside")) ev_c (by walk_at "vside")) ev_c)) (fun hb7 H7 e7a => ?_) (fun hb7 H7 e7a => ?_)
        · have e7 := Ex.trans e1L e7a
          have h1_ones := e7a _ _ h1_ones
          have h2_others := e7a _ _ h2_others
          refine q_asg (v := V.int (m_law_v6 p_script)) (ev_is (e_sub (e_min2 (e_max2 (ev_var rfl) ev_c) (e_lenL (f := vs) (l := (m_law_v5 p_script)) (ev_var rfl) (sq_of h2_others))) ev_c) rfl) fun H8 e8a => ?_
          have e8 := Ex.trans e7 e8a
          have h1_ones := e8a _ _ h1_ones
          have h2_others := e8a _ _ h2_others
          have fm_law_v6 : (m_law_v6 p_script) = ((min (max (m_law_v3 p_script) (1 : Int)) ((m_law_v5 p_script).length : Int)) - (1 : Int)) := rfl
          have g6 := sign_len ((m_law_cell_at p_script (3 : Int)) % (62 : Int))
          have g6i := getD_le (v5_ok p_script).2.2 (m_law_v6 p_script).toNat
          refine s_setM (f := vs) (l := (m_law_v5 p_script)) (v := (((m_law_v5 p_script).getD (m_law_v6 p_script).toNat []) ++ (m_law_sign_by ((m_law_cell_at p_script (3 : Int)) % (62 : Int))))) ((m_law_v6 p_script)).toNat e8 n2 h2_others (e_addT (e_ixL (f := vs) (l := (m_law_v5 p_script)) [] (ev_var rfl) (sq_of h2_others) (ev_var rfl) (by walk_at "vside")) (ev_call (ea_cons (e_mod (ev_call (ea_cons (ev_var rfl) (ea_cons ev_c ea_nil)) (sv_of fun HC eC => ⟨_, _, _, rfl, ex_l eC (ex_l e8 hSp_script), (by walk_at "vside"), rfl⟩)) ev_c (by walk_at "vside")) ea_nil) (sv_of fun HC eC => ⟨_, rfl, rfl⟩)) (by walk_at "vside")) (ev_var rfl) (ev_var rfl) (by walk_at "vside") fun H9 e9 h2_others m9 => ?_
          replace h2_others : H9 p2_others = some (.lst (List.map vs (m_law_v7 p_script))) := h2_others
          replace h1_ones := m9 _ _ (by first | exact d_p1_ones_p2_others | exact Ne.symm d_p2_others_p1_ones) h1_ones
          have fm_law_v7 : List.length (m_law_v7 p_script) = List.length ((m_law_v5 p_script).set ((m_law_v6 p_script)).toNat (((m_law_v5 p_script).getD (m_law_v6 p_script).toNat []) ++ (m_law_sign_by ((m_law_cell_at p_script (3 : Int)) % (62 : Int))))) := rfl
          have hV7_0 : (m_law_v8 p_script) = (m_law_v7 p_script) := if_pos hb7
          exact ⟨_, _, rfl, e9, h1_ones, (by rw [hV7_0]; exact h2_others)⟩
        · have e7 := Ex.trans e1L e7a
          have h1_ones := e7a _ _ h1_ones
          have h2_others := e7a _ _ h2_others
          have hV7_0 : (m_law_v8 p_script) = (m_law_v5 p_script) := if_neg (by rw [hb7]; exact Bool.false_ne_true)
          exact ⟨_, _, rfl, e7, h1_ones, (by rw [hV7_0]; exact h2_others)⟩
      · intro σ7m H7m hq7m
        obtain ⟨jm7_k, jm7_at, rfl, e7m, h1_ones, h2_others⟩ := hq7m
        have fm_law_v1 : List.length (m_law_v1 p_script) = List.length (((List.range ((1 : Int) + ((m_law_cell_at p_script (0 : Int)) % (8 : Int))).toNat).map (fun k0 : Nat => (m_law_part_by (m_law_cell_at p_script ((4 : Int) + (k0 : Int))))))) := rfl
        have g1 := (v1_ok p_script).1
        have g1s := (v1_ok p_script).sum
        have g8 := (v8_ok p_script).1
        have fm_law_v3 : (m_law_v3 p_script) = ((m_law_cell_at p_script (2 : Int)) % (((m_law_v1 p_script).length : Int) + (1 : Int))) := rfl
        have g3 := v3_in p_script
        refine q_cut (M := (fun (σ10m : L2.St) (H10m : Hp) => ∃ (jm10_k : Option V) (jm10_at : Option V), σ10m = [some (.ref ap_script), some (.ref p1_ones), some (.ref p2_others), some (V.int (m_law_v3 p_script)), jm10_k, none, none, none, none, jm10_at] ∧ Ex H H10m ∧ H10m p1_ones = some (.lst (List.map vs (m_law_v1 p_script))) ∧ H10m p2_others = some (.lst (List.map vs (m_law_v11 p_script))))) ?_ ?_
        · refine s_when (b := (decide ((((m_law_cell_at p_script (2 : Int)) / (9 : Int)) % (4 : Int)) = (2 : Int)))) (et_test (e_eqI (e_mod (e_div (ev_call (ea_cons (ev_var rfl) (ea_cons ev_c ea_nil)) (sv_of fun HC eC => ⟨_, _, _, rfl, ex_l eC (ex_l e7m hSp_script), (by walk_at "vside"), rfl⟩)) ev_c (by walk_at "vside")) ev_c (by walk_at "vside")) ev_c)) (fun hb10 H10 e10a => ?_) (fun hb10 H10 e10a => ?_)
          · have e10 := Ex.trans e7m e10a
            have h1_ones := e10a _ _ h1_ones
            have h2_others := e10a _ _ h2_others
            refine q_asg (v := V.int (m_law_v9 p_script)) (ev_is (e_sub (e_min2 (e_max2 (ev_var rfl) ev_c) (e_lenL (f := vs) (l := (m_law_v8 p_script)) (ev_var rfl) (sq_of h2_others))) ev_c) rfl) fun H11 e11a => ?_
            have e11 := Ex.trans e10 e11a
            have h1_ones := e11a _ _ h1_ones
            have h2_others := e11a _ _ h2_others
            have fm_law_v9 : (m_law_v9 p_script) = ((min (max (m_law_v3 p_script) (1 : Int)) ((m_law_v8 p_script).length : Int)) - (1 : Int)) := rfl
            have g9 := sign_len ((m_law_cell_at p_script (3 : Int)) % (62 : Int))
            have g9i := getD_le (v8_ok p_script).2.2 (m_law_v9 p_script).toNat
            have g9c := cut_len ((m_law_v8 p_script).getD (m_law_v9 p_script).toNat []) none (some (-(1 : Int)))
            refine s_setM (f := vs) (l := (m_law_v8 p_script)) (v := ((cutG ((m_law_v8 p_script).getD (m_law_v9 p_script).toNat []) none (some (-(1 : Int)))) ++ (m_law_sign_by ((m_law_cell_at p_script (3 : Int)) % (62 : Int))))) ((m_law_v9 p_script)).toNat e11 n2 h2_others (e_addT (e_slS (e_ixL (f := vs) (l := (m_law_v8 p_script)) [] (ev_var rfl) (sq_of h2_others) (ev_var rfl) (by walk_at "vside")) eo_none (eo_some (e_neg ev_c)) (by walk_at "vside")) (ev_call (ea_cons (e_mod (ev_call (ea_cons (ev_var rfl) (ea_cons ev_c ea_nil)) (sv_of fun HC eC => ⟨_, _, _, rfl, ex_l eC (ex_l e11 hSp_script), (by walk_at "vside"), rfl⟩)) ev_c (by walk_at "vside")) ea_nil) (sv_of fun HC eC => ⟨_, rfl, rfl⟩)) (by walk_at "vside")) (ev_var rfl) (ev_var rfl) (by walk_at "vside") fun H12 e12 h2_others m12 => ?_
            replace h2_others : H12 p2_others = some (.lst (List.map vs (m_law_v10 p_script))) := h2_others
            replace h1_ones := m12 _ _ (by first | exact d_p1_ones_p2_others | exact Ne.symm d_p2_others_p1_ones) h1_ones
            have fm_law_v10 : List.length (m_law_v10 p_script) = List.length ((m_law_v8 p_script).set ((m_law_v9 p_script)).toNat ((cutG ((m_law_v8 p_script).getD (m_law_v9 p_script).toNat []) none (some (-(1 : Int)))) ++ (m_law_sign_by ((m_law_cell_at p_script (3 : Int)) % (62 : Int))))) := rfl
            have hV10_0 : (m_law_v11 p_script) = (m_law_v10 p_script) := if_pos hb10
            exact ⟨_, _, rfl, e12, h1_ones, (by rw [hV10_0]; exact h2_others)⟩
          · have e10 := Ex.trans e7m e10a
            have h1_ones := e10a _ _ h1_ones
            have h2_others := e10a _ _ h2_others
            have hV10_0 : (m_law_v11 p_script) = (m_law_v8 p_script) := if_neg (by rw [hb10]; exact Bool.false_ne_true)
            exact ⟨_, _, rfl, e10, h1_ones, (by rw [hV10_0]; exact h2_others)⟩
        · intro σ10m H10m hq10m
          obtain ⟨jm10_k, jm10_at, rfl, e10m, h1_ones, h2_others⟩ := hq10m
          have fm_law_v1 : List.length (m_law_v1 p_script) = List.length (((List.range ((1 : Int) + ((m_law_cell_at p_script (0 : Int)) % (8 : Int))).toNat).map (fun k0 : Nat => (m_law_part_by (m_law_cell_at p_script ((4 : Int) + (k0 : Int))))))) := rfl
          have g1 := (v1_ok p_script).1
          have g1s := (v1_ok p_script).sum
          have g11 := (v11_ok p_script).1
          have g11s := (v11_ok p_script).sum
          have fm_law_v3 : (m_law_v3 p_script) = ((m_law_cell_at p_script (2 : Int)) % (((m_law_v1 p_script).length : Int) + (1 : Int))) := rfl
          have g3 := v3_in p_script
          refine q_asg (v := vs (m_law_v12 p_script)) (ev_is (e_joinR (l := (m_law_v1 p_script)) (ev_is (w := vs lit0) e_lit rfl) (ev_var rfl) (sq_of h1_ones) (by walk_at "vside")) rfl) fun H13 e13a => ?_
          have e13 := Ex.trans e10m e13a
          have h1_ones := e13a _ _ h1_ones
          have h2_others := e13a _ _ h2_others
          have fm_law_v12 : List.length (m_law_v12 p_script) = List.length ((joinL lit0 (m_law_v1 p_script))) := rfl
          have g12 := v12_le p_script
          refine q_asg (v := vs (m_law_v13 p_script)) (ev_is (e_joinR (l := (m_law_v11 p_script)) (ev_is (w := vs lit0) e_lit rfl) (ev_var rfl) (sq_of h2_others) (by walk_at "vside")) rfl) fun H14 e14a => ?_
          have e14 := Ex.trans e13 e14a
          have h1_ones := e14a _ _ h1_ones
          have h2_others := e14a _ _ h2_others
          have fm_law_v13 : List.length (m_law_v13 p_script) = List.length ((joinL lit0 (m_law_v11 p_script))) := rfl
          have g13 := v13_le p_script
          refine q_asg (v := V.bl (m_law_v14 p_script)) (ev_is (ev_call (ea_cons (ev_var rfl) (ea_cons (ev_var rfl) ea_nil)) (sv_of fun HC eC => ⟨_, _, rfl, (by walk_at "vside"), rfl⟩)) rfl) fun H15 e15a => ?_
          have e15 := Ex.trans e14 e15a
          have h1_ones := e15a _ _ h1_ones
          have h2_others := e15a _ _ h2_others
          refine q_asg (v := V.bl (m_law_v15 p_script)) (ev_is (ev_call (ea_cons (ev_var rfl) (ea_cons (ev_var rfl) ea_nil)) (sv_of fun HC eC => ⟨_, _, rfl, (by walk_at "vside"), rfl⟩)) rfl) fun H16 e16a => ?_
          have e16 := Ex.trans e15 e16a
          have h1_ones := e16a _ _ h1_ones
          have h2_others := e16a _ _ h2_others
          refine q_when (b := ((!true) || (!true))) (et_or (et_not (et_B (e_isi (ev_var rfl) ev_c (.ty _) (fun _ _ => TyX.base (TyOf.bl _)) (kit_ty (by decide +kernel))))) (fun hc => (et_not (et_B (e_isi (ev_var rfl) ev_c (.ty _) (fun _ _ => TyX.base (TyOf.bl _)) (kit_ty (by decide +kernel))))))) (fun hb17 H17 e17a => ?_) (fun hb17 H17 e17a => ?_)
          · have e17 := Ex.trans e16 e17a
            have h1_ones := e17a _ _ h1_ones
            have h2_others := e17a _ _ h2_others
            have k1a := ret_T k0 hb17
            exact s_ret ev_c fun H18 e18a => RetV.go k1a (Ex.trans e17 e18a)
          · have e17 := Ex.trans e16 e17a
            have h1_ones := e17a _ _ h1_ones
            have h2_others := e17a _ _ h2_others
            have k2b := ret_F k0 hb17
            refine q_when (b := ((!((m_law_v14 p_script) == (m_law_begins (m_law_v1 p_script) (m_law_v11 p_script)))) || (!((m_law_v15 p_script) == (m_law_begins (m_law_v11 p_script) (m_law_v1 p_script)))))) (et_or (et_test (e_neB (ev_var rfl) (ev_call (ea_cons (ev_var rfl) (ea_cons (ev_var rfl) ea_nil)) (sv_of fun HC eC => ⟨_, _, _, _, rfl, ex_l eC (sq_of h1_ones), ex_l eC (sq_of h2_others), (by walk_at "vside"), rfl⟩)))) (fun hc => (et_test (e_neB (ev_var rfl) (ev_call (ea_cons (ev_var rfl) (ea_cons (ev_var rfl) ea_nil)) (sv_of fun HC eC => ⟨_, _, _, _, rfl, ex_l eC (sq_of h2_others), ex_l eC (sq_of h1_ones), (by walk_at "vside"), rfl⟩)))))) (fun hb19 H19 e19a => ?_) (fun hb19 H19 e19a => ?_)
            · have e19 := Ex.trans e17 e19a
              have h1_ones := e19a _ _ h1_ones
              have h2_others := e19a _ _ h2_others
              have k3a := ret_T k2b hb19
              exact s_ret ev_c fun H20 e20a => RetV.go k3a (Ex.trans e19 e20a)
            · have e19 := Ex.trans e17 e19a
              have h1_ones := e19a _ _ h1_ones
              have h2_others := e19a _ _ h2_others
              have k4b := ret_F k2b hb19
              exact s_ret (ev_andV (e_eqB (e_inN (l := (m_above (m_law_v13 p_script))) (ev_var rfl) (el_call (ea_cons (ev_var rfl) ea_nil) (sl_of fun HC eC => ⟨_, rfl, (by walk_at "vside"), rfl⟩))) (ev_var rfl)) (fun hc => (e_eqB (e_inN (l := (m_above (m_law_v12 p_script))) (ev_var rfl) (el_call (ea_cons (ev_var rfl) ea_nil) (sl_of fun HC eC => ⟨_, rfl, (by walk_at "vside"), rfl⟩))) (ev_var rfl)))) fun H21 e21a => RetV.go k4b (Ex.trans e19 e21a)
end
/-! ## what the top has written -/
theorem all_mk {l : PySem.W.OpenLaw} {w : World} {K : PySem.W.Frag} {h : Heap} {mg : Str → Option Value} {fa : Addr} (X : K.In h) (G : h.Ns mainGlobals mg) (hfa : mg "law" = some (.ref fa))
    {f0 : Addr} {od0 an0 : Option Addr} {sl0 : Array (Option Value)} {oc0 kV0 dc0 pm0 cd0 ct0 : Value}
    (a0 : PySem.W.nsIn K mainGlobals "above" = some (some (.ref f0))) (l0 : K.lookup f0 = some ⟨oc0, od0, .func (PySem.W.fnOf "above" "above" (defArgs s_above) (defBody s_above) (defScope s_above) .none kV0 dc0 pm0 an0 cd0 ct0), sl0⟩) (c0 : PySem.W.codeIn K cd0 "above" = true) (k0 : PySem.W.keepIn K (.ref f0) = true)
    {f1 : Addr} {od1 an1 : Option Addr} {sl1 : Array (Option Value)} {oc1 kV1 dc1 pm1 cd1 ct1 : Value}
    (a1 : PySem.W.nsIn K mainGlobals "is_beneath" = some (some (.ref f1))) (l1 : K.lookup f1 = some ⟨oc1, od1, .func (PySem.W.fnOf "is_beneath" "is_beneath" (defArgs s_is_beneath) (defBody s_is_beneath) (defScope s_is_beneath) .none kV1 dc1 pm1 an1 cd1 ct1), sl1⟩) (c1 : PySem.W.codeIn K cd1 "is_beneath" = true) (k1 : PySem.W.keepIn K (.ref f1) = true)
    {f2 : Addr} {od2 an2 : Option Addr} {sl2 : Array (Option Value)} {oc2 kV2 dc2 pm2 cd2 ct2 : Value}
    (a2 : PySem.W.nsIn K mainGlobals "_law_cell_at" = some (some (.ref f2))) (l2 : K.lookup f2 = some ⟨oc2, od2, .func (PySem.W.fnOf "_law_cell_at" "_law_cell_at" (defArgs s_law_cell_at) (defBody s_law_cell_at) (defScope s_law_cell_at) .none kV2 dc2 pm2 an2 cd2 ct2), sl2⟩) (c2 : PySem.W.codeIn K cd2 "_law_cell_at" = true) (k2 : PySem.W.keepIn K (.ref f2) = true)
    {f3 : Addr} {od3 an3 : Option Addr} {sl3 : Array (Option Value)} {oc3 kV3 dc3 pm3 cd3 ct3 : Value}
    (a3 : PySem.W.nsIn K mainGlobals "_law_sign_by" = some (some (.ref f3))) (l3 : K.lookup f3 = some ⟨oc3, od3, .func (PySem.W.fnOf "_law_sign_by" "_law_sign_by" (defArgs s_law_sign_by) (defBody s_law_sign_by) (defScope s_law_sign_by) .none kV3 dc3 pm3 an3 cd3 ct3), sl3⟩) (c3 : PySem.W.codeIn K cd3 "_law_sign_by" = true) (k3 : PySem.W.keepIn K (.ref f3) = true)
    {f4 : Addr} {od4 an4 : Option Addr} {sl4 : Array (Option Value)} {oc4 kV4 dc4 pm4 cd4 ct4 : Value}
    (a4 : PySem.W.nsIn K mainGlobals "_law_part_by" = some (some (.ref f4))) (l4 : K.lookup f4 = some ⟨oc4, od4, .func (PySem.W.fnOf "_law_part_by" "_law_part_by" (defArgs s_law_part_by) (defBody s_law_part_by) (defScope s_law_part_by) .none kV4 dc4 pm4 an4 cd4 ct4), sl4⟩) (c4 : PySem.W.codeIn K cd4 "_law_part_by" = true) (k4 : PySem.W.keepIn K (.ref f4) = true)
    {f5 : Addr} {od5 an5 : Option Addr} {sl5 : Array (Option Value)} {oc5 kV5 dc5 pm5 cd5 ct5 : Value}
    (a5 : PySem.W.nsIn K mainGlobals "_law_begins" = some (some (.ref f5))) (l5 : K.lookup f5 = some ⟨oc5, od5, .func (PySem.W.fnOf "_law_begins" "_law_begins" (defArgs s_law_begins) (defBody s_law_begins) (defScope s_law_begins) .none kV5 dc5 pm5 an5 cd5 ct5), sl5⟩) (c5 : PySem.W.codeIn K cd5 "_law_begins" = true) (k5 : PySem.W.keepIn K (.ref f5) = true)
    {f6 : Addr} {od6 an6 : Option Addr} {sl6 : Array (Option Value)} {oc6 kV6 dc6 pm6 cd6 ct6 : Value}
    (a6 : PySem.W.nsIn K mainGlobals "law" = some (some (.ref f6))) (l6 : K.lookup f6 = some ⟨oc6, od6, .func (PySem.W.fnOf "law" "law" (defArgs s_law) (defBody s_law) (defScope s_law) .none kV6 dc6 pm6 an6 cd6 ct6), sl6⟩) (c6 : PySem.W.codeIn K cd6 "law" = true) (k6 : PySem.W.keepIn K (.ref f6) = true)
    (z_bool : PySem.W.nsIn K mainGlobals "bool" = some none)
    (z_isinstance : PySem.W.nsIn K mainGlobals "isinstance" = some none)
    (z_len : PySem.W.nsIn K mainGlobals "len" = some none)
    (z_max : PySem.W.nsIn K mainGlobals "max" = some none)
    (z_min : PySem.W.nsIn K mainGlobals "min" = some none)
    (z_range : PySem.W.nsIn K mainGlobals "range" = some none)
    : ∃ fd : FuncData, (∀ (s : Shared) (v : Value), BindsTo s fd ⟨[v], []⟩ [("_law_script", v)]) ∧ ∀ base : Heap, K.In base → base.Ns mainGlobals mg → FnOk l.prog w K mg base CX0 3 fa fd ["_law_script"] (sp_law K) := by
  have z : Bt mg := ⟨PySem.W.mg_none_of X G z_bool, PySem.W.mg_none_of X G z_isinstance, PySem.W.mg_none_of X G z_len, PySem.W.mg_none_of X G z_max, PySem.W.mg_none_of X G z_min, PySem.W.mg_none_of X G z_range⟩
  have F0 := fun_mk (st := s_above) l0 c0 k0
  have b0 := F0.binds (ps := ["path"]) fun _ _ _ _ _ _ us hl => match us, hl with | [_], _ => rfl
  have F1 := fun_mk (st := s_is_beneath) l1 c1 k1
  have b1 := F1.binds (ps := ["path", "upper"]) fun _ _ _ _ _ _ us hl => match us, hl with | [_, _], _ => rfl
  have F2 := fun_mk (st := s_law_cell_at) l2 c2 k2
  have b2 := F2.binds (ps := ["_law_script", "_law_k"]) fun _ _ _ _ _ _ us hl => match us, hl with | [_, _], _ => rfl
  have F3 := fun_mk (st := s_law_sign_by) l3 c3 k3
  have b3 := F3.binds (ps := ["_law_k"]) fun _ _ _ _ _ _ us hl => match us, hl with | [_], _ => rfl
  have F4 := fun_mk (st := s_law_part_by) l4 c4 k4
  have b4 := F4.binds (ps := ["_law_cell"]) fun _ _ _ _ _ _ us hl => match us, hl with | [_], _ => rfl
  have F5 := fun_mk (st := s_law_begins) l5 c5 k5
  have b5 := F5.binds (ps := ["_law_upper", "_law_lower"]) fun _ _ _ _ _ _ us hl => match us, hl with | [_, _], _ => rfl
  have F6 := fun_mk (st := s_law) l6 c6 k6
  have b6 := F6.binds (ps := ["_law_script"]) fun _ _ _ _ _ _ us hl => match us, hl with | [_], _ => rfl
  have e := hfa.symm.trans (PySem.W.mg_of X G a6)
  cases e
  refine ⟨PySem.W.fnOf "law" "law" (defArgs s_law) (defBody s_law) (defScope s_law) .none kV6 dc6 pm6 an6 cd6 ct6, fun s v => .of_eq rfl, fun base _ _ => ?_⟩
  have C_above : Cal l.prog w K mg base 1 "above" ["path"] (sp_above K) := cal_of (ok_above F0 z ) (PySem.W.mg_of X G a0) F0.kp b0
  have C_is_beneath : Cal l.prog w K mg base 1 "is_beneath" ["path", "upper"] (sp_is_beneath K) := cal_of (ok_is_beneath F1 z ) (PySem.W.mg_of X G a1) F1.kp b1
  have C_law_cell_at : Cal l.prog w K mg base 1 "_law_cell_at" ["_law_script", "_law_k"] (sp_law_cell_at K) := cal_of (ok_law_cell_at F2 z ) (PySem.W.mg_of X G a2) F2.kp b2
  have C_law_sign_by : Cal l.prog w K mg base 1 "_law_sign_by" ["_law_k"] (sp_law_sign_by K) := cal_of (ok_law_sign_by F3 z ) (PySem.W.mg_of X G a3) F3.kp b3
  have C_law_part_by : Cal l.prog w K mg base 2 "_law_part_by" ["_law_cell"] (sp_law_part_by K) := cal_of (ok_law_part_by F4 z C_law_sign_by) (PySem.W.mg_of X G a4) F4.kp b4
  have C_law_begins : Cal l.prog w K mg base 1 "_law_begins" ["_law_upper", "_law_lower"] (sp_law_begins K) := cal_of (ok_law_begins F5 z ) (PySem.W.mg_of X G a5) F5.kp b5
  exact ok_law F6 z C_law_cell_at C_law_part_by C_law_sign_by C_is_beneath C_law_begins C_above
end K02


open PySem PySem.W PyProof.Rows
set_option maxHeartbeats 0 in
theorem PySem.Challenge.cw_threeroad_k02_beneath_holds : PySem.Challenge.rw_threeroad_k02_beneath.Holds := by
  w_on; o_law; k_head; (case hw => w_witness2)
  k_fill
  refine L2.walk_of (l := PySem.Challenge.rw_threeroad_k02_beneath) (n := 63) (k := 3) (x := "_law_script") (CX := fun _ => L2.CX0) (sp := fun w => K02.sp_law _) rfl (by decide) rfl ⟨rfl, by decide, by decide⟩ (fun w h Y => PySem.W.kIn_of Y) ?F (fun _ _ a ns hl _ hS => ⟨_, ⟨a, ns, rfl, hS, rfl⟩, fun _ _ => congrArg L2.V.bl (K02.law_holds ns)⟩) (fun _ _ _ _ _ h => h)
  case F =>
    intro w mg fa h KX G hmg
    refine' K02.all_mk KX G hmg ?a0 ?l0 ?c0 ?k0 ?a1 ?l1 ?c1 ?k1 ?a2 ?l2 ?c2 ?k2 ?a3 ?l3 ?c3 ?k3 ?a4 ?l4 ?c4 ?k4 ?a5 ?l5 ?c5 ?k5 ?a6 ?l6 ?c6 ?k6 ?z_bool ?z_isinstance ?z_len ?z_max ?z_min ?z_range
    (case a0 => k_is)
    (case l0 => k_is)
    (case c0 => k_is)
    (case k0 => k_is)
    (case a1 => k_is)
    (case l1 => k_is)
    (case c1 => k_is)
    (case k1 => k_is)
    (case a2 => k_is)
    (case l2 => k_is)
    (case c2 => k_is)
    (case k2 => k_is)
    (case a3 => k_is)
    (case l3 => k_is)
    (case c3 => k_is)
    (case k3 => k_is)
    (case a4 => k_is)
    (case l4 => k_is)
    (case c4 => k_is)
    (case k4 => k_is)
    (case a5 => k_is)
    (case l5 => k_is)
    (case c5 => k_is)
    (case k5 => k_is)
    (case a6 => k_is)
    (case l6 => k_is)
    (case c6 => k_is)
    (case k6 => k_is)
    (case z_bool => k_is)
    (case z_isinstance => k_is)
    (case z_len => k_is)
    (case z_max => k_is)
    (case z_min => k_is)
    (case z_range => k_is)

