import PyProof.Rows.All
import Wide.All
import OpenK.AllK
import Wide.FinOn
import HandS.ForMost
import HandS.Evl
import HandS.IsInst
import HandS.DeepEq
import HandS.ListItems
import HandS.HotCalls
import HandS.ExcCtx
import HandS.ExcIs
import HandS.ForExc
import HandS.DictComp
import HandS.Style
import HandS.FStr
import PySem.Challenge.RW_threeroad_k04_a_deed
set_option Elab.async false
set_option linter.all false
set_option maxRecDepth 100000
set_option maxHeartbeats 4000000
set_option autoImplicit false
/-! Own layer: values of expressions over plain data (ints, texts as lists of signs, lists). -/
namespace Vf
open PySem PySem.Spec PyProof.Rows L2 TL Evl

/-! ## texts -/
abbrev Tx := List Nat
def mk (l : Tx) : Str := ⟨l.toArray⟩
def vs (l : Tx) : V := .str (mk l)
def tx (s : String) : Tx := s.toList.map Char.toNat
theorem tl_of (l : Tx) : tl (mk l) = l := rfl
theorem len_of (l : Tx) : (mk l).length = l.length := by rw [len_tl, tl_of]
theorem mk_of (x : Str) : mk (tl x) = x := ext_tl rfl
theorem app_of (a b : Tx) : mk a ++ mk b = mk (a ++ b) := ext_tl (by rw [tl_append, tl_of, tl_of, tl_of])
theorem mk_inj {a b : Tx} (h : mk a = mk b) : a = b := by rw [← tl_of a, h, tl_of]
theorem vs_inj {a b : Tx} (h : vs a = vs b) : a = b := mk_inj (V.str.inj h)
theorem lit_of (s : String) : Str.ofString s = mk (tx s) := ext_tl (tl_ofString s)
theorem vlit (s : String) : V.str (Str.ofString s) = vs (tx s) := congrArg V.str (lit_of s)
theorem dec_vs (a b : Tx) : decide (vs a = vs b) = decide (a = b) := by
  by_cases h : a = b
  · subst h
    rw [decide_eq_true rfl, decide_eq_true rfl]
  · rw [decide_eq_false h, decide_eq_false (fun e => h (vs_inj e))]
theorem dec_int (a b : Int) : decide (V.int a = V.int b) = decide (a = b) := by
  by_cases h : a = b
  · subst h
    rw [decide_eq_true rfl, decide_eq_true rfl]
  · rw [decide_eq_false h, decide_eq_false (fun e => h (V.int.inj e))]
theorem dec_bl (a b : Bool) : decide (V.bl a = V.bl b) = (a == b) := by
  cases a <;> cases b <;> decide

/-! ## places -/
theorem atI_get {α β : Type} (f : α → β) (l : List α) (d : α) {i : Int} (h0 : 0 ≤ i) (h1 : i < l.length) : atI (l.map f) i = some (f (l.getD i.toNat d)) := by
  have hj : i.toNat < l.length := by omega
  unfold atI ixN
  rw [if_pos h0, if_pos (by rw [List.length_map]; exact h1)]
  show (l.map f)[i.toNat]? = _
  rw [List.getElem?_map, List.getElem?_eq_getElem hj, List.getD_eq_getElem?_getD, List.getElem?_eq_getElem hj]
  rfl
theorem atI_getT (l : Tx) {i : Int} (h0 : 0 ≤ i) (h1 : i < l.length) : atI (mk l).cps.toList i = some (l.getD i.toNat 0) := by
  have h := atI_get (id : Nat → Nat) l 0 h0 h1
  rw [List.map_id] at h
  exact h
/-- slices, of anything -/
def cutG {α : Type} (l : List α) (lo hi : Option Int) : List α := (l.drop (HT.sIx l.length 0 lo)).take (HT.sIx l.length l.length hi - HT.sIx l.length 0 lo)
theorem cutV_map {α : Type} (f : α → V) (l : List α) (lo hi : Option Int) : cutV (l.map f) lo hi = (cutG l lo hi).map f := by
  unfold cutV cutG
  rw [List.length_map, List.map_take, List.map_drop]
theorem cutS_of (l : Tx) (lo hi : Option Int) : cutS (mk l) lo hi = mk (cutG l lo hi) := by
  unfold cutS cutG
  rw [len_of]
  rfl
theorem cutG_to {α : Type} (l : List α) (n : Nat) : cutG l none (some (n : Int)) = l.take n := by
  unfold cutG
  rw [HT.sIx_none, HT.sIx_nat, Nat.sub_zero, List.drop_zero]
  by_cases h : n ≤ l.length
  · rw [Nat.min_eq_left h]
  · rw [Nat.min_eq_right (by omega), List.take_length, List.take_of_length_le (by omega)]
theorem cutG_from {α : Type} (l : List α) (n : Nat) : cutG l (some (n : Int)) none = l.drop n := by
  unfold cutG
  rw [HT.sIx_none, HT.sIx_nat]
  by_cases h : n ≤ l.length
  · rw [Nat.min_eq_left h]
    exact List.take_of_length_le (by rw [List.length_drop]; omega)
  · rw [Nat.min_eq_right (by omega), Nat.sub_self, List.take_zero, List.drop_of_length_le (by omega)]

section
variable {K : PySem.W.Frag} {σ : L2.St} {H H' : Hp} {ta tb te tx' : TE} {t u : TT} {x y z v : V} {r : R2} {a b i j : Int} {p q : Tx}

/-! ## ints -/
theorem e_add (ha : Ev ta σ H (.int a)) (hb : Ev tb σ H (.int b)) : Ev (tOp (rI0 fun i j => .int (i + j)) ta tb) σ H (.int (a + b)) := ev_op ha hb rv_I0
theorem e_sub (ha : Ev ta σ H (.int a)) (hb : Ev tb σ H (.int b)) : Ev (tOp (rI0 fun i j => .int (i - j)) ta tb) σ H (.int (a - b)) := ev_op ha hb rv_I0
theorem e_mul (ha : Ev ta σ H (.int a)) (hb : Ev tb σ H (.int b)) (h : CMul a b) : Ev (tOp (rI CMul fun i j => .int (i * j)) ta tb) σ H (.int (a * b)) := ev_op ha hb (rv_I h)
theorem e_mod (ha : Ev ta σ H (.int a)) (hb : Ev tb σ H (.int b)) (h : 0 < b) : Ev (tOp (rI (fun _ j => 0 < j) fun i j => .int (i % j)) ta tb) σ H (.int (a % b)) := ev_op ha hb (rv_I (C := fun _ j => 0 < j) h)
theorem e_div (ha : Ev ta σ H (.int a)) (hb : Ev tb σ H (.int b)) (h : 0 < b ∧ b < 1073741824) : Ev (tOp (rI CDiv fun i j => .int (i / j)) ta tb) σ H (.int (a / b)) := ev_op ha hb (rv_I (C := CDiv) h)
theorem e_neg (ha : Ev ta σ H (.int a)) : Ev (tUn (rU fun i => .int (-i)) ta) σ H (.int (-a)) := ev_un ha ru_neg
theorem e_lt (ha : Ev ta σ H (.int a)) (hb : Ev tb σ H (.int b)) : Ev (tOp (rI0 fun i j => .bl (decide (i < j))) ta tb) σ H (.bl (decide (a < b))) := ev_op ha hb rv_I0
theorem e_le (ha : Ev ta σ H (.int a)) (hb : Ev tb σ H (.int b)) : Ev (tOp (rI0 fun i j => .bl (decide (i ≤ j))) ta tb) σ H (.bl (decide (a ≤ b))) := ev_op ha hb rv_I0
theorem e_gt (ha : Ev ta σ H (.int a)) (hb : Ev tb σ H (.int b)) : Ev (tOp (rI0 fun i j => .bl (decide (j < i))) ta tb) σ H (.bl (decide (b < a))) := ev_op ha hb rv_I0
theorem e_ge (ha : Ev ta σ H (.int a)) (hb : Ev tb σ H (.int b)) : Ev (tOp (rI0 fun i j => .bl (decide (j ≤ i))) ta tb) σ H (.bl (decide (b ≤ a))) := ev_op ha hb rv_I0
theorem e_eqI (ha : Ev ta σ H (.int a)) (hb : Ev tb σ H (.int b)) : Ev (tOp rEq ta tb) σ H (.bl (decide (a = b))) := dec_int a b ▸ ev_op ha hb (rv_eq rfl)
theorem e_neI (ha : Ev ta σ H (.int a)) (hb : Ev tb σ H (.int b)) : Ev (tOp rNe ta tb) σ H (.bl (!decide (a = b))) := dec_int a b ▸ ev_op ha hb (rv_ne rfl)
theorem e_eqT (ha : Ev ta σ H (vs p)) (hb : Ev tb σ H (vs q)) : Ev (tOp rEq ta tb) σ H (.bl (decide (p = q))) := dec_vs p q ▸ ev_op ha hb (rv_eq rfl)
theorem e_neT (ha : Ev ta σ H (vs p)) (hb : Ev tb σ H (vs q)) : Ev (tOp rNe ta tb) σ H (.bl (!decide (p = q))) := dec_vs p q ▸ ev_op ha hb (rv_ne rfl)
theorem e_eqB {c d : Bool} (ha : Ev ta σ H (.bl c)) (hb : Ev tb σ H (.bl d)) : Ev (tOp rEq ta tb) σ H (.bl (c == d)) := dec_bl c d ▸ ev_op ha hb (rv_eq rfl)
theorem e_neB {c d : Bool} (ha : Ev ta σ H (.bl c)) (hb : Ev tb σ H (.bl d)) : Ev (tOp rNe ta tb) σ H (.bl (!(c == d))) := dec_bl c d ▸ ev_op ha hb (rv_ne rfl)

/-! ## texts -/
theorem e_lit {s : String} : Ev (tC (.str (Str.ofString s))) σ H (vs (tx s)) := by
  rw [← vlit]
  exact ev_c
def rAddT : R2 := fun x y H Q => ∃ i j, x = .str i ∧ y = .str j ∧ i.length + j.length ≤ sizeLine ∧ Q (.str (i ++ j)) H
theorem op_addT {X : Cx} : OpR X (binaryOp .Add) rAddT := op_add_str
theorem rv_addT (h : p.length + q.length ≤ 100000) : RV rAddT (vs p) (vs q) H (vs (p ++ q)) := fun H1 _ Q k =>
  ⟨mk p, mk q, rfl, rfl, by rw [len_of, len_of]; exact sz_of h, by rw [app_of]; exact k H1 (Ex.refl H1)⟩
theorem e_addT (ha : Ev ta σ H (vs p)) (hb : Ev tb σ H (vs q)) (h : p.length + q.length ≤ 100000) : Ev (tOp rAddT ta tb) σ H (vs (p ++ q)) := ev_op ha hb (rv_addT h)
theorem e_ixS (ha : Ev ta σ H (vs p)) (hb : Ev tb σ H (.int i)) (h : 0 ≤ i ∧ i < p.length ∧ p.length ≤ 100000) : Ev (tOp rIxS ta tb) σ H (vs [p.getD i.toNat 0]) :=
  ev_op ha hb (rv_ixS (by rw [len_of]; exact h.2.2) (atI_getT p h.1 h.2.1))
theorem e_slS {tl' th : TO} {lo hi : Option Int} (h : Ev te σ H (vs p)) (h1 : EvO tl' σ H lo) (h2 : EvO th σ H hi) (hz : p.length ≤ 100000) : Ev (tSl rSlS te tl' th) σ H (vs (cutG p lo hi)) := fun H1 e Q k =>
  h H1 e _ fun H2 e2 => h1 H2 (e.trans e2) _ fun H3 e3 => h2 H3 ((e.trans e2).trans e3) _ fun H4 e4 =>
    ⟨mk p, rfl, by rw [len_of]; exact sz_of hz, by rw [cutS_of]; exact k H4 ((e2.trans e3).trans e4)⟩
def rLenT : List V → Hp → VK → Prop := fun xs H Q => ∃ z, xs = [.str z] ∧ z.length ≤ sizeLine ∧ Q (.int z.length) H
theorem call_lenT {X : Cx} : CallR X (.builtin "len") rLenT := call_len_str
theorem e_lenT (h : Ev te σ H (vs p)) (hz : p.length ≤ 100000) : Ev (tCB rLenT (tCons te tNil)) σ H (.int (p.length : Int)) := ev_cb (ea_cons h ea_nil) fun H1 _ Q k =>
  ⟨mk p, rfl, by rw [len_of]; exact sz_of hz, by rw [len_of]; exact k H1 (Ex.refl H1)⟩
/-- one sign in a text -/
def rInT : R2 := fun x y H Q => ∃ (c : Nat) (z : Str), x = .str ⟨#[c]⟩ ∧ y = .str z ∧ Q (.bl (decide (c ∈ z.cps.toList))) H
def rNiT : R2 := fun x y H Q => ∃ (c : Nat) (z : Str), x = .str ⟨#[c]⟩ ∧ y = .str z ∧ Q (.bl (!decide (c ∈ z.cps.toList))) H
theorem op_inT {X : Cx} : OpR X (compareOp .In) rInT := op_in_sign
theorem op_niT {X : Cx} : OpR X (compareOp .NotIn) rNiT := op_notIn_sign
theorem e_inT {c : Nat} (ha : Ev ta σ H (vs [c])) (hb : Ev tb σ H (vs p)) : Ev (tOp rInT ta tb) σ H (.bl (decide (c ∈ p))) := ev_op ha hb fun H1 _ Q k => ⟨c, mk p, rfl, rfl, k H1 (Ex.refl H1)⟩
theorem e_niT {c : Nat} (ha : Ev ta σ H (vs [c])) (hb : Ev tb σ H (vs p)) : Ev (tOp rNiT ta tb) σ H (.bl (!decide (c ∈ p))) := ev_op ha hb fun H1 _ Q k => ⟨c, mk p, rfl, rfl, k H1 (Ex.refl H1)⟩
/-- sep.join(list) -/
def rJoinT (K : PySem.W.Frag) : V → List V → Hp → VK → Prop := fun x xs H Q => ∃ a p, ∃ ys : List Str, x = .str a ∧ xs = [.ref p] ∧ (SqL K H p (ys.map V.str) ∨ SqT K H p (ys.map V.str)) ∧
  (ys.map (·.length)).sum + ys.length * a.length ≤ 16777216 ∧ Q (.str (Txt.join a ys)) H
theorem pe_joinT {X : Cx} {o e : Expr} {to te : TE} {apos pos : Pos} (ho : PE X o to) (he : PE X e te) (hs : starEach [e] X.env = [(false, eval e X.env)] := by rfl) (hbase : attributeBase o "join" X.env (eval o X.env) = eval o X.env := by rfl) (hline : (apos.endLine == pos.line) = true := by rfl) :
    PE X (.Call (.Attribute o "join" apos) [e] [] pos) (tM1 (rJoinT X.K) to te) := pe_join ho he hs hbase hline
def sumLen (l : List Tx) : Nat := (l.map List.length).sum
theorem map_vs (l : List Tx) : l.map vs = (l.map mk).map V.str := by rw [List.map_map]; rfl
theorem sum_mk (l : List Tx) : ((l.map mk).map (·.length)).sum = sumLen l := by
  unfold sumLen
  rw [List.map_map]
  congr 1
theorem join_of (s : Tx) (l : List Tx) : Txt.join (mk s) (l.map mk) = mk (joinL s l) := ext_tl (by
  rw [join_eq, tl_join, tl_of, tl_of, List.map_map]
  congr 1
  exact (List.map_congr_left fun x _ => tl_of x).trans (List.map_id l))
theorem jn_rule {s : Tx} {l : List Tx} {pl : Addr} {H1 : Hp} {Q : VK} (hS : SqL K H1 pl (l.map vs)) (hz : sumLen l + l.length * s.length ≤ 16777216) (k : Q (vs (joinL s l)) H1) : rJoinT K (vs s) [.ref pl] H1 Q :=
  ⟨mk s, pl, l.map mk, rfl, rfl, Or.inl (map_vs l ▸ hS), by rw [sum_mk, List.length_map, len_of]; exact hz, by rw [join_of]; exact k⟩
theorem jn_size {s : Tx} {l : List Tx} (hz : sumLen l ≤ 1000000 ∧ l.length ≤ 1000 ∧ s.length ≤ 1000) : sumLen l + l.length * s.length ≤ 16777216 := by
  have h := Nat.mul_le_mul hz.2.1 hz.2.2
  omega
theorem e_joinN {s : Tx} {l : List Tx} (h : Ev ta σ H (vs s)) (hl : EvL te σ H (l.map vs)) (hz : sumLen l ≤ 1000000 ∧ l.length ≤ 1000 ∧ s.length ≤ 1000) : Ev (tM1 (rJoinT K) ta te) σ H (vs (joinL s l)) := fun H1 e Q k =>
  h H1 e _ fun H2 e2 => ⟨⟨mk s, rfl⟩, hl H2 (e.trans e2) _ fun pl H3 _ e3 hp => jn_rule (sq_of hp) (jn_size hz) (k H3 (e2.trans e3))⟩
theorem e_joinR {s : Tx} {l : List Tx} {pl : Addr} (h : Ev ta σ H (vs s)) (hl : Ev te σ H (.ref pl)) (hS : SqL K H pl (l.map vs)) (hz : sumLen l ≤ 1000000 ∧ l.length ≤ 1000 ∧ s.length ≤ 1000) : Ev (tM1 (rJoinT K) ta te) σ H (vs (joinL s l)) := fun H1 e Q k =>
  h H1 e _ fun H2 e2 => ⟨⟨mk s, rfl⟩, hl H2 (e.trans e2) _ fun H3 e3 => jn_rule (ex_l ((e.trans e2).trans e3) hS) (jn_size hz) (k H3 (e2.trans e3))⟩
/-- x.split(one sign) -/
def rSplitT : V → List V → Hp → VK → Prop := fun x xs H Q => ∃ a b, x = .str a ∧ xs = [.str b] ∧ (b.length == 0) = false ∧ a.length + 2 ≤ sizeLine ∧ rNewStrs (Txt.split a b) H Q
theorem pe_splitT {X : Cx} {o e : Expr} {to te : TE} {apos pos : Pos} (ho : PE X o to) (he : PE X e te) (hs : starEach [e] X.env = [(false, eval e X.env)] := by rfl) (hbase : attributeBase o "split" X.env (eval o X.env) = eval o X.env := by rfl) (hline : (apos.endLine == pos.line) = true := by rfl) :
    PE X (.Call (.Attribute o "split" apos) [e] [] pos) (tM1 rSplitT to te) := pe_split ho he hs hbase hline
def cuts (c : Nat) (l : Tx) : List Tx := spl [c] 0 [] l
theorem split_of {c : Nat} (hc : c < 256) (l : Tx) : (Txt.split (mk l) (mk [c])).map V.str = (cuts c l).map vs := by
  have h := split_spl (mk l) (mk [c]) (by rw [tl_of]; simp) (kind_ok (by show (#[c] : Array Nat).all (· < 256) = true; simp [hc]))
  rw [tl_of, tl_of] at h
  show _ = (spl [c] 0 [] l).map vs
  rw [← h, List.map_map]
  exact List.map_congr_left fun y _ => by
    show V.str y = V.str (mk (tl y))
    rw [mk_of]
theorem l_split {c : Nat} (ha : Ev ta σ H (vs p)) (hb : Ev te σ H (vs [c])) (hc : c < 256) (hz : p.length ≤ 90000) : EvL (tM1 rSplitT ta te) σ H ((cuts c p).map vs) := fun H1 e Q k =>
  ha H1 e _ fun H2 e2 => ⟨⟨mk p, rfl⟩, hb H2 (e.trans e2) _ fun H3 e3 =>
    ⟨mk p, mk [c], rfl, rfl, by rw [len_of]; rfl, by rw [len_of]; exact sz_of (by omega), fun pl np => by
      have e4 := split_of hc p
      refine k pl _ (fresh_back (e2.trans e3) np) ((e2.trans e3).trans (Ex.new np)) ?_
      rw [upd_same, e4]⟩⟩
/-- startswith -/
theorem starts_of (p q : Tx) : Txt.startswith (mk p) (mk q) = q.isPrefixOf p := by
  show ((decide (0 + (mk q).length ≤ (mk p).length)) && Builtin.Str.subAt (mk p) (mk q) 0) = _
  rw [len_of, len_of, Nat.zero_add, PySem.StrLaws.subAt_eq, List.drop_zero, len_of]
  show (decide (q.length ≤ p.length) && (p.take q.length == q)) = q.isPrefixOf p
  cases h : q.isPrefixOf p with
  | true =>
    obtain ⟨r, rfl⟩ := List.isPrefixOf_iff_prefix.mp h
    simp
  | false =>
    have hn : ¬ q <+: p := fun z => by rw [List.isPrefixOf_iff_prefix.mpr z] at h; cases h
    have : ¬ p.take q.length = q := fun z => hn ⟨p.drop q.length, (congrArg (· ++ p.drop q.length) z).symm.trans (List.take_append_drop _ _)⟩
    rw [beq_eq_false_iff_ne.mpr this, Bool.and_false]
def rStartsT : V → List V → Hp → VK → Prop := fun x xs H Q => ∃ a b, x = .str a ∧ xs = [.str b] ∧ Q (.bl (Txt.startswith a b)) H
theorem pe_startsT {X : Cx} {o e : Expr} {to te : TE} {apos pos : Pos} (ho : PE X o to) (he : PE X e te) (hs : starEach [e] X.env = [(false, eval e X.env)] := by rfl) (hbase : attributeBase o "startswith" X.env (eval o X.env) = eval o X.env := by rfl) (hline : (apos.endLine == pos.line) = true := by rfl) :
    PE X (.Call (.Attribute o "startswith" apos) [e] [] pos) (tM1 rStartsT to te) := pe_m1 PySem.F.slot_str_startswith PySem.F.type_str_startswith mt_startswith ho he hs hbase hline
theorem e_starts (ha : Ev ta σ H (vs p)) (hb : Ev te σ H (vs q)) : Ev (tM1 rStartsT ta te) σ H (.bl (q.isPrefixOf p)) := fun H1 e Q k =>
  ha H1 e _ fun H2 e2 => ⟨⟨mk p, rfl⟩, hb H2 (e.trans e2) _ fun H3 e3 => ⟨mk p, mk q, rfl, rfl, by rw [starts_of]; exact k H3 (e2.trans e3)⟩⟩
/-! ## lists -/
theorem e_ixL {α : Type} {f : α → V} {l : List α} (d : α) {pl : Addr} (h : Ev ta σ H (.ref pl)) (hS : SqL K H pl (l.map f)) (hb : Ev tb σ H (.int i)) (hi : 0 ≤ i ∧ i < l.length) : Ev (tOp (rIxL K) ta tb) σ H (f (l.getD i.toNat d)) := ev_op h hb (rv_ixL hS (atI_get f l d hi.1 hi.2))
theorem e_ixN {α : Type} {f : α → V} {l : List α} (d : α) (h : EvL ta σ H (l.map f)) (hb : Ev tb σ H (.int i)) (hi : 0 ≤ i ∧ i < l.length) : Ev (tOp (rIxL K) ta tb) σ H (f (l.getD i.toNat d)) :=
  ev_opL1 h (fun _ e => hb.mono e) fun _ _ hp _ => rv_ixL (sq_of hp) (atI_get f l d hi.1 hi.2)
theorem e_lenL {α : Type} {f : α → V} {l : List α} {pl : Addr} (h : Ev ta σ H (.ref pl)) (hS : SqL K H pl (l.map f)) : Ev (tCB (rLenS K) (tCons ta tNil)) σ H (.int (l.length : Int)) := by
  have g := ev_len h hS
  rw [List.length_map] at g
  exact g
theorem e_lenN {α : Type} {f : α → V} {l : List α} (h : EvL ta σ H (l.map f)) : Ev (tCB (rLenS K) (tCons ta tNil)) σ H (.int (l.length : Int)) := by
  have g := ev_lenN (K := K) h
  rw [List.length_map] at g
  exact g
theorem call_lenQ {X : Cx} : CallR X (.builtin "len") (rLenS X.K) := call_len_seq
theorem l_slR {α : Type} {f : α → V} {l : List α} {tl' th : TO} {lo hi : Option Int} {pl : Addr} (h : Ev te σ H (.ref pl)) (hS : SqL K H pl (l.map f)) (h1 : EvO tl' σ H lo) (h2 : EvO th σ H hi) : EvL (tSl (rSlL K) te tl' th) σ H ((cutG l lo hi).map f) :=
  cutV_map f l lo hi ▸ el_sl h h1 h2 hS
theorem e_all {l : List Bool} (h : EvL ta σ H (l.map V.bl)) : Ev (tCB (rAll K) (tCons ta tNil)) σ H (.bl (l.all id)) := fun H1 e Q k =>
  h H1 e _ fun pl H2 _ e2 hp => ⟨pl, l, rfl, sq_of hp, k H2 e2⟩
theorem inV_vs (p : Tx) (l : List Tx) : inV (vs p) (l.map vs) = decide (p ∈ l) := by
  unfold inV
  rw [List.any_map]
  induction l with
  | nil => rfl
  | cons y r ih =>
    rw [List.any_cons, ih]
    show ((mk y == mk p) || _) = _
    by_cases h : y = p
    · subst h
      simp
    · have : (mk y == mk p) = false := beq_eq_false_iff_ne.mpr fun e => h (mk_inj e)
      rw [this]
      have h2 : ¬ p = y := fun e => h e.symm
      simp [h2]
theorem flat_vs (l : List Tx) : (l.map vs).all flatV = true := by
  rw [List.all_map]
  exact List.all_eq_true.mpr fun _ _ => rfl
theorem e_inN {l : List Tx} (ha : Ev ta σ H (vs p)) (hb : EvL tb σ H (l.map vs)) : Ev (tOp (rIn K false) ta tb) σ H (.bl (decide (p ∈ l))) := inV_vs p l ▸ ev_opL ha hb fun _ _ h _ => rv_isL (sq_of h) rfl (flat_vs l)
theorem e_inU {l : List Tx} (ha : Ev ta σ H (vs p)) (hb : EvU tb σ H (l.map vs)) : Ev (tOp (rIn K false) ta tb) σ H (.bl (decide (p ∈ l))) := inV_vs p l ▸ ev_inU ha hb rfl (flat_vs l)
theorem e_inR {l : List Tx} {pl : Addr} (ha : Ev ta σ H (vs p)) (hb : Ev tb σ H (.ref pl)) (hS : SqL K H pl (l.map vs)) : Ev (tOp (rIn K false) ta tb) σ H (.bl (decide (p ∈ l))) := inV_vs p l ▸ ev_op ha hb (rv_isL hS rfl (flat_vs l))

/-! ## comprehensions without ifs -/
theorem given_all (n : Nat) (g : Nat → V) : given n (fun _ => true) g = (List.range n).map g := by
  unfold given
  rw [List.filter_eq_self.mpr fun _ _ => rfl]
theorem l_mapR {α : Type} {f : α → V} {ta' : TA} {jx : Nat} {ws : List Nat} {n : Int} (g : Nat → α) (h : EvA ta' σ H [.int n]) (hn : 0 ≤ n ∧ n ≤ 40000) (he : ∀ k : Nat, (k : Int) < n → Ev te ((wipe σ ws).set jx (some (.int (k : Int)))) H (f (g k)))
    (hw : ∀ w, wipe ((wipe σ ws).set jx (some w)) ws = wipe σ ws := by exact fun _ => rfl) : EvL (tLc (iRng1 ta') (gName jx) tYes te ws) σ H (((List.range n.toNat).map g).map f) := by
  have q := el_lcR1 (t := tYes) (te := te) (fun _ => true) (fun k => f (g k)) h hn hw (fun _ _ _ _ => fun H1 _ Q k => k H1 (Ex.refl H1)) (fun k H1 e hk _ => (he k hk).mono e)
  rw [given_all] at q
  rw [List.map_map]
  exact q
theorem given_list {α β : Type} (f : β → V) (g : α → β) (l : List α) (d : α) : given l.length (fun _ => true) (fun k => f (g (l.getD k d))) = (l.map g).map f := by
  rw [given_all]
  apply List.ext_getElem
  · simp
  · intro k h1 h2
    simp only [List.getElem_map, List.getElem_range]
    rw [List.getD_eq_getElem?_getD, List.getElem?_eq_getElem (by simpa using h1)]
    rfl
theorem map_at {α : Type} {f : α → V} {l : List α} {k : Nat} {w : V} (d : α) (h : (l.map f)[k]? = some w) : l.getD k d ∈ l ∧ w = f (l.getD k d) := by
  rw [List.getElem?_map] at h
  cases e : l[k]? with
  | none => rw [e] at h; cases h
  | some y =>
    rw [e] at h
    have e2 : l.getD k d = y := by rw [List.getD_eq_getElem?_getD, e]; rfl
    rw [e2]
    exact ⟨List.mem_of_getElem? e, (Option.some.inj h).symm⟩
/-- over a list that stands -/
theorem l_mapL {α β : Type} {f : α → V} {f2 : β → V} {l : List α} {pl : Addr} {tl' : TE} {jx : Nat} {ws : List Nat} (d : α) (g : α → β) (h : Ev tl' σ H (.ref pl)) (hS : SqL K H pl (l.map f)) (hz : l.length ≤ 40000)
    (he : ∀ y ∈ l, Ev te ((wipe σ ws).set jx (some (f y))) H (f2 (g y))) (hw : ∀ w, wipe ((wipe σ ws).set jx (some w)) ws = wipe σ ws := by exact fun _ => rfl) : EvL (tLc (iList K tl') (gName jx) tYes te ws) σ H ((l.map g).map f2) := by
  have q := el_lcL (t := tYes) (te := te) (fun _ => true) (fun k => f2 (g (l.getD k d))) h hS (by rw [List.length_map]; exact hz) hw (fun _ _ _ _ _ => fun H1 _ Q k => k H1 (Ex.refl H1)) (fun k w H1 e hk _ => by
    obtain ⟨hm, ew⟩ := map_at d hk
    rw [ew]
    exact (he _ hm).mono e)
  rw [List.length_map, given_list] at q
  exact q
/-- over the signs of a text -/
theorem l_mapS {β : Type} {f2 : β → V} {tl' : TE} {jx : Nat} {ws : List Nat} (g : Nat → β) (h : Ev tl' σ H (vs p)) (hz : p.length ≤ 40000)
    (he : ∀ c ∈ p, Ev te ((wipe σ ws).set jx (some (vs [c]))) H (f2 (g c))) (hw : ∀ w, wipe ((wipe σ ws).set jx (some w)) ws = wipe σ ws := by exact fun _ => rfl) : EvL (tLc (iStr tl') (gName jx) tYes te ws) σ H ((p.map g).map f2) := fun H0 e0 Q q => h H0 e0 _ fun H1 e1 => ⟨mk p, rfl, fun D hD => by
  refine ⟨fun k m H2 => m = p.length - k ∧ k ≤ p.length ∧ Cw H1 (fun _ => true) (fun k => f2 (g (p.getD k 0))) D k H2, ⟨p.length, by simp, Nat.zero_le _, hD, Ex.new hD, upd_same⟩, fun k m H2 hW => ?_⟩
  obtain ⟨rfl, hk, hC⟩ := hW
  have hsz : (mk p).cps.size = p.length := by show p.toArray.size = _; simp
  by_cases hlt : k < p.length
  · refine Or.inr ⟨by show k < (mk p).cps.size; omega, fun H3 => Cw H1 (fun _ => true) (fun k => f2 (g (p.getD k 0))) D (k + 1) H3, fun H3 h3 => ⟨p.length - (k + 1), by omega, rfl, hlt, h3⟩, fun w H3 hy => ?_⟩
    obtain ⟨rfl, c, hc, rfl⟩ := hy
    have hc2 : p[k]? = some c := by
      have : (mk p).cps[k]? = p[k]? := by show p.toArray[k]? = _; simp
      rw [← this]; exact hc
    have hm : c ∈ p := List.mem_of_getElem? hc2
    have hd : p.getD k 0 = c := by rw [List.getD_eq_getElem?_getD, hc2]; rfl
    exact ⟨hw _, cw_turn hC (by omega) (fun H4 _ Q k => k H4 (Ex.refl H4)) (fun _ => by
      show Ev te _ H1 (f2 (g (p.getD k 0)))
      rw [hd]
      exact (he c hm).mono (e0.trans e1))⟩
  · have ek : k = p.length := by omega
    refine Or.inl ⟨by show (mk p).cps.size ≤ k; omega, ?_⟩
    subst ek
    have h3 := hC.2.2
    rw [given_list] at h3
    exact q D H2 (fresh_back e1 hC.1) (e1.trans hC.2.1) h3⟩

/-! ## displays -/
theorem a_one (h : Ev te σ H x) : EvA (tCons te tNil) σ H [x] := ea_cons h ea_nil
theorem a_two (h : Ev ta σ H x) (h2 : Ev tb σ H y) : EvA (tCons ta (tCons tb tNil)) σ H [x, y] := ea_cons h (a_one h2)
theorem tyx_lst {pl : Addr} {xs : List V} (h : SqL K H pl xs) : TyX K H (.ref pl) (.type "list") := by
  rcases h with (h | ⟨o, h⟩) | ⟨o, _, _, h, hc, _⟩
  · exact .base (.lst h)
  · exact .base (.frz h)
  · exact .kList h hc
/-! ## isinstance of plain values -/
theorem e_isi {w : V} {tw uw : Value} {c : V} {ok : Bool} (h : Ev ta σ H w) (hc : Ev tb σ H c) (k : ClsV c uw) (ty : ∀ H1, Ex H H1 → TyX K H1 w tw) (hk : PySem.W.kitOne K tw uw = some ok) : Ev (tCB (rIsi K) (tCons ta (tCons tb tNil))) σ H (.bl ok) :=
  ev_cb (a_two h hc) fun H1 e Q q => ⟨w, c, tw, uw, ok, rfl, k, ty H1 e, hk, q H1 (Ex.refl H1)⟩
end

/-! ## promises: a value, or a new list -/
/-- a pure def: called with such arguments it gives such a value, whatever else stands -/
def spP (R : List V → Hp → V → Prop) : Sp := fun vs' H Q _ => ∃ v, R vs' H v ∧ RetV v H Q
def spN (R : List V → Hp → List V → Prop) : Sp := fun vs' H Q _ => ∃ xs, R vs' H xs ∧ RetL xs H Q
theorem sv_of {R : List V → Hp → V → Prop} {ws : List V} {H : Hp} {v : V} (h : ∀ H1, Ex H H1 → R ws H1 v) : SpV (spP R) ws H v := fun H1 e Q q _ => ⟨v, h H1 e, q⟩
theorem sl_of {R : List V → Hp → List V → Prop} {ws : List V} {H : Hp} {xs : List V} (h : ∀ H1, Ex H H1 → R ws H1 xs) : SpL (spN R) ws H xs := fun H1 e Q q _ => ⟨xs, h H1 e, q⟩

/-! ## a def as its callers see it -/
structure Cal (P : Program) (w : World) (K : PySem.W.Frag) (mg : Str → Option Value) (base : Heap) (k : Nat) (x : Str) (ps : List Str) (sp : Sp) : Prop where
  ex : ∃ f fd, FnOk P w K mg base CX0 k f fd ps sp ∧ mg x = some (.ref f) ∧ PySem.W.keepIn K (.ref f) = true ∧ Binds K fd ps []
theorem pe_cal {X : Cx} {k : Nat} {x : Str} {ps : List Str} {sp : Sp} {e : Expr} {es : List Expr} {t : TA} {p pos : Pos} (C : Cal X.prog X.w X.K X.mg X.base k x ps sp) (hr : Room k X.A) (hg : Gl X x) (ha : PA X (e :: es) t)
    (hdb : (x == ("__debug__" : Str)) = false := by decide) (he : starEach (e :: es) X.env = (false, eval e X.env) :: starEach es X.env := by rfl) (hpl : (backTo pos (starEach es X.env)).any (·.1) = false := by rfl) :
    PE X (.Call (.Name x p) (e :: es) [] pos) (tCall sp [] E0 t) := by
  obtain ⟨f, fd, F, g, kp, b⟩ := C.ex
  exact pe_call (CX := CX0) (E := E0) F hr hg g kp b .nil pass0 ha hdb he hpl
/-- a def of the text, proved -/
theorem cal_of {P : Program} {w : World} {K : PySem.W.Frag} {mg : Str → Option Value} {base : Heap} {k : Nat} {x : Str} {ps : List Str} {sp : Sp} {f : Addr} {fd : FuncData} (F : FnOk P w K mg base CX0 k f fd ps sp) (g : mg x = some (.ref f)) (kp : PySem.W.keepIn K (.ref f) = true) (b : Binds K fd ps []) :
    Cal P w K mg base k x ps sp := ⟨f, fd, F, g, kp, b⟩
end Vf
namespace Vf
open PySem PySem.Spec PyProof.Rows L2 TL Evl

/-! ## loops as folds that may be left -/
inductive Stp (S R : Type) where
  | go (s : S) | brk (s : S) | ret (r : R)
def runL {α S R : Type} (f : S → α → Stp S R) : List α → S → Stp S R
  | [], s => .go s
  | x :: xs, s => match f s x with
    | .go s2 => runL f xs s2
    | .brk s2 => .brk s2
    | .ret r => .ret r
def aftL {S R : Type} (o : Stp S R) (g : S → R) : R := match o with
  | .go s => g s
  | .brk s => g s
  | .ret r => r
theorem runL_app {α S R : Type} (f : S → α → Stp S R) : ∀ (l m : List α) (s : S), runL f (l ++ m) s = match runL f l s with
    | .go s2 => runL f m s2
    | .brk s2 => .brk s2
    | .ret r => .ret r
  | [], m, s => rfl
  | x :: xs, m, s => by
    rw [List.cons_append]
    simp only [runL]
    cases h : f s x with
    | go s2 => exact runL_app f xs m s2
    | brk s2 => rfl
    | ret r => rfl
theorem runL_go {α S R : Type} {f : S → α → Stp S R} {y : α} {r : List α} {s s2 : S} (h : f s y = .go s2) : runL f (y :: r) s = runL f r s2 := by
  simp only [runL]
  rw [h]
theorem runL_ret {α S R : Type} {f : S → α → Stp S R} {y : α} {r : List α} {s : S} {q : R} (h : f s y = .ret q) : runL f (y :: r) s = .ret q := by
  simp only [runL]
  rw [h]
theorem runL_all {α S R : Type} (f : S → α → Stp S R) (g : S → α → S) (hf : ∀ s y, f s y = .go (g s y)) : ∀ (l : List α) (s : S), runL f l s = .go (l.foldl g s)
  | [], s => rfl
  | y :: r, s => by
    rw [runL_go (hf s y), runL_all f g hf r, List.foldl_cons]
theorem runL_next {α S R : Type} {f : S → α → Stp S R} {l : List α} {i : Nat} {y : α} {s0 s : S} (h : runL f (l.take i) s0 = .go s) (hy : l[i]? = some y) : runL f (l.take (i + 1)) s0 = f s y := by
  rw [List.take_add_one, hy, runL_app, h]
  show (match f s y with | .go s2 => runL f [] s2 | .brk s2 => .brk s2 | .ret r => .ret r) = _
  cases f s y <;> rfl
theorem runL_out {α S R : Type} {f : S → α → Stp S R} {l : List α} {i : Nat} {s0 : S} {o : Stp S R} (h : runL f (l.take i) s0 = o) (ho : ∀ s, o ≠ .go s) : runL f l s0 = o := by
  have e : l = l.take i ++ l.drop i := (List.take_append_drop i l).symm
  rw [e, runL_app, h]
  cases o with
  | go s => exact absurd rfl (ho s)
  | brk s => rfl
  | ret r => rfl

section
variable {K : PySem.W.Frag} {σ : L2.St} {H H' : Hp} {ta tb te tl' : TE} {D : Ends} {tu tw tz : TS} {α S R : Type}
/-- what a loop's body has to show -/
def BodyOk (tu : TS) (D : Ends) (j : Nat) (f : α → V) (step : S → α → Stp S R) (l : List α) (s0 : S) (Rep : S → L2.St → Hp → Prop) : Prop :=
  ∀ (Nx Bk : L2.St → Hp → Prop) (i : Nat) (s : S) (y : α) (σ1 : L2.St) (H1 : Hp), l[i]? = some y → runL step (l.take i) s0 = .go s → Rep s σ1 H1 → (∀ s2 σ2 H2, step s y = .go s2 → Rep s2 σ2 H2 → Nx σ2 H2) → (∀ s2 σ2 H2, step s y = .brk s2 → Rep s2 σ2 H2 → Bk σ2 H2) →
    (∀ r, step s y = .ret r → runL step l s0 = .ret r) → tu { D with nx := Nx, ct := Nx, bk := Bk } (σ1.set j (some (f y))) H1
def OutOk (tz : TS) (D : Ends) (step : S → α → Stp S R) (l : List α) (s0 : S) (Rep : S → L2.St → Hp → Prop) : Prop :=
  ∀ s σ1 H1, (runL step l s0 = .go s ∨ runL step l s0 = .brk s) → Rep s σ1 H1 → tz D σ1 H1
theorem loop_core {f : α → V} {l : List α} {step : S → α → Stp S R} {s0 : S} {Rep : S → L2.St → Hp → Prop} {j : Nat} (hb : BodyOk tu D j f step l s0 Rep) (ho : OutOk tz D step l s0 Rep) {i : Nat} {y : α} {σ1 : L2.St} {H1 : Hp} (hy : l[i]? = some y)
    (p : ∃ s, runL step (l.take i) s0 = .go s ∧ Rep s σ1 H1) : tu { D with nx := fun σ2 H2 => ∃ s, runL step (l.take (i + 1)) s0 = .go s ∧ Rep s σ2 H2, ct := fun σ2 H2 => ∃ s, runL step (l.take (i + 1)) s0 = .go s ∧ Rep s σ2 H2, bk := tz D } (σ1.set j (some (f y))) H1 := by
  obtain ⟨s, hr, hp⟩ := p
  have hn := runL_next hr hy
  exact hb _ _ i s y σ1 H1 hy hr hp (fun s2 σ2 H2 e q => ⟨s2, hn.trans e, q⟩) (fun s2 σ2 H2 e q => ho s2 σ2 H2 (Or.inr (runL_out (hn.trans e) (fun _ z => by cases z))) q) (fun r e => runL_out (hn.trans e) (fun _ z => by cases z))
theorem loop_end {l : List α} {step : S → α → Stp S R} {s0 : S} {Rep : S → L2.St → Hp → Prop} (ho : OutOk tz D step l s0 Rep) {n : Nat} (hn : n = l.length) {σ1 : L2.St} {H1 : Hp} (p : ∃ s, runL step (l.take n) s0 = .go s ∧ Rep s σ1 H1) : tz D σ1 H1 := by
  obtain ⟨s, hr, hp⟩ := p
  rw [hn, List.take_length] at hr
  exact ho s σ1 H1 (Or.inl hr) hp
/-- for x in a list that stands -/
theorem q_loopL {f : α → V} {l : List α} (step : S → α → Stp S R) (s0 : S) (Rep : S → L2.St → Hp → Prop) {j : Nat} {pl : Addr} (h : Ev tl' σ H (.ref pl)) (hS : SqL K H pl (l.map f)) (h0 : ∀ H1, Ex H H1 → Rep s0 σ H1) (hl : ∀ s σ1 H1, Rep s σ1 H1 → SqL K H1 pl (l.map f))
    (hb : BodyOk tu D j f step l s0 Rep) (ho : OutOk tz D step l s0 Rep) : tSeq (tFor (iList K tl') (gName j) tu) tz D σ H :=
  q_forLn h hS (fun i σ1 H1 => ∃ s, runL step (l.take i) s0 = .go s ∧ Rep s σ1 H1) (fun H1 e => ⟨s0, rfl, h0 H1 e⟩) (fun i σ1 H1 _ ⟨s, _, p⟩ => hl s σ1 H1 p) (fun i x σ1 H1 hx p => by
    rw [List.getElem?_map] at hx
    cases hy : l[i]? with
    | none => rw [hy] at hx; cases hx
    | some y =>
      rw [hy] at hx
      have ex : f y = x := Option.some.inj hx
      subst ex
      exact loop_core hb ho hy p) (fun σ1 H1 p => loop_end ho (List.length_map _ ) p)
/-- for x in a new list -/
theorem q_loopN {f : α → V} {l : List α} (step : S → α → Stp S R) (s0 : S) (Rep : Addr → S → L2.St → Hp → Prop) {j : Nat} (h : EvL tl' σ H (l.map f)) (h0 : ∀ p H1, H p = none → Ex H H1 → H1 p = some (.lst (l.map f)) → Rep p s0 σ H1) (hl : ∀ p s σ1 H1, Rep p s σ1 H1 → SqL K H1 p (l.map f))
    (hb : ∀ p, H p = none → BodyOk tu D j f step l s0 (Rep p)) (ho : ∀ p, H p = none → OutOk tz D step l s0 (Rep p)) : tSeq (tFor (iList K tl') (gName j) tu) tz D σ H :=
  q_forNLn h (fun p i σ1 H1 => ∃ s, runL step (l.take i) s0 = .go s ∧ H p = none ∧ Rep p s σ1 H1) (fun p H1 np e hp => ⟨s0, rfl, np, h0 p H1 np e hp⟩) (fun p i σ1 H1 _ ⟨s, _, _, q⟩ => hl p s σ1 H1 q) (fun p i x σ1 H1 hx q => by
    rw [List.getElem?_map] at hx
    cases hy : l[i]? with
    | none => rw [hy] at hx; cases hx
    | some y =>
      rw [hy] at hx
      have ex : f y = x := Option.some.inj hx
      subst ex
      obtain ⟨s, hr, np, hp⟩ := q
      have hn := runL_next hr hy
      exact hb p np _ _ i s y σ1 H1 hy hr hp (fun s2 σ2 H2 e q => ⟨s2, hn.trans e, np, q⟩) (fun s2 σ2 H2 e q => ho p np s2 σ2 H2 (Or.inr (runL_out (hn.trans e) (fun _ z => by cases z))) q) (fun r e => runL_out (hn.trans e) (fun _ z => by cases z))) (fun p σ1 H1 ⟨s, hr, np, q⟩ => loop_end (ho p np) (List.length_map _) ⟨s, hr, q⟩)
/-- for k in range(n) -/
theorem q_loopR {ta' : TA} {n : Int} (step : S → Nat → Stp S R) (s0 : S) (Rep : S → L2.St → Hp → Prop) {j : Nat} (h : EvA ta' σ H [.int n]) (hn : 0 ≤ n ∧ n ≤ 100000) (h0 : ∀ H1, Ex H H1 → Rep s0 σ H1)
    (hb : BodyOk tu D j (fun k : Nat => V.int (k : Int)) step (List.range n.toNat) s0 Rep) (ho : OutOk tz D step (List.range n.toNat) s0 Rep) : tSeq (tFor (iRng1 ta') (gName j) tu) tz D σ H :=
  q_forR1 h hn (fun i σ1 H1 => ∃ s, runL step ((List.range n.toNat).take i) s0 = .go s ∧ Rep s σ1 H1) (fun H1 e => ⟨s0, rfl, h0 H1 e⟩) (fun i σ1 H1 hi p => by
    have hy : (List.range n.toNat)[i]? = some i := by rw [List.getElem?_range (by omega)]
    exact loop_core (f := fun k : Nat => V.int (k : Int)) hb ho hy p) (fun σ1 H1 p => loop_end ho (by rw [List.length_range]) p)
/-- for k in range(a, b) -/
theorem q_loopR2 {ta' : TA} {lo n : Int} (step : S → Nat → Stp S R) (s0 : S) (Rep : S → L2.St → Hp → Prop) {j : Nat} (h : EvA ta' σ H [.int lo, .int n]) (hn : 0 ≤ lo ∧ lo ≤ 100000 ∧ -100000 ≤ n ∧ n ≤ 100000) (h0 : ∀ H1, Ex H H1 → Rep s0 σ H1)
    (hb : BodyOk tu D j (fun k : Nat => V.int (lo + (k : Int))) step (List.range (n - lo).toNat) s0 Rep) (ho : OutOk tz D step (List.range (n - lo).toNat) s0 Rep) : tSeq (tFor (iRng2 ta') (gName j) tu) tz D σ H :=
  q_forR2 h hn (fun i σ1 H1 => ∃ s, runL step ((List.range (n - lo).toNat).take i) s0 = .go s ∧ Rep s σ1 H1) (fun H1 e => ⟨s0, rfl, h0 H1 e⟩) (fun i σ1 H1 hi p => by
    have hy : (List.range (n - lo).toNat)[i]? = some i := by rw [List.getElem?_range (by omega)]
    exact loop_core (f := fun k : Nat => V.int (lo + (k : Int))) hb ho hy p) (fun σ1 H1 p => loop_end ho (by rw [List.length_range]) p)
/-- for c in a text -/
theorem q_loopS {p : Tx} (step : S → Nat → Stp S R) (s0 : S) (Rep : S → L2.St → Hp → Prop) {j : Nat} (h : Ev tl' σ H (vs p)) (h0 : ∀ H1, Ex H H1 → Rep s0 σ H1)
    (hb : BodyOk tu D j (fun c : Nat => vs [c]) step p s0 Rep) (ho : OutOk tz D step p s0 Rep) : tSeq (tFor (iStr tl') (gName j) tu) tz D σ H := h H (Ex.refl H) _ fun H1 e => ⟨mk p, rfl, by
  refine ⟨fun i m σ1 H2 => m = p.length - i ∧ i ≤ p.length ∧ ∃ s, runL step (p.take i) s0 = .go s ∧ Rep s σ1 H2, ⟨p.length, by simp, Nat.zero_le _, s0, rfl, h0 H1 e⟩, fun i m σ1 H2 hW => ?_⟩
  obtain ⟨rfl, hi, q⟩ := hW
  have hsz : (mk p).cps.size = p.length := by show p.toArray.size = _; simp
  by_cases hlt : i < p.length
  · refine Or.inr ⟨by show i < (mk p).cps.size; omega, fun σ2 H3 => ∃ s, runL step (p.take (i + 1)) s0 = .go s ∧ Rep s σ2 H3, fun σ2 H3 h3 => ⟨p.length - (i + 1), by omega, rfl, hlt, h3⟩, fun w H3 hy => ?_⟩
    obtain ⟨rfl, c, hc, rfl⟩ := hy
    have hc2 : p[i]? = some c := by
      have : (mk p).cps[i]? = p[i]? := by show p.toArray[i]? = _; simp
      rw [← this]; exact hc
    exact loop_core (f := fun c : Nat => vs [c]) hb ho hc2 q
  · have ei : i = p.length := by omega
    exact Or.inl ⟨by show (mk p).cps.size ≤ i; omega, loop_end ho ei q⟩⟩
/-! ## what is wanted, along the ways -/
theorem ret_T {β : Type} {f : β → V} {b : Bool} {x y : β} {Q : VK} (k : RetV (f (if b = true then x else y)) H Q) (hb : b = true) : RetV (f x) H Q := by
  rw [if_pos hb] at k
  exact k
theorem ret_F {β : Type} {f : β → V} {b : Bool} {x y : β} {Q : VK} (k : RetV (f (if b = true then x else y)) H Q) (hb : b = false) : RetV (f y) H Q := by
  rw [hb, if_neg Bool.false_ne_true] at k
  exact k
theorem retL_T {β : Type} {f : β → V} {b : Bool} {x y : List β} {Q : VK} (k : RetL ((if b = true then x else y).map f) H Q) (hb : b = true) : RetL (x.map f) H Q := by
  rw [if_pos hb] at k
  exact k
theorem retL_F {β : Type} {f : β → V} {b : Bool} {x y : List β} {Q : VK} (k : RetL ((if b = true then x else y).map f) H Q) (hb : b = false) : RetL (y.map f) H Q := by
  rw [hb, if_neg Bool.false_ne_true] at k
  exact k
theorem ret_run {β : Type} {f : β → V} {o : Stp S β} {g : S → β} {r : β} {Q : VK} (k : RetV (f (aftL o g)) H Q) (h : o = .ret r) : RetV (f r) H Q := by
  rw [h] at k
  exact k
theorem ret_go {β : Type} {f : β → V} {o : Stp S β} {g : S → β} {s : S} {Q : VK} (k : RetV (f (aftL o g)) H Q) (h : o = .go s ∨ o = .brk s) : RetV (f (g s)) H Q := by
  rcases h with h | h
  · rw [h] at k
    exact k
  · rw [h] at k
    exact k
theorem retL_run {β : Type} {f : β → V} {o : Stp S (List β)} {g : S → List β} {r : List β} {Q : VK} (k : RetL ((aftL o g).map f) H Q) (h : o = .ret r) : RetL (r.map f) H Q := by
  rw [h] at k
  exact k
theorem retL_go {β : Type} {f : β → V} {o : Stp S (List β)} {g : S → List β} {s : S} {Q : VK} (k : RetL ((aftL o g).map f) H Q) (h : o = .go s ∨ o = .brk s) : RetL ((g s).map f) H Q := by
  rcases h with h | h
  · rw [h] at k
    exact k
  · rw [h] at k
    exact k
/-! ## own lists that change -/
theorem q_appM {H0 : Hp} {pl : Addr} {f : α → V} {l : List α} {v : α} (e0 : Ex H0 H) (n0 : H0 pl = none) (hl : H pl = some (.lst (l.map f))) (ha : Ev ta σ H (.ref pl)) (h : Ev te σ H (f v)) (hz : l.length < 100000)
    (k : ∀ H1, Ex H0 H1 → H1 pl = some (.lst ((l ++ [v]).map f)) → (∀ q o, q ≠ pl → H q = some o → H1 q = some o) → tz D σ H1) : tSeq (tDrop (tBM K "list" rAppend ta (tCons te tNil))) tz D σ H :=
  q_app hl ha h (by rw [List.length_map]; exact hz) fun H1 e1 => k _ (Ex.mut (e0.trans e1) n0) (by rw [upd_same, List.map_append]; rfl) fun q o hq hh => by
    rw [upd_ne hq]
    exact e1 q o hh
theorem s_appM {H0 : Hp} {pl : Addr} {f : α → V} {l : List α} {v : α} (e0 : Ex H0 H) (n0 : H0 pl = none) (hl : H pl = some (.lst (l.map f))) (ha : Ev ta σ H (.ref pl)) (h : Ev te σ H (f v)) (hz : l.length < 100000)
    (k : ∀ H1, Ex H0 H1 → H1 pl = some (.lst ((l ++ [v]).map f)) → (∀ q o, q ≠ pl → H q = some o → H1 q = some o) → D.nx σ H1) : tDrop (tBM K "list" rAppend ta (tCons te tNil)) D σ H :=
  s_app hl ha h (by rw [List.length_map]; exact hz) fun H1 e1 => k _ (Ex.mut (e0.trans e1) n0) (by rw [upd_same, List.map_append]; rfl) fun q o hq hh => by
    rw [upd_ne hq]
    exact e1 q o hh
theorem ixN_at {n : Nat} {i : Int} {j : Nat} (h : (0 ≤ i ∧ i = j ∨ i < 0 ∧ i + n = j) ∧ j < n) : ixN n i = some j := by
  unfold ixN
  by_cases h0 : 0 ≤ i
  · rw [if_pos h0, if_pos (by omega)]
    congr 1
    omega
  · rw [if_neg h0, if_pos (by omega)]
    congr 1
    omega
theorem s_setM {H0 : Hp} {pl : Addr} {f : α → V} {l : List α} {v : α} {i : Int} (j : Nat) {tb' : TE} (e0 : Ex H0 H) (n0 : H0 pl = none) (hl : H pl = some (.lst (l.map f))) (h : Ev te σ H (f v)) (ha : Ev ta σ H (.ref pl)) (hi : Ev tb' σ H (.int i)) (hj : (0 ≤ i ∧ i = j ∨ i < 0 ∧ i + l.length = j) ∧ j < l.length)
    (k : ∀ H1, Ex H0 H1 → H1 pl = some (.lst ((l.set j v).map f)) → (∀ q o, q ≠ pl → H q = some o → H1 q = some o) → D.nx σ H1) : tAsg te (gSub ta tb' rSetL) D σ H := h H (Ex.refl H) _ fun H1 e1 => ha H1 e1 _ fun H2 e2 => hi H2 (e1.trans e2) _ fun H3 e3 =>
  ⟨pl, l.map f, i, j, rfl, rfl, ((e1.trans e2).trans e3) pl _ hl, ixN_at (by rw [List.length_map]; exact hj), k _ (Ex.mut (e0.trans ((e1.trans e2).trans e3)) n0) (by rw [upd_same, List.map_set]) fun q o hq hh => by
    rw [upd_ne hq]
    exact ((e1.trans e2).trans e3) q o hh⟩
theorem q_setM {H0 : Hp} {pl : Addr} {f : α → V} {l : List α} {v : α} {i : Int} (j : Nat) {tb' : TE} (e0 : Ex H0 H) (n0 : H0 pl = none) (hl : H pl = some (.lst (l.map f))) (h : Ev te σ H (f v)) (ha : Ev ta σ H (.ref pl)) (hi : Ev tb' σ H (.int i)) (hj : (0 ≤ i ∧ i = j ∨ i < 0 ∧ i + l.length = j) ∧ j < l.length)
    (k : ∀ H1, Ex H0 H1 → H1 pl = some (.lst ((l.set j v).map f)) → (∀ q o, q ≠ pl → H q = some o → H1 q = some o) → tz D σ H1) : tSeq (tAsg te (gSub ta tb' rSetL)) tz D σ H := s_setM (D := { D with nx := tz D }) j e0 n0 hl h ha hi hj k
/-! ## more -/
theorem el_is {xs ys : List V} (h : EvL te σ H xs) (e : xs = ys) : EvL te σ H ys := e ▸ h
def aftS {S S2 R : Type} (o : Stp S R) (g : S → Stp S2 R) : Stp S2 R := match o with
  | .go s => g s
  | .brk s => g s
  | .ret r => .ret r
theorem aftS_go {S2 : Type} {o : Stp S R} {g : S → Stp S2 R} {s : S} {q : Stp S2 R} (kq : q = aftS o g) (h : o = .go s ∨ o = .brk s) : q = g s := by
  rcases h with h | h
  · rw [h] at kq
    exact kq
  · rw [h] at kq
    exact kq
theorem aftS_ret {S2 : Type} {o : Stp S R} {g : S → Stp S2 R} {r : R} {q : Stp S2 R} (kq : q = aftS o g) (h : o = .ret r) : q = .ret r := by
  rw [h] at kq
  exact kq
theorem kq_T {β : Type} {b : Bool} {x y q : β} (kq : q = if b = true then x else y) (hb : b = true) : q = x := by
  rw [if_pos hb] at kq
  exact kq
theorem kq_F {β : Type} {b : Bool} {x y q : β} (kq : q = if b = true then x else y) (hb : b = false) : q = y := by
  rw [hb, if_neg Bool.false_ne_true] at kq
  exact kq
/-- if c: x = e -/
theorem set_same {β : Type} : ∀ {l : List (Option β)} {i : Nat} {y : β}, l[i]? = some (some y) → l.set i (some y) = l
  | [], _, _, h => by simp at h
  | a :: r, 0, y, h => by
    have e : a = some y := Option.some.inj h
    rw [e]
    rfl
  | a :: r, i + 1, y, h => by
    show a :: r.set i (some y) = a :: r
    rw [set_same (l := r) (i := i) h]
theorem q_ifSet {i : Nat} {b : Bool} {t : TT} {f : α → V} {x y z : α} (h : EvT t σ H b) (h1 : b = true → Ev te σ H (f x)) (h2 : σ[i]? = some (some (f y))) (hz : (if b = true then x else y) = z) (k : ∀ H1, Ex H H1 → tz D (σ.set i (some (f z))) H1) : tSeq (tIfS t (tAsg te (gName i)) tNext) tz D σ H := by
  subst hz
  exact q_ifAsg h (fun hb => by rw [if_pos hb]; exact h1 hb) (fun hb => by
    rw [hb, if_neg Bool.false_ne_true]
    exact set_same h2) k
theorem s_ifSet {i : Nat} {b : Bool} {t : TT} {f : α → V} {x y z : α} (h : EvT t σ H b) (h1 : b = true → Ev te σ H (f x)) (h2 : σ[i]? = some (some (f y))) (hz : (if b = true then x else y) = z) (k : ∀ H1, Ex H H1 → D.nx (σ.set i (some (f z))) H1) : tIfS t (tAsg te (gName i)) tNext D σ H := by
  subst hz
  exact s_ifAsg h (fun hb => by rw [if_pos hb]; exact h1 hb) (fun hb => by
    rw [hb, if_neg Bool.false_ne_true]
    exact set_same h2) k
theorem e_if {t : TT} {b : Bool} {f : α → V} {x y : α} (h : EvT t σ H b) (h1 : b = true → Ev ta σ H (f x)) (h2 : b = false → Ev tb σ H (f y)) : Ev (tIf t ta tb) σ H (f (if b = true then x else y)) :=
  ev_if h (fun hb => by rw [if_pos hb]; exact h1 hb) (fun hb => by rw [hb, if_neg Bool.false_ne_true]; exact h2 hb)
theorem e_chain {r r' : R2} {tc : TE} {x y z : V} {b c : Bool} (ha : Ev ta σ H x) (hb : Ev tb σ H y) (hc : Ev tc σ H z) (h1 : ∀ H1, Ex H H1 → RV r x y H1 (.bl b)) (h2 : ∀ H1, Ex H H1 → RV r' y z H1 (.bl c)) : Ev (tChain r r' ta tb tc) σ H (.bl (b && c)) := fun H1 e Q q =>
  ha H1 e _ fun H2 e2 => hb H2 (e.trans e2) _ fun H3 e3 => h1 H3 ((e.trans e2).trans e3) H3 (Ex.refl H3) _ fun H4 e4 => ⟨b, rfl, by
    cases b with
    | true => exact hc H4 (((e.trans e2).trans e3).trans e4) _ fun H5 e5 => h2 H5 ((((e.trans e2).trans e3).trans e4).trans e5) H5 (Ex.refl H5) Q fun H6 e6 => q H6 ((((e2.trans e3).trans e4).trans e5).trans e6)
    | false => exact q H4 ((e2.trans e3).trans e4)⟩
theorem e_min2 {i j : Int} (ha : Ev ta σ H (.int i)) (hb : Ev tb σ H (.int j)) : Ev (tCB (fun xs H Q => ∃ i j, xs = [.int i, .int j] ∧ Q (.int (if j < i then j else i)) H) (tCons ta (tCons tb tNil))) σ H (.int (min i j)) := fun H1 e Q q =>
  ha H1 e _ fun H2 e2 => hb H2 (e.trans e2) _ fun H3 e3 => ⟨i, j, rfl, by
    have : (if j < i then j else i) = min i j := by split <;> omega
    rw [this]
    exact q H3 (e2.trans e3)⟩
theorem e_max2 {i j : Int} (ha : Ev ta σ H (.int i)) (hb : Ev tb σ H (.int j)) : Ev (tCB (fun xs H Q => ∃ i j, xs = [.int i, .int j] ∧ Q (.int (if j > i then j else i)) H) (tCons ta (tCons tb tNil))) σ H (.int (max i j)) := fun H1 e Q q =>
  ha H1 e _ fun H2 e2 => hb H2 (e.trans e2) _ fun H3 e3 => ⟨i, j, rfl, by
    have : (if j > i then j else i) = max i j := by split <;> omega
    rw [this]
    exact q H3 (e2.trans e3)⟩
theorem l_mapR2 {α' : Type} {f : α' → V} {ta' : TA} {jx : Nat} {ws : List Nat} {lo n : Int} (g : Nat → α') (h : EvA ta' σ H [.int lo, .int n]) (hn : -100000 ≤ lo ∧ lo ≤ 100000 ∧ -100000 ≤ n ∧ n ≤ 100000 ∧ n - lo ≤ 40000) (he : ∀ k : Nat, lo + (k : Int) < n → Ev te ((wipe σ ws).set jx (some (.int (lo + (k : Int))))) H (f (g k)))
    (hw : ∀ w, wipe ((wipe σ ws).set jx (some w)) ws = wipe σ ws := by exact fun _ => rfl) : EvL (tLc (iRng2 ta') (gName jx) tYes te ws) σ H (((List.range (n - lo).toNat).map g).map f) := fun H0 e0 Q q => h H0 e0 _ fun H1 e1 => ⟨lo, n, rfl, ⟨by omega, by omega, by omega, by omega⟩, fun Dl hD =>
  lc_range (lo := lo) (n := (n - lo).toNat) (Cw H1 (fun _ => true) (fun k => f (g k)) Dl) ⟨hD, Ex.new hD, upd_same⟩ (fun i H2 hi p =>
    ⟨hw _, cw_turn p (by omega) (fun H4 _ Q k => k H4 (Ex.refl H4)) (fun _ => (he i (by omega)).mono (e0.trans e1))⟩) (fun H2 p => by
      have h3 := p.2.2
      rw [given_all] at h3
      exact q Dl H2 (fresh_back e1 p.1) (e1.trans p.2.1) (h3.trans (by rw [List.map_map]; rfl)))⟩
theorem e_ixLast {f : α → V} {l : List α} (d : α) {pl : Addr} (h : Ev ta σ H (.ref pl)) (hS : SqL K H pl (l.map f)) (hb : Ev tb σ H (.int (-1))) (hi : 0 < l.length) : Ev (tOp (rIxL K) ta tb) σ H (f (l.getLastD d)) :=
  ev_op h hb (rv_ixL hS (by
    unfold atI
    rw [ixN_at (j := l.length - 1) (by rw [List.length_map]; omega)]
    show (l.map f)[l.length - 1]? = _
    rw [List.getElem?_map, List.getElem?_eq_getElem (by omega)]
    show some _ = some _
    congr 2
    rw [List.getLastD_eq_getLast?, List.getLast?_eq_getElem?, List.getElem?_eq_getElem (by omega)]
    rfl))
/-- a filter ahead -/
theorem given_filter {β : Type} (f : β → V) (g : α → β) (c : α → Bool) (l : List α) (d : α) : given l.length (fun k => c (l.getD k d)) (fun k => f (g (l.getD k d))) = ((l.filter c).map g).map f := by
  unfold given
  rw [List.map_map]
  have e : l = (List.range l.length).map (fun k => l.getD k d) := by
    apply List.ext_getElem
    · simp
    · intro k h1 h2
      simp only [List.getElem_map, List.getElem_range]
      rw [List.getD_eq_getElem?_getD, List.getElem?_eq_getElem h1]
      rfl
  conv => rhs; rw [e, List.filter_map, List.map_map]
  rfl
theorem l_filL {β : Type} {f : α → V} {f2 : β → V} {l : List α} {pl : Addr} {jx : Nat} {ws : List Nat} {t : TT} (c : α → Bool) (g : α → β) (d : α) (h : Ev tl' σ H (.ref pl)) (hS : SqL K H pl (l.map f)) (hz : l.length ≤ 40000)
    (ht : ∀ y ∈ l, EvT t ((wipe σ ws).set jx (some (f y))) H (c y)) (he : ∀ y ∈ l, c y = true → Ev te ((wipe σ ws).set jx (some (f y))) H (f2 (g y))) (hw : ∀ w, wipe ((wipe σ ws).set jx (some w)) ws = wipe σ ws := by exact fun _ => rfl) :
    EvL (tLc (iList K tl') (gName jx) t te ws) σ H (((l.filter c).map g).map f2) := by
  have q := el_lcL (t := t) (te := te) (fun k => c (l.getD k d)) (fun k => f2 (g (l.getD k d))) h hS (by rw [List.length_map]; exact hz) hw (fun k w H1 e hk => by
    obtain ⟨hm, ew⟩ := map_at d hk
    rw [ew]
    exact (ht _ hm).mono e) (fun k w H1 e hk hc => by
    obtain ⟨hm, ew⟩ := map_at d hk
    rw [ew]
    exact (he _ hm hc).mono e)
  rw [List.length_map, given_filter] at q
  exact q
theorem paired_self {E : V → V → Prop} : ∀ {l : List V}, (∀ y ∈ l, E y y) → Paired E l l
  | [], _ => .nil
  | _ :: r, h => .cons (h _ List.mem_cons_self) (paired_self fun y hy => h y (List.mem_cons_of_mem _ hy))
/-- two new lists that are equal -/
theorem e_eqLL {f : α → V} {l l2 : List α} (hf : ∀ y, flatB (f y) = true) (ha : EvL ta σ H (l.map f)) (hb : EvL tb σ H (l2.map f)) (h : l = l2) : Ev (tOp (rEqV K) ta tb) σ H (.bl true) :=
  ev_opLL ha hb fun p q H1 hp hq _ => fun H2 e2 Q k => ⟨1, by decide, Or.inl ⟨p, q, _, _, rfl, rfl, sq_of (e2 p _ hp), sq_of (e2 q _ hq), by
    rw [← h]
    exact paired_self fun y hy => by
      obtain ⟨z, _, rfl⟩ := List.mem_map.mp hy
      exact Or.inl ⟨rfl, hf z⟩⟩, k H2 (Ex.refl H2)⟩
/-! ## a text many times -/
def rep (p : Tx) (n : Int) : Tx := (List.replicate n.toNat p).flatten
def rMulT : R2 := fun x y H Q => ∃ i n, x = .str i ∧ y = .int n ∧ MulOk i n ∧ Q (.str (Txt.mul i n)) H
theorem op_mulT {X : Cx} : OpR X (binaryOp .Mult) rMulT := by
  intro pins s σ H x y v u Q I rx ry h
  obtain ⟨i, n, rfl, rfl, hok, q⟩ := h
  obtain ⟨t, rfl⟩ := rx
  obtain ⟨t', rfl⟩ := ry
  exact SB.mul hok fun t' tk => ⟨.str (Txt.mul i n), H, I.tok _, ⟨_, rfl⟩, q⟩
theorem fold_tl : ∀ (k : Nat) (a p : Array Nat), ((List.replicate k p).foldl (· ++ ·) a).toList = a.toList ++ (List.replicate k p.toList).flatten
  | 0, a, p => by simp
  | k + 1, a, p => by
    rw [List.replicate_succ, List.foldl_cons, fold_tl k, List.replicate_succ, List.flatten_cons, Array.toList_append, List.append_assoc]
theorem mul_of (p : Tx) (n : Int) : Txt.mul (mk p) n = mk (rep p n) := by
  unfold Txt.mul rep
  by_cases h : n < 1
  · rw [if_pos h, show n.toNat = 0 by omega]
    rfl
  · rw [if_neg h]
    by_cases h2 : (n == 1 || (mk p).length == 0) = true
    · rw [if_pos h2]
      rcases Bool.or_eq_true_iff.mp h2 with h3 | h3
      · have : n = 1 := by simpa using h3
        subst this
        show mk p = mk ((List.replicate 1 p).flatten)
        simp
      · rw [len_of] at h3
        have : p = [] := List.length_eq_zero_iff.mp (by simpa using h3)
        subst this
        simp
    · rw [if_neg h2]
      exact ext_tl (by
        rw [tl_of]
        show ((List.replicate n.toNat (mk p).cps).foldl (· ++ ·) #[]).toList = _
        rw [fold_tl]
        rfl)
theorem mulok {p : Tx} {n : Int} (h : n ≤ 4096 ∧ p.length ≤ 4096 ∧ -4096 ≤ n) : MulOk (mk p) n := by
  have e : (mk p).length = p.length := len_of p
  refine ⟨by simp only [Bool.or_eq_false_iff, decide_eq_false_iff_not]; omega, fun h1 _ => ?_, fun h1 _ => ?_⟩
  · rw [e]
    have h5 : ((2 : Int) ^ 63 - 1) / 4096 ≤ (2 ^ 63 - 1) / n := by
      apply Int.le_ediv_of_mul_le (by omega)
      have : ((2 : Int) ^ 63 - 1) / 4096 * n ≤ ((2 : Int) ^ 63 - 1) / 4096 * 4096 := Int.mul_le_mul_of_nonneg_left h.1 (by decide)
      exact Int.le_trans this (by decide)
    have h6 : (4096 : Int) ≤ (2 ^ 63 - 1) / 4096 := by decide
    omega
  · rw [e]
    have h5 : p.length * n.toNat ≤ 4096 * 4096 := Nat.mul_le_mul h.2.1 (by omega)
    unfold Builtin.Str.tooLong
    simp only [decide_eq_false_iff_not]
    have : sizeLine = 16777216 := rfl
    omega
theorem e_mulT {p : Tx} {n : Int} (ha : Ev ta σ H (vs p)) (hb : Ev tb σ H (.int n)) (h : n ≤ 4096 ∧ p.length ≤ 4096 ∧ -4096 ≤ n) : Ev (tOp rMulT ta tb) σ H (vs (rep p n)) :=
  ev_op ha hb fun H1 _ Q k => ⟨mk p, n, rfl, rfl, mulok h, by rw [mul_of]; exact k H1 (Ex.refl H1)⟩
/-- the state behind a loop that nothing leaves by return -/
def outL [Inhabited S] : Stp S Unit → S
  | .go s => s
  | .brk s => s
  | .ret _ => default
theorem outL_of [Inhabited S] {o : Stp S Unit} {s : S} (h : o = .go s ∨ o = .brk s) : s = outL o := by
  rcases h with h | h
  · rw [h]
    rfl
  · rw [h]
    rfl
end
/-! ## rules whose answer hangs on the written part, with it named -/
section
variable {X : Cx}
theorem sl_listK (K : PySem.W.Frag) (h : X.K = K := by rfl) : SlR X (rSlL K) := h ▸ sl_list
theorem ix_listK (K : PySem.W.Frag) (h : X.K = K := by rfl) : IxR X (rIxL K) := h ▸ ix_list
theorem op_inK (K : PySem.W.Frag) (h : X.K = K := by rfl) : OpR X (compareOp .In) (rIn K false) := h ▸ op_in_seq
theorem call_lenK (K : PySem.W.Frag) (h : X.K = K := by rfl) : CallR X (.builtin "len") (rLenS K) := h ▸ call_lenQ
theorem cr_allK (K : PySem.W.Frag) (hc : X.calm = true) (h : X.K = K := by rfl) : CallR X (.builtin "all") (rAll K) := h ▸ cr_all hc
theorem call_isiK' (K : PySem.W.Frag) (h : X.K = K := by rfl) : CallR X (.builtin "isinstance") (rIsi K) := h ▸ call_isi
theorem op_eqVK (K : PySem.W.Frag) (hu : X.A.units + 64 < cLine) (h : X.K = K := by rfl) : OpR X (compareOp .Eq) (rEqV K) := h ▸ op_eqV hu
theorem pi_listK (K : PySem.W.Frag) {tg l : Expr} {tl' : TE} (hl : PE X l tl') (h : X.K = K := by rfl) : PI X tg l (iList K tl') := h ▸ pi_list hl
theorem pe_joinK (K : PySem.W.Frag) {o e : Expr} {to te : TE} {apos pos : Pos} (ho : PE X o to) (he : PE X e te) (h : X.K = K := by rfl) (hs : starEach [e] X.env = [(false, eval e X.env)] := by rfl) (hbase : attributeBase o "join" X.env (eval o X.env) = eval o X.env := by rfl) (hline : (apos.endLine == pos.line) = true := by rfl) :
    PE X (.Call (.Attribute o "join" apos) [e] [] pos) (tM1 (rJoinT K) to te) := h ▸ pe_joinT ho he hs hbase hline
end
/-! ## texts and their parts -/
theorem cuts_nil (c : Nat) : cuts c [] = [[]] := rfl
theorem spl_acc (c : Nat) : ∀ (l acc : Tx), spl [c] 0 acc l = match spl [c] 0 [] l with | [] => [] | p :: r => (acc ++ p) :: r
  | [], acc => by rw [spl_nil, spl_nil]; simp
  | d :: r, acc => by
    by_cases h : d = c
    · subst h
      have hp : pre [d] (d :: r) = true := by simp [pre]
      rw [spl_hit hp, spl_hit hp]
      simp
    · have hp : pre [c] (d :: r) = false := pre_of_head [] r h
      rw [spl_miss hp, spl_miss hp, spl_acc c r (acc ++ [d]), spl_acc c r ([] ++ [d])]
      cases spl [c] 0 [] r with
      | nil => rfl
      | cons p q => simp
theorem cuts_hit (c : Nat) (r : Tx) : cuts c (c :: r) = [] :: cuts c r := by
  have hp : pre [c] (c :: r) = true := by simp [pre]
  exact spl_hit hp
theorem cuts_miss {c d : Nat} (h : d ≠ c) (r : Tx) : cuts c (d :: r) = match cuts c r with | [] => [] | p :: q => (d :: p) :: q := by
  have hp : pre [c] (d :: r) = false := pre_of_head [] r h
  show spl [c] 0 [] (d :: r) = _
  rw [spl_miss hp, spl_acc]
  rfl
theorem cuts_ne (c : Nat) : ∀ l : Tx, cuts c l ≠ []
  | [] => by rw [cuts_nil]; simp
  | d :: r => by
    by_cases h : d = c
    · subst h
      rw [cuts_hit]
      simp
    · rw [cuts_miss h]
      have := cuts_ne c r
      cases e : cuts c r with
      | nil => exact absurd e this
      | cons p q => simp
theorem cuts_len (c : Nat) : ∀ l : Tx, (cuts c l).length ≤ l.length + 1
  | [] => by rw [cuts_nil]; simp
  | d :: r => by
    have ih := cuts_len c r
    by_cases h : d = c
    · subst h
      rw [cuts_hit]
      simp only [List.length_cons]
      omega
    · rw [cuts_miss h]
      cases e : cuts c r with
      | nil => simp
      | cons p q =>
        rw [e] at ih
        simp only [List.length_cons] at ih ⊢
        omega
theorem cuts_free (c : Nat) : ∀ (l : Tx), ∀ p ∈ cuts c l, c ∉ p
  | [], p, h => by
    rw [cuts_nil] at h
    rw [List.mem_singleton.mp h]
    simp
  | d :: r, p, h => by
    have ih := cuts_free c r
    by_cases e : d = c
    · subst e
      rw [cuts_hit] at h
      rcases List.mem_cons.mp h with z | z
      · rw [z]; simp
      · exact ih p z
    · rw [cuts_miss e] at h
      cases ec : cuts c r with
      | nil => exact absurd ec (cuts_ne c r)
      | cons q s =>
        rw [ec] at h ih
        rcases List.mem_cons.mp h with z | z
        · rw [z]
          intro m
          rcases List.mem_cons.mp m with y | y
          · exact e y.symm
          · exact ih q List.mem_cons_self y
        · exact ih p (List.mem_cons_of_mem _ z)
theorem sumLen_cons (p : Tx) (l : List Tx) : sumLen (p :: l) = p.length + sumLen l := by
  unfold sumLen
  rw [List.map_cons, List.sum_cons]
theorem sumLen_nil : sumLen [] = 0 := rfl
theorem sumLen_app (l m : List Tx) : sumLen (l ++ m) = sumLen l + sumLen m := by
  unfold sumLen
  rw [List.map_append, List.sum_append]
theorem cuts_sum (c : Nat) : ∀ l : Tx, sumLen (cuts c l) ≤ l.length
  | [] => by rw [cuts_nil]; decide
  | d :: r => by
    have ih := cuts_sum c r
    by_cases h : d = c
    · subst h
      rw [cuts_hit, sumLen_cons]
      simp only [List.length_cons, List.length_nil]
      omega
    · rw [cuts_miss h]
      cases e : cuts c r with
      | nil => simp [sumLen_nil]
      | cons p q =>
        rw [e, sumLen_cons] at ih
        show sumLen ((d :: p) :: q) ≤ _
        rw [sumLen_cons]
        simp only [List.length_cons]
        omega
theorem sumLen_mem : ∀ {l : List Tx} {k : Tx}, k ∈ l → k.length ≤ sumLen l
  | [], k, h => by cases h
  | p :: r, k, h => by
    rw [sumLen_cons]
    rcases List.mem_cons.mp h with e | e
    · subst e
      omega
    · have := sumLen_mem e
      omega
theorem cuts_mem (c : Nat) {l k : Tx} (h : k ∈ cuts c l) : k.length ≤ l.length := Nat.le_trans (sumLen_mem h) (cuts_sum c l)
theorem sumLen_take : ∀ (l : List Tx) (n : Nat), sumLen (l.take n) ≤ sumLen l
  | [], n => by simp
  | p :: r, 0 => by rw [List.take_zero, sumLen_nil]; omega
  | p :: r, n + 1 => by
    rw [List.take_succ_cons, sumLen_cons, sumLen_cons]
    have := sumLen_take r n
    omega
theorem sumLen_drop : ∀ (l : List Tx) (n : Nat), sumLen (l.drop n) ≤ sumLen l
  | [], n => by simp
  | p :: r, 0 => by rw [List.drop_zero]; omega
  | p :: r, n + 1 => by
    rw [List.drop_succ_cons, sumLen_cons]
    have := sumLen_drop r n
    omega
theorem cut_sum (l : List Tx) (a b : Option Int) : sumLen (cutG l a b) ≤ sumLen l := Nat.le_trans (sumLen_take _ _) (sumLen_drop _ _)
theorem cut_len {α : Type} (l : List α) (a b : Option Int) : (cutG l a b).length ≤ l.length := by
  unfold cutG
  rw [List.length_take, List.length_drop]
  omega
theorem joinL_len (s : Tx) : ∀ l : List Tx, (joinL s l).length ≤ sumLen l + l.length * s.length
  | [] => by simp [joinL]
  | [p] => by simp [joinL, sumLen]
  | p :: q :: r => by
    have ih := joinL_len s (q :: r)
    show (p ++ (s ++ joinL s (q :: r))).length ≤ _
    rw [sumLen_cons, List.length_append, List.length_append, List.length_cons, Nat.succ_mul]
    omega
theorem getD_le {l : List Tx} {n : Nat} (h : ∀ p ∈ l, p.length ≤ n) (i : Nat) : (l.getD i []).length ≤ n := by
  rw [List.getD_eq_getElem?_getD]
  cases e : l[i]? with
  | none => simp
  | some p => exact h p (List.mem_of_getElem? e)
end Vf

/-! Own layer, further: dicts with texts as keys, what is read while a thing is locked, own things that change. -/
namespace Vf
open PySem PySem.Spec PyProof.Rows L2 TL Evl

/-! ## the data of a dict -/
section
variable {α β : Type}
def ky (k : Tx) : Key := Sum.inr (mk k)
theorem ky_inj {a b : Tx} (h : ky a = ky b) : a = b := mk_inj (Sum.inr.inj h)
def kd (f : α → V) (l : List (Tx × α)) : List (Key × V) := l.map fun p => (ky p.1, f p.2)
def dget (l : List (Tx × α)) (k : Tx) : Option α := (l.find? fun p => decide (p.1 = k)).map (·.2)
def dput (l : List (Tx × α)) (k : Tx) (v : α) : List (Tx × α) := if (l.any fun p => decide (p.1 = k)) = true then l.map (fun p => if p.1 = k then (p.1, v) else p) else l ++ [(k, v)]
def ddel (l : List (Tx × α)) (k : Tx) : List (Tx × α) := l.filter fun p => decide (p.1 ≠ k)
def dkeys (l : List (Tx × α)) : List Tx := l.map (·.1)
theorem dec_ky (a b : Tx) : decide (ky a = ky b) = decide (a = b) := by
  by_cases h : a = b
  · subst h
    rw [decide_eq_true rfl, decide_eq_true rfl]
  · rw [decide_eq_false h, decide_eq_false (fun e => h (ky_inj e))]
theorem kd_len (f : α → V) (l : List (Tx × α)) : (kd f l).length = l.length := List.length_map _
theorem kd_get (f : α → V) (k : Tx) : ∀ l : List (Tx × α), valV (kd f l) (ky k) = (dget l k).map f
  | [] => rfl
  | p :: r => by
    have ih := kd_get f k r
    unfold valV dget kd at ih ⊢
    rw [List.map_cons, List.find?_cons, List.find?_cons]
    show (match decide (ky p.1 = ky k) with | true => some _ | false => _ : Option (Key × V)).map _ = _
    rw [dec_ky]
    cases decide (p.1 = k) with
    | true => rfl
    | false => exact ih
theorem kd_put (f : α → V) (l : List (Tx × α)) (k : Tx) (v : α) : putK (kd f l) (ky k) (f v) = kd f (dput l k v) := by
  have e : ((kd f l).any fun kv => decide (kv.1 = ky k)) = l.any fun p => decide (p.1 = k) := by
    unfold kd
    rw [List.any_map]
    congr 1
    funext p
    exact dec_ky p.1 k
  unfold putK dput
  rw [e]
  by_cases h : (l.any fun p => decide (p.1 = k)) = true
  · rw [if_pos h, if_pos h]
    unfold kd
    rw [List.map_map, List.map_map]
    apply List.map_congr_left
    intro p _
    show (if ky p.1 = ky k then (ky p.1, f v) else (ky p.1, f p.2)) = (ky (if p.1 = k then (p.1, v) else p).1, f (if p.1 = k then (p.1, v) else p).2)
    by_cases h2 : p.1 = k
    · rw [if_pos h2, if_pos (congrArg ky h2)]
    · rw [if_neg h2, if_neg (fun z => h2 (ky_inj z))]
  · rw [if_neg h, if_neg h]
    unfold kd
    rw [List.map_append]
    rfl
theorem kd_del (f : α → V) (l : List (Tx × α)) (k : Tx) : dropK (kd f l) (ky k) = kd f (ddel l k) := by
  unfold dropK ddel kd
  rw [List.filter_map]
  congr 1
  apply List.filter_congr
  intro p _
  show decide (ky p.1 ≠ ky k) = decide (p.1 ≠ k)
  by_cases h : p.1 = k
  · rw [decide_eq_false (fun z => z (congrArg ky h)), decide_eq_false (fun z => z h)]
  · exact (decide_eq_true (p := ky p.1 ≠ ky k) (fun z => h (ky_inj z))).trans (decide_eq_true (p := p.1 ≠ k) h).symm
theorem kd_keys (f : α → V) (l : List (Tx × α)) : ((kd f l).map fun kv => kV kv.1) = (dkeys l).map vs := by
  unfold kd dkeys
  rw [List.map_map, List.map_map]
  rfl
def dhas (l : List (Tx × α)) (k : Tx) : Bool := (dget l k).isSome
end

/-! ## what is read goes on to be read -/
def RX (H H2 : Hp) : Prop := ∀ a u, Rd H a u → Rd H2 a u
theorem RX.refl (H : Hp) : RX H H := fun _ _ h => h
theorem RX.trans {H H1 H2 : Hp} (a : RX H H1) (b : RX H1 H2) : RX H H2 := fun x u h => b x u (a x u h)
theorem rx_of {H H2 : Hp} (e : Ex H H2) : RX H H2 := fun _ _ h => ex_rd e h
theorem rx_l {K : PySem.W.Frag} {H H2 : Hp} {a : Addr} {xs : List V} (r : RX H H2) (h : SqL K H a xs) : SqL K H2 a xs := by
  rcases h with h | h
  · exact Or.inl (r a _ h)
  · exact Or.inr h
theorem rx_t {K : PySem.W.Frag} {H H2 : Hp} {a : Addr} {xs : List V} (r : RX H H2) (h : SqT K H a xs) : SqT K H2 a xs := by
  rcases h with h | h
  · exact Or.inl (r a _ h)
  · exact Or.inr h
/-- the locked things as they stood before -/
def unl (ls : List (Addr × HO)) (H : Hp) : Hp := ls.foldl (fun H p => upd H p.1 p.2) H
theorem ex_upd {H H2 : Hp} {a : Addr} {o : HO} (e : Ex H H2) : Ex (upd H a o) (upd H2 a o) := fun b u h => by
  by_cases hb : b = a
  · subst hb
    rw [upd_same] at h ⊢
    exact h
  · rw [upd_ne hb] at h ⊢
    exact e b u h
theorem unl_ex : ∀ {ls : List (Addr × HO)} {H H2 : Hp}, Ex H H2 → Ex (unl ls H) (unl ls H2)
  | [], _, _, e => e
  | p :: r, _, _, e => unl_ex (ls := r) (ex_upd e)
theorem unl_grow {ls : List (Addr × HO)} {H0 H H2 : Hp} (e : Ex H0 (unl ls H)) (e2 : Ex H H2) : Ex H0 (unl ls H2) := e.trans (unl_ex e2)
theorem upd_keep {H : Hp} {a b : Addr} {o u : HO} (hne : b ≠ a) (h : H b = some o) : upd H a u b = some o := by
  rw [upd_ne hne]
  exact h
theorem upd_self {H : Hp} {a : Addr} {o : HO} (h : H a = some o) : upd H a o = H := by
  funext b
  by_cases hb : b = a
  · subst hb
    rw [upd_same, h]
  · rw [upd_ne hb]
/-- an own thing at p has become X, behind whatever was made ahead of that -/
def Mu (H : Hp) (p : Addr) (X : HO) (H1 : Hp) : Prop := ∃ H2, Ex H H2 ∧ H1 = upd H2 p X
theorem Mu.at {H H1 : Hp} {p : Addr} {X : HO} (m : Mu H p X H1) : H1 p = some X := by
  obtain ⟨H2, _, rfl⟩ := m
  exact upd_same
theorem Mu.keep {H H1 : Hp} {p : Addr} {X : HO} (m : Mu H p X H1) {q : Addr} {o : HO} (hne : q ≠ p) (h : H q = some o) : H1 q = some o := by
  obtain ⟨H2, e, rfl⟩ := m
  exact upd_keep hne (e q o h)
theorem Mu.ex {H0 H H1 : Hp} {p : Addr} {X : HO} (m : Mu H p X H1) (e : Ex H0 H) (n : H0 p = none) : Ex H0 H1 := by
  obtain ⟨H2, e2, rfl⟩ := m
  exact Ex.mut (e.trans e2) n
theorem Mu.rx {H0 H H1 : Hp} {p : Addr} {X : HO} (m : Mu H p X H1) (r : RX H0 H) (n : H0 p = none) : RX H0 H1 := by
  obtain ⟨H2, e2, rfl⟩ := m
  intro a u h
  have ha : a ≠ p := fun z => by
    subst z
    rcases h with h | ⟨o, h⟩ <;> (rw [n] at h; cases h)
  rcases ex_rd e2 (r a u h) with h2 | ⟨o, h2⟩
  · exact Or.inl (upd_keep ha h2)
  · exact Or.inr ⟨o, upd_keep ha h2⟩
theorem ex_updn {H0 H : Hp} {p : Addr} {X : HO} (e : Ex H0 H) (n : H0 p = none) : Ex H0 (upd H p X) := Ex.mut e n
theorem unl_upd : ∀ {ls : List (Addr × HO)} {H0 H : Hp} {p : Addr} {X : HO}, H0 p = none → Ex H0 (unl ls H) → Ex H0 (unl ls (upd H p X))
  | [], _, _, _, _, n, e => Ex.mut e n
  | q :: r, H0, H, p, X, n, e => by
    show Ex H0 (unl r (upd (upd H p X) q.1 q.2))
    by_cases h : p = q.1
    · subst h
      rw [upd_upd]
      exact e
    · have e2 : upd (upd H p X) q.1 q.2 = upd (upd H q.1 q.2) p X := by
        funext b
        unfold upd
        by_cases h1 : b = q.1
        · subst h1
          rw [if_pos rfl, if_neg (fun z => h z.symm), if_pos rfl]
        · rw [if_neg h1]
          by_cases h2 : b = p
          · rw [if_pos h2, if_pos h2]
          · rw [if_neg h2, if_neg h2, if_neg h1]
      rw [e2]
      exact unl_upd n e
theorem Mu.unl {ls : List (Addr × HO)} {H0 H H1 : Hp} {p : Addr} {X : HO} (m : Mu H p X H1) (e : Ex H0 (unl ls H)) (n : H0 p = none) : Ex H0 (unl ls H1) := by
  obtain ⟨H2, e2, rfl⟩ := m
  exact unl_upd n (unl_grow e e2)
theorem rx_lock {H0 H : Hp} {d : Addr} {kvs : List (Key × V)} {o : Obj} (r : RX H0 H) (hd : H d = some (.dK kvs)) : RX H0 (upd H d (.frz o (.dK kvs))) := fun a u h => by
  have h2 := r a u h
  by_cases ha : a = d
  · subst ha
    have e : u = .dK kvs := by
      rcases h2 with z | ⟨_, z⟩
      · rw [hd] at z
        exact (Option.some.inj z).symm
      · rw [hd] at z
        cases z
    subst e
    exact Or.inr ⟨o, upd_same⟩
  · rcases h2 with z | ⟨q, z⟩
    · exact Or.inl (upd_keep ha z)
    · exact Or.inr ⟨q, upd_keep ha z⟩

section
variable {K : PySem.W.Frag} {σ : L2.St} {H H' : Hp} {ta tb te td : TE} {D : Ends} {tu tw tz : TS} {α S R : Type} {d : Addr} {k : Tx} {f : α → V} {l : List (Tx × α)}
/-! ## reading a dict -/
theorem dg_of (h : Rd H d (.dK (kd f l))) (k : Tx) : DGet H d (vs k) ((dget l k).map f) := Or.inl ⟨kd f l, ky k, h, rfl, (kd_get f k l).symm⟩
theorem e_inD (hk : Ev ta σ H (vs k)) (hd : Ev td σ H (.ref d)) (h : Rd H d (.dK (kd f l))) : Ev (tDIn ta td) σ H (.bl (dhas l k)) := fun H1 e Q q =>
  hk H1 e _ fun H2 e2 => hd H2 (e.trans e2) _ fun H3 e3 => ⟨d, _, rfl, dg_of (ex_rd ((e.trans e2).trans e3) h) k, by
    have : ((dget l k).map f).isSome = dhas l k := Option.isSome_map
    rw [this]
    exact q H3 (e2.trans e3)⟩
theorem e_niD (hk : Ev ta σ H (vs k)) (hd : Ev td σ H (.ref d)) (h : Rd H d (.dK (kd f l))) : Ev (tDNotIn ta td) σ H (.bl (!dhas l k)) := fun H1 e Q q =>
  hk H1 e _ fun H2 e2 => hd H2 (e.trans e2) _ fun H3 e3 => ⟨d, _, rfl, dg_of (ex_rd ((e.trans e2).trans e3) h) k, by
    have : ((dget l k).map f).isSome = dhas l k := Option.isSome_map
    rw [this]
    exact q H3 (e2.trans e3)⟩
theorem e_getD (dv : α) (hd : Ev td σ H (.ref d)) (hk : Ev ta σ H (vs k)) (h : Rd H d (.dK (kd f l))) (hh : dhas l k = true) : Ev (tDGet td ta) σ H (f ((dget l k).getD dv)) := fun H1 e Q q =>
  hd H1 e _ fun H2 e2 => hk H2 (e.trans e2) _ fun H3 e3 => ⟨d, _, rfl, by
    have g := dg_of (ex_rd ((e.trans e2).trans e3) h) k
    obtain ⟨v, hv⟩ := Option.isSome_iff_exists.mp (show (dget l k).isSome = true from hh)
    rw [hv] at g ⊢
    exact g, q H3 (e2.trans e3)⟩
/-- a text or nothing -/
def vo : Option Tx → V
  | none => .non
  | some t => vs t
theorem e_get1 {l : List (Tx × Tx)} (hd : Ev td σ H (.ref d)) (hk : Ev ta σ H (vs k)) (h : Rd H d (.dK (kd vs l))) : Ev (tDGet1 td ta) σ H (vo (dget l k)) := fun H1 e Q q =>
  hd H1 e _ fun H2 e2 => ⟨d, rfl, Or.inl ⟨_, ex_rd (e.trans e2) h⟩, hk H2 (e.trans e2) _ fun H3 e3 => ⟨_, dg_of (ex_rd ((e.trans e2).trans e3) h) k, by
    have : ((dget l k).map vs).getD .non = vo (dget l k) := by cases dget l k <;> rfl
    rw [this]
    exact q H3 (e2.trans e3)⟩⟩
def rLenD : List V → Hp → VK → Prop := fun xs H Q => ∃ a kvs, xs = [V.ref a] ∧ Rd H a (.dK kvs) ∧ Q (.int kvs.length) H
theorem e_lenD (hd : Ev td σ H (.ref d)) (h : H d = some (.dK (kd f l))) : Ev (tCB (fun xs H Q => ∃ a kvs, xs = [V.ref a] ∧ H a = some (.dK kvs) ∧ Q (.int kvs.length) H) (tCons td tNil)) σ H (.int (l.length : Int)) :=
  ev_cb (ea_cons hd ea_nil) fun H1 e Q q => ⟨d, _, rfl, e d _ h, by rw [kd_len]; exact q H1 (Ex.refl H1)⟩
theorem l_keysD (hd : Ev td σ H (.ref d)) (h : Rd H d (.dK (kd f l))) : EvL (tCB (fun xs H Q => ∃ (a : Addr) (kvs : List (Key × V)), xs = [.ref a] ∧ Rd H a (.dK kvs) ∧ ∀ p, H p = none → Q (.ref p) (upd H p (.lst (kvs.map fun kv => kV kv.1)))) (tCons td tNil)) σ H ((dkeys l).map vs) := fun H1 e Q q =>
  hd H1 e _ fun H2 e2 => ⟨d, _, rfl, ex_rd (e.trans e2) h, fun p np => q p _ (fresh_back e2 np) (e2.trans (Ex.new np)) (by rw [upd_same, kd_keys])⟩
/-- a new dict -/
def EvK (te : TE) (σ : L2.St) (H : Hp) (kvs : List (Key × V)) : Prop := ∀ H1, Ex H H1 → ∀ Q : VK, (∀ p H2, H1 p = none → Ex H1 H2 → H2 p = some (.dK kvs) → Q (.ref p) H2) → te σ H1 Q
theorem ek_is {a b : List (Key × V)} (h : EvK te σ H a) (e : a = b) : EvK te σ H b := e ▸ h
theorem k_new : EvK tDNewK σ H [] := fun H1 _ Q q p np => q p _ np (Ex.new np) upd_same
theorem k_copy (hd : Ev td σ H (.ref d)) (h : Rd H d (.dK (kd f l))) : EvK (tCB (fun xs H Q => ∃ (a : Addr) (kvs : List (Key × V)), xs = [.ref a] ∧ Rd H a (.dK kvs) ∧ ∀ p, H p = none → Q (.ref p) (upd H p (.dK kvs))) (tCons td tNil)) σ H (kd f l) := fun H1 e Q q =>
  hd H1 e _ fun H2 e2 => ⟨d, _, rfl, ex_rd (e.trans e2) h, fun p np => q p _ (fresh_back e2 np) (e2.trans (Ex.new np)) upd_same⟩
theorem s_asgK {i : Nat} {kvs : List (Key × V)} (h : EvK te σ H kvs) (k : ∀ p H1, H p = none → Ex H H1 → H1 p = some (.dK kvs) → D.nx (σ.set i (some (.ref p))) H1) : tAsg te (gName i) D σ H := h H (Ex.refl H) _ fun p H1 hp e h1 => k p H1 hp e h1
theorem q_asgK {i : Nat} {kvs : List (Key × V)} (h : EvK te σ H kvs) (k : ∀ p H1, H p = none → Ex H H1 → H1 p = some (.dK kvs) → tz D (σ.set i (some (.ref p))) H1) : tSeq (tAsg te (gName i)) tz D σ H := s_asgK (D := { D with nx := tz D }) h k
theorem s_retK {kvs : List (Key × V)} (h : EvK te σ H kvs) (k : ∀ p H1, H p = none → Ex H H1 → H1 p = some (.dK kvs) → D.rt (.ref p) H1) : tRet te D σ H := h H (Ex.refl H) _ k
/-! ## writing own things -/
theorem s_putD {v : α} (hv : Ev te σ H (f v)) (hd : Ev td σ H (.ref d)) (hk : Ev ta σ H (vs k)) (h : H d = some (.dK (kd f l))) (hz : l.length < 100000) (q : ∀ H1, Mu H d (.dK (kd f (dput l k v))) H1 → D.nx σ H1) : sDPut td ta te D σ H :=
  hv H (Ex.refl H) _ fun H1 e1 => hd H1 e1 _ fun H2 e2 => hk H2 (e1.trans e2) _ fun H3 e3 =>
    ⟨d, upd H3 d (.dK (kd f (dput l k v))), rfl, Or.inl ⟨kd f l, ky k, ((e1.trans e2).trans e3) d _ h, rfl, sz_lt (by rw [kd_len]; exact hz), by rw [kd_put]⟩, q _ ⟨H3, (e1.trans e2).trans e3, rfl⟩⟩
theorem q_putD {v : α} (hv : Ev te σ H (f v)) (hd : Ev td σ H (.ref d)) (hk : Ev ta σ H (vs k)) (h : H d = some (.dK (kd f l))) (hz : l.length < 100000) (q : ∀ H1, Mu H d (.dK (kd f (dput l k v))) H1 → tz D σ H1) : tSeq (sDPut td ta te) tz D σ H :=
  s_putD (D := { D with nx := tz D }) hv hd hk h hz q
theorem s_delD (hd : Ev td σ H (.ref d)) (hk : Ev ta σ H (vs k)) (h : H d = some (.dK (kd f l))) (hh : dhas l k = true) (q : ∀ H1, Mu H d (.dK (kd f (ddel l k))) H1 → D.nx σ H1) : sDDel td ta D σ H :=
  hd H (Ex.refl H) _ fun H1 e1 => hk H1 e1 _ fun H2 e2 => ⟨d, kd f l, ky k, rfl, (e1.trans e2) d _ h, rfl, by rw [kd_get, Option.isSome_map]; exact hh, q _ ⟨H2, e1.trans e2, by rw [kd_del]⟩⟩
theorem q_delD (hd : Ev td σ H (.ref d)) (hk : Ev ta σ H (vs k)) (h : H d = some (.dK (kd f l))) (hh : dhas l k = true) (q : ∀ H1, Mu H d (.dK (kd f (ddel l k))) H1 → tz D σ H1) : tSeq (sDDel td ta) tz D σ H :=
  s_delD (D := { D with nx := tz D }) hd hk h hh q
/-- d.pop(k) alone -/
theorem s_popD (dv : α) (hd : Ev td σ H (.ref d)) (hk : Ev ta σ H (vs k)) (h : H d = some (.dK (kd f l))) (hh : dhas l k = true) (q : ∀ H1, Mu H d (.dK (kd f (ddel l k))) H1 → D.nx σ H1) : tDrop (tDPop1 td ta) D σ H :=
  hd H (Ex.refl H) _ fun H1 e1 => ⟨d, rfl, Or.inl ⟨_, Or.inl (e1 d _ h)⟩, hk H1 e1 _ fun H2 e2 => ⟨kd f l, ky k, f ((dget l k).getD dv), (e1.trans e2) d _ h, rfl, by
    obtain ⟨v, hv⟩ := Option.isSome_iff_exists.mp (show (dget l k).isSome = true from hh)
    rw [kd_get, hv]
    rfl, q _ ⟨H2, e1.trans e2, by rw [kd_del]⟩⟩⟩
theorem q_popD (dv : α) (hd : Ev td σ H (.ref d)) (hk : Ev ta σ H (vs k)) (h : H d = some (.dK (kd f l))) (hh : dhas l k = true) (q : ∀ H1, Mu H d (.dK (kd f (ddel l k))) H1 → tz D σ H1) : tSeq (tDrop (tDPop1 td ta)) tz D σ H :=
  s_popD (D := { D with nx := tz D }) dv hd hk h hh q
/-- c[j] = d.pop(k), c another own dict -/
theorem s_putPop {tc tj : TE} {c : Addr} {j : Tx} {m : List (Tx × α)} (dv : α) (hd : Ev td σ H (.ref d)) (hk : Ev ta σ H (vs k)) (h : H d = some (.dK (kd f l))) (hh : dhas l k = true) (hc : ∀ H1, Ev tc σ H1 (.ref c)) (hj : ∀ H1, Ev tj σ H1 (vs j)) (h2 : H c = some (.dK (kd f m))) (hne : c ≠ d) (hz : m.length < 100000)
    (q : ∀ H1 H2, Mu H d (.dK (kd f (ddel l k))) H1 → Mu H1 c (.dK (kd f (dput m j ((dget l k).getD dv)))) H2 → D.nx σ H2) : sDPut tc tj (tDPop1 td ta) D σ H :=
  hd H (Ex.refl H) _ fun H1 e1 => ⟨d, rfl, Or.inl ⟨_, Or.inl (e1 d _ h)⟩, hk H1 e1 _ fun H2 e2 => ⟨kd f l, ky k, f ((dget l k).getD dv), (e1.trans e2) d _ h, rfl, by
    obtain ⟨v, hv⟩ := Option.isSome_iff_exists.mp (show (dget l k).isSome = true from hh)
    rw [kd_get, hv]
    rfl, by
    rw [kd_del]
    have hm : Mu H d (.dK (kd f (ddel l k))) (upd H2 d (.dK (kd f (ddel l k)))) := ⟨H2, e1.trans e2, rfl⟩
    exact hc _ _ (Ex.refl _) _ fun H3 e3 => hj H3 H3 (Ex.refl _) _ fun H4 e4 => ⟨c, upd H4 c (.dK (kd f (dput m j ((dget l k).getD dv)))), rfl, Or.inl ⟨kd f m, ky j, (e3.trans e4) c _ (hm.keep hne h2), rfl, sz_lt (by rw [kd_len]; exact hz), by rw [kd_put]⟩,
      q _ _ hm ⟨H4, e3.trans e4, rfl⟩⟩⟩⟩
theorem q_putPop {tc tj : TE} {c : Addr} {j : Tx} {m : List (Tx × α)} (dv : α) (hd : Ev td σ H (.ref d)) (hk : Ev ta σ H (vs k)) (h : H d = some (.dK (kd f l))) (hh : dhas l k = true) (hc : ∀ H1, Ev tc σ H1 (.ref c)) (hj : ∀ H1, Ev tj σ H1 (vs j)) (h2 : H c = some (.dK (kd f m))) (hne : c ≠ d) (hz : m.length < 100000)
    (q : ∀ H1 H2, Mu H d (.dK (kd f (ddel l k))) H1 → Mu H1 c (.dK (kd f (dput m j ((dget l k).getD dv)))) H2 → tz D σ H2) : tSeq (sDPut tc tj (tDPop1 td ta)) tz D σ H :=
  s_putPop (D := { D with nx := tz D }) dv hd hk h hh hc hj h2 hne hz q
/-- lists likewise -/
theorem s_appG {β : Type} {g : β → V} {pl : Addr} {m : List β} {v : β} (hl : H pl = some (.lst (m.map g))) (ha : Ev ta σ H (.ref pl)) (h : Ev te σ H (g v)) (hz : m.length < 100000)
    (q : ∀ H1, Mu H pl (.lst ((m ++ [v]).map g)) H1 → D.nx σ H1) : tDrop (tBM K "list" rAppend ta (tCons te tNil)) D σ H :=
  s_app hl ha h (by rw [List.length_map]; exact hz) fun H1 e1 => q _ ⟨H1, e1, by rw [List.map_append]; rfl⟩
theorem q_appG {β : Type} {g : β → V} {pl : Addr} {m : List β} {v : β} (hl : H pl = some (.lst (m.map g))) (ha : Ev ta σ H (.ref pl)) (h : Ev te σ H (g v)) (hz : m.length < 100000)
    (q : ∀ H1, Mu H pl (.lst ((m ++ [v]).map g)) H1 → tz D σ H1) : tSeq (tDrop (tBM K "list" rAppend ta (tCons te tNil))) tz D σ H := s_appG (D := { D with nx := tz D }) hl ha h hz q
theorem s_setG {β : Type} {g : β → V} {pl : Addr} {m : List β} {v : β} {i : Int} (j : Nat) {tb' : TE} (hl : H pl = some (.lst (m.map g))) (h : Ev te σ H (g v)) (ha : Ev ta σ H (.ref pl)) (hi : Ev tb' σ H (.int i)) (hj : (0 ≤ i ∧ i = j ∨ i < 0 ∧ i + m.length = j) ∧ j < m.length)
    (q : ∀ H1, Mu H pl (.lst ((m.set j v).map g)) H1 → D.nx σ H1) : tAsg te (gSub ta tb' rSetL) D σ H := h H (Ex.refl H) _ fun H1 e1 => ha H1 e1 _ fun H2 e2 => hi H2 (e1.trans e2) _ fun H3 e3 =>
  ⟨pl, m.map g, i, j, rfl, rfl, ((e1.trans e2).trans e3) pl _ hl, ixN_at (by rw [List.length_map]; exact hj), q _ ⟨H3, (e1.trans e2).trans e3, by rw [List.map_set]⟩⟩
theorem q_setG {β : Type} {g : β → V} {pl : Addr} {m : List β} {v : β} {i : Int} (j : Nat) {tb' : TE} (hl : H pl = some (.lst (m.map g))) (h : Ev te σ H (g v)) (ha : Ev ta σ H (.ref pl)) (hi : Ev tb' σ H (.int i)) (hj : (0 ≤ i ∧ i = j ∨ i < 0 ∧ i + m.length = j) ∧ j < m.length)
    (q : ∀ H1, Mu H pl (.lst ((m.set j v).map g)) H1 → tz D σ H1) : tSeq (tAsg te (gSub ta tb' rSetL)) tz D σ H := s_setG (D := { D with nx := tz D }) j hl h ha hi hj q

/-! ## a walk over a dict's keys -/
/-- the dict locked for the walk, or locked before -/
def tMay (t : TS) : TS := fun D σ H => t D σ H ∨ tLock t D σ H
theorem ps_may {X : Cx} {st : Stmt} {t : TS} (h : PS X st t) : PS X st (tMay t) := by
  refine ⟨fun pins s σ H D I hw => ?_⟩
  rcases hw with hw | hw
  · exact h.run pins s σ H D I hw
  · exact (ps_lock h).run pins s σ H D I hw
theorem keys_walk {t : TG} {step : S → Tx → Stp S R} {s0 : S} {Rep : S → L2.St → Hp → Prop} {i : Nat} {j : Nat} {o : Obj} {D' : Ends} (hσ : σ[i]? = some (some (.ref d))) (hd : H d = some (.frz o (.dK (kd f l)))) (h0 : Rep s0 σ H)
    (hk : ∀ s σ1 H1, Rep s σ1 H1 → H1 d = some (.frz o (.dK (kd f l)))) (hb : BodyOk tu D' j vs step (dkeys l) s0 Rep)
    (ho : ∀ s σ1 H1, (runL step (dkeys l) s0 = .go s ∨ runL step (dkeys l) s0 = .brk s) → Rep s σ1 H1 → D'.nx σ1 H1) : tFor (iKeys (tVar i)) (gName j) tu D' σ H := by
  have hbr : BodyOk tu D' j vs step (dkeys l) s0 Rep := hb
  refine ⟨.ref d, hσ, d, o, rfl, Or.inl ⟨kd f l, hd, ?_⟩⟩
  refine ⟨fun n m σ1 H2 => m = l.length - n ∧ n ≤ l.length ∧ ∃ s, runL step ((dkeys l).take n) s0 = .go s ∧ Rep s σ1 H2, ⟨l.length, by simp, Nat.zero_le _, s0, rfl, h0⟩, fun n m σ1 H2 hW => ?_⟩
  obtain ⟨rfl, hn, s, hr, hp⟩ := hW
  have hlen : (dkeys l).length = l.length := List.length_map _
  by_cases hlt : n < l.length
  · refine Or.inr ⟨⟨hk s σ1 H2 hp, by rw [kd_len]; exact hlt⟩, fun σ2 H3 => ∃ s, runL step ((dkeys l).take (n + 1)) s0 = .go s ∧ Rep s σ2 H3, fun σ2 H3 h3 => ⟨l.length - (n + 1), by omega, rfl, hlt, h3⟩, fun w H3 hy => ?_⟩
    obtain ⟨rfl, kk, vv, hkv, rfl⟩ := hy
    have hy2 : (dkeys l)[n]? = some (l[n]).1 := by
      unfold dkeys
      rw [List.getElem?_map, List.getElem?_eq_getElem hlt]
      rfl
    have ek : kV kk = vs (l[n]).1 := by
      unfold kd at hkv
      rw [List.getElem?_map, List.getElem?_eq_getElem hlt] at hkv
      have e : ky (l[n]).1 = kk := congrArg Prod.fst (Option.some.inj hkv)
      rw [← e]
      rfl
    rw [ek]
    have hnx := runL_next hr hy2
    exact hbr _ _ n s _ σ1 _ hy2 hr hp (fun s2 σ2 H2 e q => ⟨s2, hnx.trans e, q⟩) (fun s2 σ2 H2 e q => ho s2 σ2 H2 (Or.inr (runL_out (hnx.trans e) (fun _ z => by cases z))) q) (fun r e => runL_out (hnx.trans e) (fun _ z => by cases z))
  · have en : n = l.length := by omega
    subst en
    rw [← hlen, List.take_length] at hr
    exact Or.inl ⟨⟨hk s σ1 H2 hp, by rw [kd_len]; exact Nat.le_refl _⟩, ho s σ1 H2 (Or.inl hr) hp⟩
/-- for k in d -/
theorem q_loopK (step : S → Tx → Stp S R) (s0 : S) (Rep : HO → Obj → S → L2.St → Hp → Prop) {i j : Nat} (hσ : σ[i]? = some (some (.ref d))) (hd : Rd H d (.dK (kd f l)))
    (h0 : ∀ U o, H d = some U → (U = .dK (kd f l) ∨ U = .frz o (.dK (kd f l))) → Rep U o s0 σ (upd H d (.frz o (.dK (kd f l)))))
    (hk : ∀ U o s σ1 H1, Rep U o s σ1 H1 → H1 d = some (.frz o (.dK (kd f l))))
    (hb : ∀ U o (Rt : VK), H d = some U → (U = .dK (kd f l) ∨ U = .frz o (.dK (kd f l))) → (∀ v H1, H1 d = some (.frz o (.dK (kd f l))) → D.rt v (upd H1 d U) → Rt v H1) → BodyOk tu { D with rt := Rt } j vs step (dkeys l) s0 (Rep U o))
    (ho : ∀ U o s σ1 H1, H d = some U → (U = .dK (kd f l) ∨ U = .frz o (.dK (kd f l))) → (runL step (dkeys l) s0 = .go s ∨ runL step (dkeys l) s0 = .brk s) → Rep U o s σ1 H1 → tz D σ1 (upd H1 d U)) :
    tSeq (tMay (tFor (iKeys (tVar i)) (gName j) tu)) tz D σ H := by
  rcases hd with h | ⟨o, h⟩
  · refine Or.inr ⟨d, .dK (kd f l), h, trivial, fun od => ?_⟩
    have hb2 := hb (.dK (kd f l)) od (fun v H1 => H1 d = some (.frz od (.dK (kd f l))) ∧ D.rt v (upd H1 d (.dK (kd f l)))) h (Or.inl rfl) (fun v H1 a b => ⟨a, b⟩)
    exact keys_walk (t := gName j) (Rep := Rep (.dK (kd f l)) od) hσ upd_same (h0 _ od h (Or.inl rfl)) (hk _ od) hb2 (fun s σ1 H1 hr hp => ⟨hk _ od s σ1 H1 hp, ho _ od s σ1 H1 h (Or.inl rfl) hr hp⟩)
  · have hb2 := hb (.frz o (.dK (kd f l))) o D.rt h (Or.inr rfl) (fun v H1 a b => by rw [upd_self a] at b; exact b)
    have h02 := h0 _ o h (Or.inr rfl)
    rw [upd_self h] at h02
    exact Or.inl (keys_walk (t := gName j) (Rep := Rep (.frz o (.dK (kd f l))) o) hσ h h02 (hk _ o) hb2 (fun s σ1 H1 hr hp => by
      have q := ho _ o s σ1 H1 h (Or.inr rfl) hr hp
      rw [upd_self (hk _ o s σ1 H1 hp)] at q
      exact q))
theorem rx_may {H0 : Hp} {U : HO} {o : Obj} {kvs : List (Key × V)} (r : RX H0 H) (hd : H d = some U) (hU : U = .dK kvs ∨ U = .frz o (.dK kvs)) : RX H0 (upd H d (.frz o (.dK kvs))) := by
  rcases hU with rfl | rfl
  · exact rx_lock r hd
  · rw [upd_self hd]
    exact r
theorem unl_lock {ls : List (Addr × HO)} {H0 : Hp} {U W : HO} (e : Ex H0 (unl ls H)) (hd : H d = some U) : Ex H0 (unl ((d, U) :: ls) (upd H d W)) := by
  show Ex H0 (unl ls (upd (upd H d W) d U))
  rw [upd_upd, upd_self hd]
  exact e
theorem unl_open {ls : List (Addr × HO)} {H0 : Hp} {U : HO} (e : Ex H0 (unl ((d, U) :: ls) H)) : Ex H0 (unl ls (upd H d U)) := e
/-! ## small builtins -/
theorem e_intB {b : Bool} (h : Ev ta σ H (.bl b)) : Ev (tCB (fun xs H Q => (∃ i, xs = [.int i] ∧ Q (.int i) H) ∨ ∃ k, xs = [.bl k] ∧ Q (.int (if k then 1 else 0)) H) (tCons ta tNil)) σ H (.int (if b = true then 1 else 0)) :=
  ev_cb (ea_cons h ea_nil) fun H1 e Q q => Or.inr ⟨b, rfl, q H1 (Ex.refl H1)⟩
/-- str(n) -/
def dec (n : Int) : Tx := tl (toString n : String)
theorem e_strI {n : Int} (h : Ev ta σ H (.int n)) (hz : n.natAbs.log2 < 1920) : Ev (tCB (fun xs H Q => ∃ i, xs = [.int i] ∧ i.natAbs.log2 < 1920 ∧ Q (.str (toString i)) H) (tCons ta tNil)) σ H (vs (dec n)) :=
  ev_cb (ea_cons h ea_nil) fun H1 e Q q => ⟨n, rfl, hz, by
    have : V.str (toString n : String) = vs (dec n) := congrArg V.str (mk_of _).symm
    rw [this]
    exact q H1 (Ex.refl H1)⟩
end
end Vf
namespace Vf
open PySem PySem.Spec PyProof.Rows L2 TL Evl
section
variable {X : Cx}
theorem call_lenRd : CallR X (.builtin "len") rLenD := by
  intro pins s σ H xs us Q I r h
  obtain ⟨a, kvs, rfl, ha, q⟩ := h
  obtain ⟨u, rfl, ru⟩ := vals1 r
  cases ru
  exact d_len I ha fun t s' I' => ⟨.int kvs.length, H, I', ⟨t, rfl⟩, q⟩
theorem call_listDK (hc : X.calm = true) : CallR X (.type "list") (fun xs H Q => ∃ (a : Addr) (kvs : List (Key × V)), xs = [.ref a] ∧ Rd H a (.dK kvs) ∧ ∀ p, H p = none → Q (.ref p) (upd H p (.lst (kvs.map fun kv => kV kv.1)))) := call_listD hc
end
section
variable {σ : L2.St} {H : Hp} {td ta : TE} {α : Type} {f : α → V} {l : List (Tx × α)} {d : Addr} {x y : V}
theorem e_lenRd (hd : Ev td σ H (.ref d)) (h : Rd H d (.dK (kd f l))) : Ev (tCB rLenD (tCons td tNil)) σ H (.int (l.length : Int)) :=
  ev_cb (ea_cons hd ea_nil) fun H1 e Q q => ⟨d, _, rfl, ex_rd e h, by rw [kd_len]; exact q H1 (Ex.refl H1)⟩
theorem rx_updn {H0 : Hp} {p : Addr} {Y : HO} (r : RX H0 H) (n : H0 p = none) : RX H0 (upd H p Y) := fun a u h => by
  have ha : a ≠ p := fun z => by
    subst z
    rcases h with h | ⟨o, h⟩ <;> (rw [n] at h; cases h)
  rcases r a u h with h2 | ⟨o, h2⟩
  · exact Or.inl (upd_keep ha h2)
  · exact Or.inr ⟨o, upd_keep ha h2⟩
/-- what is read stands elsewhere than what is new -/
theorem ne_rdn {H0 : Hp} {a p : Addr} {u : HO} (h : Rd H0 a u) (n : H0 p = none) : a ≠ p := fun z => by
  subst z
  rcases h with h | ⟨o, h⟩ <;> (rw [n] at h; cases h)
theorem tyx_dct {K : PySem.W.Frag} {kvs : List (Key × V)} (h : Rd H d (.dK kvs)) : TyX K H (.ref d) (.type "dict") := by
  rcases h with h | ⟨o, h⟩
  · exact .base (.dK h)
  · exact .fDict h
theorem rx_free {H0 : Hp} {p : Addr} (r : RX H0 H) (n : H p = none) : H0 p = none := by
  cases h : H0 p with
  | none => rfl
  | some o =>
    rcases r p o (Or.inl h) with h2 | ⟨_, h2⟩ <;> (rw [n] at h2; cases h2)
/-! ## lists laid together -/
theorem l_catNR {β : Type} {g : β → V} {m1 m2 : List β} {pl : Addr} {tb : TE} (ha : EvL ta σ H (m1.map g)) (hb : Ev tb σ H (.ref pl)) (h : H pl = some (.lst (m2.map g))) (hz : m1.length + m2.length ≤ 100000) : EvL (tOp rCat ta tb) σ H ((m1 ++ m2).map g) := fun H1 e Q q =>
  ha H1 e _ fun p H2 np e2 hp => hb H2 (e.trans e2) _ fun H3 e3 => ⟨p, pl, m1.map g, m2.map g, rfl, rfl, e3 p _ hp, ((e.trans e2).trans e3) pl _ h, by rw [List.length_map, List.length_map]; exact sz_of hz, fun r nr =>
    q r _ (fresh_back (e2.trans e3) nr) ((e2.trans e3).trans (Ex.new nr)) (by rw [upd_same, List.map_append])⟩
theorem l_catNN {β : Type} {g : β → V} {m1 m2 : List β} {tb : TE} (ha : EvL ta σ H (m1.map g)) (hb : EvL tb σ H (m2.map g)) (hz : m1.length + m2.length ≤ 100000) : EvL (tOp rCat ta tb) σ H ((m1 ++ m2).map g) := fun H1 e Q q =>
  ha H1 e _ fun p H2 np e2 hp => hb H2 (e.trans e2) _ fun p2 H3 np2 e3 hp2 => ⟨p, p2, m1.map g, m2.map g, rfl, rfl, e3 p _ hp, hp2, by rw [List.length_map, List.length_map]; exact sz_of hz, fun r nr =>
    q r _ (fresh_back (e2.trans e3) nr) ((e2.trans e3).trans (Ex.new nr)) (by rw [upd_same, List.map_append])⟩
theorem l_catRN {β : Type} {g : β → V} {m1 m2 : List β} {pl : Addr} {tb : TE} (ha : Ev ta σ H (.ref pl)) (h : H pl = some (.lst (m1.map g))) (hb : EvL tb σ H (m2.map g)) (hz : m1.length + m2.length ≤ 100000) : EvL (tOp rCat ta tb) σ H ((m1 ++ m2).map g) := fun H1 e Q q =>
  ha H1 e _ fun H2 e2 => hb H2 (e.trans e2) _ fun p2 H3 np2 e3 hp2 => ⟨pl, p2, m1.map g, m2.map g, rfl, rfl, ((e.trans e2).trans e3) pl _ h, hp2, by rw [List.length_map, List.length_map]; exact sz_of hz, fun r nr =>
    q r _ (fresh_back (e2.trans e3) nr) ((e2.trans e3).trans (Ex.new nr)) (by rw [upd_same, List.map_append])⟩
/-- a slice of a new list -/
theorem l_slN {K : PySem.W.Frag} {β : Type} {g : β → V} {m : List β} {te : TE} {tl' th : TO} {lo hi : Option Int} (h : EvL te σ H (m.map g)) (h1 : EvO tl' σ H lo) (h2 : EvO th σ H hi) : EvL (tSl (rSlL K) te tl' th) σ H ((cutG m lo hi).map g) := fun H1 e Q q =>
  h H1 e _ fun p H2 np e2 hp => h1 H2 (e.trans e2) _ fun H3 e3 => h2 H3 ((e.trans e2).trans e3) _ fun H4 e4 => ⟨p, m.map g, rfl, sq_of (e4 p _ (e3 p _ hp)), fun r nr =>
    q r _ (fresh_back ((e2.trans e3).trans e4) nr) (((e2.trans e3).trans e4).trans (Ex.new nr)) (by rw [upd_same, cutV_map])⟩
/-! ## promises that give a new dict -/
def RetK (kvs : List (Key × V)) (H : Hp) (Q : VK) : Prop := ∀ p H2, H p = none → Ex H H2 → H2 p = some (.dK kvs) → Q (.ref p) H2
def spK (R : List V → Hp → List (Key × V) → Prop) : Sp := fun vs' H Q _ => ∃ xs, R vs' H xs ∧ RetK xs H Q
def SpK (sp : Sp) (ws : List V) (H : Hp) (xs : List (Key × V)) : Prop := ∀ H1, Ex H H1 → ∀ Q : VK, (∀ p H2, H1 p = none → Ex H1 H2 → H2 p = some (.dK xs) → Q (.ref p) H2) → ∀ E : XK, sp ws H1 Q E
theorem sk_of {R : List V → Hp → List (Key × V) → Prop} {ws : List V} {xs : List (Key × V)} (h : ∀ H1, Ex H H1 → R ws H1 xs) : SpK (spK R) ws H xs := fun H1 e Q q _ => ⟨xs, h H1 e, q⟩
theorem ek_call {sp : Sp} {dvs ws : List V} {xs : List (Key × V)} {E : XK} {ta : TA} (h : EvA ta σ H ws) (hs : SpK sp (ws ++ dvs) H xs) : EvK (tCall sp dvs E ta) σ H xs := fun H1 e Q q =>
  h H1 e _ fun H2 e2 => hs H2 (e.trans e2) Q (fun p H3 hp e3 h3 => q p H3 (fresh_back e2 hp) (e2.trans e3) h3) E
theorem RetK.go {xs : List (Key × V)} {Q : VK} {H' : Hp} (k : RetK xs H Q) (e : Ex H H') {p : Addr} {H2 : Hp} (hp : H' p = none) (e2 : Ex H' H2) (h : H2 p = some (.dK xs)) : Q (.ref p) H2 := k p H2 (fresh_back e hp) (e.trans e2) h
theorem retK_T {b : Bool} {x y : List (Tx × α)} {Q : VK} (k : RetK (kd f (if b = true then x else y)) H Q) (hb : b = true) : RetK (kd f x) H Q := by
  rw [if_pos hb] at k
  exact k
theorem retK_F {b : Bool} {x y : List (Tx × α)} {Q : VK} (k : RetK (kd f (if b = true then x else y)) H Q) (hb : b = false) : RetK (kd f y) H Q := by
  rw [hb, if_neg Bool.false_ne_true] at k
  exact k
theorem retK_run {S : Type} {o : Stp S (List (Tx × α))} {g : S → List (Tx × α)} {r : List (Tx × α)} {Q : VK} (k : RetK (kd f (aftL o g)) H Q) (h : o = .ret r) : RetK (kd f r) H Q := by
  rw [h] at k
  exact k
theorem retK_go {S : Type} {o : Stp S (List (Tx × α))} {g : S → List (Tx × α)} {s : S} {Q : VK} (k : RetK (kd f (aftL o g)) H Q) (h : o = .go s ∨ o = .brk s) : RetK (kd f (g s)) H Q := by
  rcases h with h | h
  · rw [h] at k
    exact k
  · rw [h] at k
    exact k
end
end Vf

/-! Own layer, further: lists of tuples of texts. -/
namespace Vf
open PySem PySem.Spec PyProof.Rows L2 TL Evl LiI
/-- no tuple stands there -/
def NT : HO → Prop
  | .lst _ => True
  | .dK _ => True
  | .frz _ (.dK _) => True
  | .frz _ (.lst _) => True
  | .ins _ _ _ => True
  | _ => False
section
variable {K : PySem.W.Frag} {H H1 H2 : Hp} {p t : Addr} {q : List V} {o X : HO}
theorem sqt_upd (hp : H p = some o) (nt : NT o) (h : SqT K H t q) : SqT K (upd H p X) t q := by
  rcases h with h | h
  · have ne : t ≠ p := fun z => by
      subst z
      rcases h with h | ⟨w, h⟩
      · rw [hp] at h
        cases h
        exact nt
      · rw [hp] at h
        cases h
        exact nt
    rcases h with h | ⟨w, h⟩
    · exact Or.inl (Or.inl (upd_keep ne h))
    · exact Or.inl (Or.inr ⟨w, upd_keep ne h⟩)
  · exact Or.inr h
theorem Mu.tup (m : Mu H p X H1) (hp : H p = some o) (nt : NT o) (h : SqT K H t q) : SqT K H1 t q := by
  obtain ⟨H2, e, rfl⟩ := m
  exact sqt_upd (e p _ hp) nt (ex_t e h)
abbrev TupsAt (K : PySem.W.Frag) (H : Hp) : List Addr → List (List V) → Prop := Paired fun t q => SqT K H t q
theorem tups_mono {ts : List Addr} {l : List (List V)} (f : ∀ t q, SqT K H t q → SqT K H2 t q) (h : TupsAt K H ts l) : TupsAt K H2 ts l := Paired.mapP h f
/-- a list of tuples at p -/
def IsLU (K : PySem.W.Frag) (H : Hp) (p : Addr) (l : List (List V)) : Prop := ∃ ts, H p = some (.lst (ts.map V.ref)) ∧ TupsAt K H ts l
theorem IsLU.ex {l : List (List V)} (h : IsLU K H p l) (e : Ex H H2) : IsLU K H2 p l := by
  obtain ⟨ts, a, b⟩ := h
  exact ⟨ts, e p _ a, tups_mono (fun _ _ => ex_t e) b⟩
theorem IsLU.mu {l : List (List V)} {r : Addr} (h : IsLU K H p l) (m : Mu H r X H1) (hne : p ≠ r) (hr : H r = some o) (nt : NT o) : IsLU K H1 p l := by
  obtain ⟨ts, a, b⟩ := h
  exact ⟨ts, m.keep hne a, tups_mono (fun _ _ => m.tup hr nt) b⟩
theorem IsLU.upd {l : List (List V)} {r : Addr} (h : IsLU K H p l) (hne : p ≠ r) (hr : H r = some o) (nt : NT o) : IsLU K (upd H r X) p l := by
  obtain ⟨ts, a, b⟩ := h
  exact ⟨ts, upd_keep hne a, tups_mono (fun _ _ => sqt_upd hr nt) b⟩
theorem IsLU.ne {l : List (List V)} {r : Addr} (h : IsLU K H p l) (n : H r = none) : p ≠ r := by
  obtain ⟨ts, a, _⟩ := h
  exact ne_of_none a n
theorem IsLU.sq {l : List (List V)} (h : IsLU K H p l) : ∃ ts, SqL K H p (ts.map V.ref) ∧ TupsAt K H ts l := by
  obtain ⟨ts, a, b⟩ := h
  exact ⟨ts, sq_of a, b⟩
end
section
variable {K : PySem.W.Frag} {σ : L2.St} {H H' : Hp} {ta tb te td : TE} {D : Ends} {tz : TS} {l l2 : List (List V)} {d p : Addr} {α : Type} {f : α → V} {m : List (Tx × α)}
/-- a new list of tuples -/
def EvU2 (K : PySem.W.Frag) (te : TE) (σ : L2.St) (H : Hp) (l : List (List V)) : Prop := ∀ H1, Ex H H1 → ∀ Q : VK, (∀ p H2, H1 p = none → Ex H1 H2 → IsLU K H2 p l → Q (.ref p) H2) → te σ H1 Q
theorem eu2_is (h : EvU2 K te σ H l) (e : l = l2) : EvU2 K te σ H l2 := e ▸ h
theorem s_asgU2 {i : Nat} (h : EvU2 K te σ H l) (k : ∀ p H1, H p = none → Ex H H1 → IsLU K H1 p l → D.nx (σ.set i (some (.ref p))) H1) : tAsg te (gName i) D σ H := h H (Ex.refl H) _ fun p H1 hp e h1 => k p H1 hp e h1
theorem q_asgU2 {i : Nat} (h : EvU2 K te σ H l) (k : ∀ p H1, H p = none → Ex H H1 → IsLU K H1 p l → tz D (σ.set i (some (.ref p))) H1) : tSeq (tAsg te (gName i)) tz D σ H := s_asgU2 (D := { D with nx := tz D }) h k
/-- list(d.items()), texts to texts -/
def ditems (m : List (Tx × Tx)) : List (List Tx) := m.map fun q => [q.1, q.2]
theorem u_items {m : List (Tx × Tx)} (hd : Ev td σ H (.ref d)) (h : H d = some (.dK (kd vs m))) : EvU2 K (tListItems td) σ H ((ditems m).map (List.map vs)) := fun H1 e Q q =>
  hd H1 e _ fun H2 e2 => ⟨d, kd vs m, rfl, (e.trans e2) d _ h, fun H3 p ts e3 np nts hp hl hpr => q p H3 (fresh_back e2 np) (e2.trans e3) ⟨ts, hl, by
    have e4 : (ditems m).map (List.map vs) = (kd vs m).map fun q => [kV q.1, q.2] := by
      unfold ditems kd
      rw [List.map_map, List.map_map]
      rfl
    rw [e4]
    clear hl nts hp
    revert hpr
    generalize kd vs m = kvs
    intro hpr
    induction hpr with
    | nil => exact .nil
    | cons a _ ih => exact .cons (st_of a) ih⟩⟩
/-- two lists of tuples of texts that are equal -/
def okT (p : Tx) : Prop := ∀ c ∈ p, c < 1114112
def duD (l : List (List Tx)) : PyData := .list (l.map fun q => .tuple (q.map fun p => .str (mk p)))
theorem dp_strs : ∀ q : List Tx, DpAll K H (q.map vs) (q.map fun p => PyData.str (mk p))
  | [] => .nil
  | p :: r => .cons (.str _) (dp_strs r)
theorem dp_tups {ts : List Addr} {l : List (List Tx)} (h : TupsAt K H ts (l.map (List.map vs))) : DpAll K H (ts.map V.ref) (l.map fun q => PyData.tuple (q.map fun p => .str (mk p))) := by
  induction l generalizing ts with
  | nil =>
    cases h
    exact .nil
  | cons q r ih =>
    cases h with
    | cons a b => exact .cons (.tup a (dp_strs q)) (ih b)
theorem dp_LU {l : List (List Tx)} (h : IsLU K H p (l.map (List.map vs))) : Dp K H (.ref p) (duD l) := by
  obtain ⟨ts, a, b⟩ := h
  exact .lst (sq_of a) (dp_tups b)
theorem lay_strs : ∀ {q : List Tx}, (∀ p ∈ q, okT p) → PyData.canLayAll0 (q.map fun p => PyData.str (mk p)) = true ∧ PyData.depthAll (q.map fun p => PyData.str (mk p)) = 0
  | [], _ => ⟨rfl, rfl⟩
  | p :: r, h => by
    obtain ⟨a, b⟩ := lay_strs (q := r) fun x hx => h x (List.mem_cons_of_mem _ hx)
    have hp := h p List.mem_cons_self
    refine ⟨?_, ?_⟩
    · show (PyData.canLay0 (.str (mk p)) && PyData.canLayAll0 _) = true
      rw [a, Bool.and_true]
      show (p.toArray.all (· < 0x110000)) = true
      rw [List.all_toArray]
      exact List.all_eq_true.mpr fun c hc => decide_eq_true (hp c hc)
    · show max 0 (PyData.depthAll _) = 0
      rw [b]
      rfl
theorem lay_tups : ∀ {l : List (List Tx)}, (∀ q ∈ l, ∀ p ∈ q, okT p) → PyData.canLayAll0 (l.map fun q => PyData.tuple (q.map fun p => .str (mk p))) = true ∧ PyData.depthAll (l.map fun q => PyData.tuple (q.map fun p => .str (mk p))) ≤ 1
  | [], _ => ⟨rfl, by decide⟩
  | q :: r, h => by
    obtain ⟨a, b⟩ := lay_tups (l := r) fun x hx => h x (List.mem_cons_of_mem _ hx)
    obtain ⟨a2, b2⟩ := lay_strs (h q List.mem_cons_self)
    refine ⟨?_, ?_⟩
    · show (PyData.canLayAll0 _ && PyData.canLayAll0 _) = true
      rw [a, Bool.and_true]
      exact a2
    · show max (PyData.depthAll _ + 1) (PyData.depthAll _) ≤ 1
      rw [b2]
      omega
theorem shaped_LU {l : List (List Tx)} (h : ∀ q ∈ l, ∀ p ∈ q, okT p) : SeqAt.shaped (duD l) = true := by
  obtain ⟨a, b⟩ := lay_tups h
  show ((PyData.canLayAll0 _) && decide (PyData.depthAll _ + 1 ≤ 64)) = true
  rw [a, Bool.true_and]
  exact decide_eq_true (by omega)
theorem e_eqLU {l l2 : List (List Tx)} (ha : EvU2 K ta σ H (l.map (List.map vs))) (hb : Ev tb σ H (.ref p)) (h : IsLU K H p (l2.map (List.map vs))) (e : l = l2) (ok : ∀ q ∈ l, ∀ p ∈ q, okT p) : Ev (tOp (rEqD K) ta tb) σ H (.bl true) := fun H1 e1 Q q =>
  ha H1 e1 _ fun r H2 _ e2 hr => hb H2 (e1.trans e2) _ fun H3 e3 => ⟨duD l, duD l, dp_LU (hr.ex e3), by
    rw [e]
    exact dp_LU (h.ex ((e1.trans e2).trans e3)), shaped_LU ok, shaped_LU ok, by
    rw [SeqAt.eqv_refl (duD l) (SeqAt.canLay_of_shaped (shaped_LU ok))]
    exact q H3 (e2.trans e3)⟩
theorem op_eqDK {X : Cx} (K : PySem.W.Frag) (hu : X.A.units + 64 < cLine) (h : X.K = K := by rfl) : OpR X (compareOp .Eq) (rEqD K) := h ▸ op_eqD hu
end
end Vf

/-! Own layer, the plain mathematics: dicts as rows of pairs, walks that hold a thing. -/
namespace Vf
section
variable {α β S R : Type}
theorem dkeys_len (l : List (Tx × α)) : (dkeys l).length = l.length := List.length_map _
theorem dkeys_app (l m : List (Tx × α)) : dkeys (l ++ m) = dkeys l ++ dkeys m := List.map_append
theorem mem_keys {l : List (Tx × α)} {q : Tx × α} (h : q ∈ l) : q.1 ∈ dkeys l := List.mem_map_of_mem h
theorem any_iff (l : List (Tx × α)) (k : Tx) : (l.any fun p => decide (p.1 = k)) = true ↔ k ∈ dkeys l := by
  rw [List.any_eq_true]
  constructor
  · rintro ⟨p, hp, e⟩
    rw [← of_decide_eq_true e]
    exact mem_keys hp
  · intro h
    obtain ⟨p, hp, e⟩ := List.mem_map.mp h
    exact ⟨p, hp, decide_eq_true e⟩
theorem get_cons (p : Tx × α) (r : List (Tx × α)) (k : Tx) : dget (p :: r) k = if p.1 = k then some p.2 else dget r k := by
  unfold dget
  rw [List.find?_cons]
  by_cases h : p.1 = k
  · rw [if_pos h, decide_eq_true h]
    rfl
  · rw [if_neg h, decide_eq_false h]
theorem has_iff (l : List (Tx × α)) (k : Tx) : dhas l k = true ↔ k ∈ dkeys l := by
  unfold dhas
  induction l with
  | nil => exact ⟨fun h => (by cases h), fun h => (by cases h)⟩
  | cons p r ih =>
    rw [get_cons]
    show _ ↔ k ∈ p.1 :: dkeys r
    by_cases h : p.1 = k
    · rw [if_pos h]
      exact ⟨fun _ => by rw [h]; exact List.mem_cons_self, fun _ => rfl⟩
    · rw [if_neg h, ih, List.mem_cons]
      exact ⟨Or.inr, fun z => z.resolve_left fun e => h e.symm⟩
theorem has_dec (l : List (Tx × α)) (k : Tx) : dhas l k = decide (k ∈ dkeys l) := by
  by_cases h : k ∈ dkeys l
  · rw [decide_eq_true h, (has_iff l k).mpr h]
  · rw [decide_eq_false h]
    cases e : dhas l k with
    | false => rfl
    | true => exact absurd ((has_iff l k).mp e) h
theorem get_none {l : List (Tx × α)} {k : Tx} (h : k ∉ dkeys l) : dget l k = none := by
  have := has_dec l k
  rw [decide_eq_false h] at this
  unfold dhas at this
  exact Option.isNone_iff_eq_none.mp (by rw [← Option.not_isSome, this]; rfl)
theorem get_mem {l : List (Tx × α)} {k : Tx} {v : α} (h : dget l k = some v) : (k, v) ∈ l := by
  induction l with
  | nil => cases h
  | cons p r ih =>
    rw [get_cons] at h
    by_cases e : p.1 = k
    · rw [if_pos e] at h
      cases h
      rw [← e]
      exact List.mem_cons_self
    · rw [if_neg e] at h
      exact List.mem_cons_of_mem _ (ih h)
theorem get_of {l : List (Tx × α)} (hn : (dkeys l).Nodup) {q : Tx × α} (h : q ∈ l) : dget l q.1 = some q.2 := by
  induction l with
  | nil => cases h
  | cons p r ih =>
    rw [get_cons]
    have hn2 : (p.1 :: dkeys r).Nodup := hn
    rw [List.nodup_cons] at hn2
    rcases List.mem_cons.mp h with e | e
    · rw [e, if_pos rfl]
    · rw [if_neg (fun z => hn2.1 (by rw [z]; exact mem_keys e))]
      exact ih hn2.2 e
theorem put_new {l : List (Tx × α)} {k : Tx} {v : α} (h : k ∉ dkeys l) : dput l k v = l ++ [(k, v)] := by
  unfold dput
  rw [if_neg fun z => h ((any_iff l k).mp z)]
theorem put_old {l : List (Tx × α)} {k : Tx} {v : α} (h : k ∈ dkeys l) : dput l k v = l.map (fun p => if p.1 = k then (p.1, v) else p) := by
  unfold dput
  rw [if_pos ((any_iff l k).mpr h)]
theorem keys_put (l : List (Tx × α)) (k : Tx) (v : α) : dkeys (dput l k v) = if k ∈ dkeys l then dkeys l else dkeys l ++ [k] := by
  by_cases h : k ∈ dkeys l
  · rw [if_pos h, put_old h]
    unfold dkeys
    rw [List.map_map]
    apply List.map_congr_left
    intro p _
    show (if p.1 = k then (p.1, v) else p).1 = p.1
    split <;> rfl
  · rw [if_neg h, put_new h, dkeys_app]
    rfl
theorem mem_keys_put {l : List (Tx × α)} {k j : Tx} {v : α} : j ∈ dkeys (dput l k v) ↔ j = k ∨ j ∈ dkeys l := by
  rw [keys_put]
  by_cases h : k ∈ dkeys l
  · rw [if_pos h]
    exact ⟨Or.inr, fun z => z.elim (fun e => by rw [e]; exact h) id⟩
  · rw [if_neg h, List.mem_append, List.mem_singleton, or_comm]
theorem nodup_put {l : List (Tx × α)} {k : Tx} {v : α} (h : (dkeys l).Nodup) : (dkeys (dput l k v)).Nodup := by
  rw [keys_put]
  by_cases hk : k ∈ dkeys l
  · rw [if_pos hk]
    exact h
  · rw [if_neg hk, List.nodup_append]
    exact ⟨h, List.nodup_cons.mpr ⟨by simp, List.nodup_nil⟩, fun a ha b hb e => hk (by rw [← List.mem_singleton.mp hb, ← e]; exact ha)⟩
theorem put_len (l : List (Tx × α)) (k : Tx) (v : α) : (dput l k v).length ≤ l.length + 1 := by
  rw [← dkeys_len, keys_put]
  split
  · rw [dkeys_len]; omega
  · rw [List.length_append, dkeys_len]; exact Nat.le_refl _
theorem mem_put {l : List (Tx × α)} {k : Tx} {v : α} {q : Tx × α} (h : q ∈ dput l k v) : q = (k, v) ∨ q ∈ l := by
  by_cases hk : k ∈ dkeys l
  · rw [put_old hk] at h
    obtain ⟨p, hp, e⟩ := List.mem_map.mp h
    by_cases e2 : p.1 = k
    · rw [if_pos e2] at e
      rw [← e, e2]
      exact Or.inl rfl
    · rw [if_neg e2] at e
      rw [← e]
      exact Or.inr hp
  · rw [put_new hk] at h
    rcases List.mem_append.mp h with e | e
    · exact Or.inr e
    · exact Or.inl (List.mem_singleton.mp e)
theorem get_app (l m : List (Tx × α)) (k : Tx) : dget (l ++ m) k = (dget l k).or (dget m k) := by
  induction l with
  | nil => simp [dget]
  | cons p r ih =>
    rw [List.cons_append, get_cons, get_cons, ih]
    split <;> rfl
theorem get_put (l : List (Tx × α)) (k : Tx) (v : α) (j : Tx) : dget (dput l k v) j = if j = k then some v else dget l j := by
  by_cases hk : k ∈ dkeys l
  · rw [put_old hk]
    induction l with
    | nil => cases hk
    | cons p r ih =>
      rw [List.map_cons, get_cons, get_cons]
      by_cases h1 : p.1 = k
      · rw [if_pos h1]
        by_cases h2 : j = k
        · rw [if_pos h2, if_pos (by rw [h1, h2])]
        · rw [if_neg h2, if_neg (fun z => h2 (by rw [← z]; exact h1)), if_neg (fun z => h2 (by rw [← z, h1]))]
          by_cases h3 : k ∈ dkeys r
          · rw [ih h3, if_neg h2]
          · have : r.map (fun p => if p.1 = k then (p.1, v) else p) = r := by
              conv => rhs; rw [← List.map_id r]
              apply List.map_congr_left
              intro q hq
              exact if_neg fun z => h3 (by rw [← z]; exact mem_keys hq)
            rw [this]
      · rw [if_neg h1]
        have hk2 : k ∈ dkeys r := (List.mem_cons.mp (show k ∈ p.1 :: dkeys r from hk)).resolve_left fun e => h1 e.symm
        rw [ih hk2]
        by_cases h2 : p.1 = j
        · rw [if_pos h2, if_pos h2, if_neg (fun z => h1 (by rw [h2, z]))]
        · rw [if_neg h2, if_neg h2]
  · rw [put_new hk, get_app]
    by_cases h2 : j = k
    · rw [if_pos h2, h2, get_none hk, get_cons, if_pos rfl]
      rfl
    · rw [if_neg h2, get_cons, if_neg (fun z => h2 z.symm)]
      cases dget l j <;> rfl
theorem keys_del (l : List (Tx × α)) (k : Tx) : dkeys (ddel l k) = (dkeys l).filter (fun j => decide (j ≠ k)) := by
  unfold dkeys ddel
  rw [List.filter_map]
  rfl
theorem mem_keys_del {l : List (Tx × α)} {k j : Tx} : j ∈ dkeys (ddel l k) ↔ j ∈ dkeys l ∧ j ≠ k := by
  rw [keys_del, List.mem_filter, decide_eq_true_eq]
theorem nodup_del {l : List (Tx × α)} {k : Tx} (h : (dkeys l).Nodup) : (dkeys (ddel l k)).Nodup := by
  rw [keys_del]
  exact h.filter _
theorem mem_del {l : List (Tx × α)} {k : Tx} {q : Tx × α} (h : q ∈ ddel l k) : q ∈ l := (List.mem_filter.mp h).1
theorem del_len (l : List (Tx × α)) (k : Tx) : (ddel l k).length ≤ l.length := List.length_filter_le _ _
theorem get_del (l : List (Tx × α)) (k j : Tx) : dget (ddel l k) j = if j = k then none else dget l j := by
  induction l with
  | nil =>
    show none = _
    split <;> rfl
  | cons p r ih =>
    rw [get_cons]
    by_cases h : p.1 = k
    · have e : ddel (p :: r) k = ddel r k := by
        unfold ddel
        rw [List.filter_cons, decide_eq_false (fun z => z h), if_neg Bool.false_ne_true]
      rw [e, ih]
      by_cases h2 : j = k
      · rw [if_pos h2, if_pos h2]
      · rw [if_neg h2, if_neg h2, if_neg (fun z => h2 (by rw [← z, h]))]
    · have e : ddel (p :: r) k = p :: ddel r k := by
        unfold ddel
        rw [List.filter_cons, decide_eq_true (p := p.1 ≠ k) h, if_pos rfl]
      rw [e, get_cons, ih]
      by_cases h2 : j = k
      · rw [if_pos h2, if_pos h2, if_neg (fun z => h (by rw [z, h2]))]
      · rw [if_neg h2, if_neg h2]
theorem del_same {l : List (Tx × α)} {k : Tx} (h : k ∉ dkeys l) : ddel l k = l := by
  unfold ddel
  rw [List.filter_eq_self]
  intro p hp
  exact decide_eq_true fun z => h (by rw [← z]; exact mem_keys hp)
theorem del_cons {p : Tx × α} {r : List (Tx × α)} (h : p.1 ∉ dkeys r) : ddel (p :: r) p.1 = r := by
  have e : ddel (p :: r) p.1 = ddel r p.1 := by
    unfold ddel
    rw [List.filter_cons, decide_eq_false (fun z => z rfl), if_neg Bool.false_ne_true]
  rw [e, del_same h]
/-! ## walks -/
theorem fold_inv {f : S → β → S} {I : S → Prop} : ∀ {ys : List β} {s : S}, I s → (∀ s y, y ∈ ys → I s → I (f s y)) → I (ys.foldl f s)
  | [], _, h, _ => h
  | y :: r, s, h, hs => fold_inv (ys := r) (hs s y List.mem_cons_self h) fun s2 z hz => hs s2 z (List.mem_cons_of_mem _ hz)
theorem out_all [Inhabited S] {step : S → β → Stp S Unit} {g : S → β → S} (hf : ∀ s y, step s y = .go (g s y)) (l : List β) (s : S) : outL (runL step l s) = l.foldl g s := by
  rw [runL_all step g hf]
  rfl
theorem run_is {step : S → β → Stp S R} {g : S → β → S} (hf : ∀ s y, step s y = .go (g s y)) {l : List β} {s0 s : S} (h : runL step l s0 = .go s) : s = l.foldl g s0 := by
  rw [runL_all step g hf] at h
  exact (Stp.go.inj h).symm
theorem run_inv {step : S → β → Stp S R} {g : S → β → S} (hf : ∀ s y, step s y = .go (g s y)) {I : S → Prop} {l : List β} {i : Nat} {s0 s : S} (h : runL step (l.take i) s0 = .go s) (h0 : I s0) (hs : ∀ s y, y ∈ l → I s → I (g s y)) : I s := by
  rw [run_is hf h]
  exact fold_inv h0 fun s y hy => hs s y (List.mem_of_mem_take hy)
/-- with the count of what has been walked -/
theorem fold_cnt {f : S → β → S} {I : Nat → S → Prop} {l : List β} {s0 : S} (h0 : I 0 s0) (hs : ∀ n s y, l[n]? = some y → I n s → I (n + 1) (f s y)) : ∀ i, i ≤ l.length → I i ((l.take i).foldl f s0)
  | 0, _ => by
    rw [List.take_zero]
    exact h0
  | i + 1, h => by
    have ih := fold_cnt h0 hs i (by omega)
    have e : l[i]? = some l[i] := List.getElem?_eq_getElem (by omega)
    rw [List.take_add_one, e, List.foldl_append]
    exact hs i _ _ e ih
theorem run_cnt {step : S → β → Stp S R} {g : S → β → S} (hf : ∀ s y, step s y = .go (g s y)) {I : Nat → S → Prop} {l : List β} {i : Nat} {s0 s : S} (h : runL step (l.take i) s0 = .go s) (hi : i ≤ l.length) (h0 : I 0 s0) (hs : ∀ n s y, l[n]? = some y → I n s → I (n + 1) (g s y)) : I i s := by
  rw [run_is hf h]
  exact fold_cnt h0 hs i hi
theorem out_cnt [Inhabited S] {step : S → β → Stp S Unit} {g : S → β → S} (hf : ∀ s y, step s y = .go (g s y)) {I : Nat → S → Prop} {l : List β} {s0 : S} (h0 : I 0 s0) (hs : ∀ n s y, l[n]? = some y → I n s → I (n + 1) (g s y)) : I l.length (outL (runL step l s0)) := by
  rw [out_all hf]
  have := fold_cnt (f := g) h0 hs l.length (Nat.le_refl _)
  rw [List.take_length] at this
  exact this
theorem fold_and (p : β → Bool) : ∀ (l : List β) (b : Bool), l.foldl (fun s y => s && !p y) b = (b && !l.any p)
  | [], b => by simp
  | y :: r, b => by
    rw [List.foldl_cons, fold_and p r, List.any_cons]
    cases b <;> cases p y <;> simp
theorem fold_puts [Inhabited α] {m : List (Tx × α)} (d : α) : ∀ {r l : List (Tx × α)}, (∀ q ∈ r, dget m q.1 = some q.2) → (dkeys (l ++ r)).Nodup → (dkeys r).foldl (fun s y => dput s y ((dget m y).getD d)) l = l ++ r
  | [], l, _, _ => by simp [dkeys]
  | p :: r, l, h, hn => by
    have hk : p.1 ∉ dkeys l := fun z => by
      rw [dkeys_app, List.nodup_append] at hn
      exact hn.2.2 _ z _ List.mem_cons_self rfl
    show (dkeys r).foldl _ (dput l p.1 ((dget m p.1).getD d)) = _
    rw [h p List.mem_cons_self, put_new hk]
    show (dkeys r).foldl _ (l ++ [p]) = _
    rw [fold_puts d (r := r) (l := l ++ [p]) (fun q hq => h q (List.mem_cons_of_mem _ hq)) (by rw [List.append_assoc]; exact hn), List.append_assoc]
    rfl
end
end Vf

/-! Own layer, exceptions: a list comprehension within an except suite. -/
namespace Vf
open PySem PySem.Spec PyProof.Rows L2 TL Evl HotX
section
variable {prog : Program} {w : World} {A : Around} {E : Value → Shared → Prop} {s : Shared}
/-- a list's iterator at its end, while an exception is handled -/
theorem lend_hot {it l x1 : Addr} {i : Nat} {items : Array Value} {Q : Option Value → Shared → Prop} (hot : HotAt A x1 s.heap) (hne : it ≠ x1) (hit : s.heap.IsListIter it l i) (hl : s.heap.IsList l items) (hx : items[i]? = none)
    (hQ : ∀ h', (∀ b o, b ≠ it → s.heap.get? b = some o → h'.get? b = some o) → Q none { s with heap := h' }) : wpAny (model prog w) A (pyNext (.ref it)) Q E s := by
  obtain ⟨o, ho, hc, hd⟩ := id hit
  obtain ⟨ol, hol, _, nl, hdl⟩ := hl
  obtain ⟨hh, o1, vs1, h1, d1, c1⟩ := hot
  unfold pyNext
  refine wpAny_bind (wpAny_attempt (wpAny_callSpecial?_slot (name := Str.ofString "__next__") hit.typeIs slot_listiter_next (wpAny_call_entry slot_listiter_next hit.typeIs entry_listiter_next ?_ (args_listiter_next _))))
  show wpAny _ _ (field (.ref it) 0 >>= _) _ _ s; refine wpAny_bind (wpAny_field ho hd (x := .ref l) rfl ?_); show wpAny _ _ (if (Value.ref l == Value.none) = true then _ else _) _ _ s; rw [if_neg (show ¬ ((Value.ref l == Value.none) = true) from Bool.false_ne_true)]
  show wpAny _ _ (field (.ref it) 1 >>= _) _ _ s; refine wpAny_bind (wpAny_field ho hd (x := .int i 0) rfl ?_); show wpAny _ _ (seqItems? (.ref l) >>= _) _ _ s; refine wpAny_bind (wpAny_seqItems hol hdl ?_)
  simp only [Int.toNat_natCast, hx]; refine wpAny_bind (wpAny_rule (wpAny_bind (wpAny_setField ho hd (by simp) ?_)))
  have h1b : (s.heap.update it (Obj.mapFields (·.setIfInBounds 0 .none))).get? x1 = some o1 := (Heap.get?_update_other _ _ hne).trans h1
  show wpAny _ _ (newExc (.type "StopIteration") [] >>= _) _ _ _; refine wpAny_bind ?_; simp only [newExc, newTuple]; refine wpAny_bind (wpAny_newObj_type ?_ (by size_fits))
  refine wpAny_bind (m := firstArgMember _ _) (wpAny_of_eq (a := Value.none) (by first | rfl | (simp only [firstArgMember]; rfl)) ?_); refine wpAny_newObj_type ?_ (by size_fits)
  refine raiseNew_hot ⟨hh, o1, vs1, Heap.get?_push_of_some _ (Heap.get?_push_of_some _ h1b), d1, c1⟩ (Nat.ne_of_lt (Heap.lt_size (Heap.get?_push_of_some _ h1b))) (Heap.get?_push_size _ rfl) rfl (by first | (simp; done) | (simp; omega) | (simp only [Array.size_append]; simp; omega)) ?_
  refine wpAny_bind (wpAny_isInstance (T := "StopIteration") (b := true) ⟨_, Heap.get?_update_self _ (Heap.get?_push_size _ rfl) rfl, rfl⟩ isSubtype_stop ?_)
  refine wpAny_pure (hQ _ fun b o2 hb e => ?_)
  have e2 : (s.heap.update it (Obj.mapFields (·.setIfInBounds 0 .none))).get? b = some o2 := (Heap.get?_update_other _ _ (Ne.symm hb)).trans e
  exact (Heap.get?_update_other _ _ (Nat.ne_of_gt (Heap.lt_size (Heap.get?_push_of_some _ e2)))).trans (Heap.get?_push_of_some _ (Heap.get?_push_of_some _ e2))
/-- a tuple's iterator at its end -/
theorem tend_hot {it t x1 : Addr} {i : Nat} {items : Array Value} {Q : Option Value → Shared → Prop} (hot : HotAt A x1 s.heap) (hne : it ≠ x1) (hit : IsTupIter s.heap it t i) (ht : IsTup s.heap t items) (hx : items[i]? = none)
    (hQ : ∀ h', (∀ b o, b ≠ it → s.heap.get? b = some o → h'.get? b = some o) → Q none { s with heap := h' }) : wpAny (model prog w) A (pyNext (.ref it)) Q E s := by
  obtain ⟨o, ho, hc, hd⟩ := id hit
  obtain ⟨ol, hol, _, nl, hdl⟩ := ht
  obtain ⟨hh, o1, vs1, h1, d1, c1⟩ := hot
  unfold pyNext
  refine wpAny_bind (wpAny_attempt (wpAny_callSpecial?_slot (name := Str.ofString "__next__") hit.typeIs slot_tupleiter_next (wpAny_call_entry slot_tupleiter_next hit.typeIs entry_tupleiter_next ?_ (args_tupleiter_next _))))
  show wpAny _ _ (field (.ref it) 0 >>= _) _ _ s; refine wpAny_bind (wpAny_field ho hd (x := .ref t) rfl ?_); show wpAny _ _ (if (Value.ref t == Value.none) = true then _ else _) _ _ s; rw [if_neg (show ¬ ((Value.ref t == Value.none) = true) from Bool.false_ne_true)]
  show wpAny _ _ (field (.ref it) 1 >>= _) _ _ s; refine wpAny_bind (wpAny_field ho hd (x := .int i 0) rfl ?_); show wpAny _ _ (seqItems? (.ref t) >>= _) _ _ s; refine wpAny_bind (wpAny_seqItems hol hdl ?_)
  simp only [Int.toNat_natCast, hx]; refine wpAny_bind (wpAny_rule (wpAny_bind (wpAny_setField ho hd (by simp) ?_)))
  have h1b : (s.heap.update it (Obj.mapFields (·.setIfInBounds 0 .none))).get? x1 = some o1 := (Heap.get?_update_other _ _ hne).trans h1
  show wpAny _ _ (newExc (.type "StopIteration") [] >>= _) _ _ _; refine wpAny_bind ?_; simp only [newExc, newTuple]; refine wpAny_bind (wpAny_newObj_type ?_ (by size_fits))
  refine wpAny_bind (m := firstArgMember _ _) (wpAny_of_eq (a := Value.none) (by first | rfl | (simp only [firstArgMember]; rfl)) ?_); refine wpAny_newObj_type ?_ (by size_fits)
  refine raiseNew_hot ⟨hh, o1, vs1, Heap.get?_push_of_some _ (Heap.get?_push_of_some _ h1b), d1, c1⟩ (Nat.ne_of_lt (Heap.lt_size (Heap.get?_push_of_some _ h1b))) (Heap.get?_push_size _ rfl) rfl (by first | (simp; done) | (simp; omega) | (simp only [Array.size_append]; simp; omega)) ?_
  refine wpAny_bind (wpAny_isInstance (T := "StopIteration") (b := true) ⟨_, Heap.get?_update_self _ (Heap.get?_push_size _ rfl) rfl, rfl⟩ isSubtype_stop ?_)
  refine wpAny_pure (hQ _ fun b o2 hb e => ?_)
  have e2 : (s.heap.update it (Obj.mapFields (·.setIfInBounds 0 .none))).get? b = some o2 := (Heap.get?_update_other _ _ (Ne.symm hb)).trans e
  exact (Heap.get?_update_other _ _ (Nat.ne_of_gt (Heap.lt_size (Heap.get?_push_of_some _ e2)))).trans (Heap.get?_push_of_some _ (Heap.get?_push_of_some _ e2))
theorem hot_keep {x1 : Addr} {h h2 : Heap} (hot : HotAt A x1 h) (k : ∀ b o, h.get? b = some o → h2.get? b = some o) : HotAt A x1 h2 := by
  obtain ⟨hh, o1, vs1, h1, d1, c1⟩ := hot
  exact ⟨hh, o1, vs1, k _ _ h1, d1, c1⟩
theorem hot_lt {x1 : Addr} {h : Heap} (hot : HotAt A x1 h) : x1 < h.objs.size := by
  obtain ⟨hh, o1, vs1, h1, d1, c1⟩ := hot
  exact Heap.lt_size h1
/-- a, b = t within an except suite -/
theorem unpack_hot {t x1 : Addr} {items : Array Value} {targets : List (Bool × (Value → Sem Unit))} {Q : Unit → Shared → Prop} (hot : HotAt A x1 s.heap) (ht : IsTup s.heap t items) (hn : targets.length = items.size) (hstar : targets.findIdx? (·.1) = none)
    (h : ∀ h', (∀ b o, s.heap.get? b = some o → h'.get? b = some o) → wpAny (model prog w) A (assignInOrder (targets.map (·.2)) items.toList) Q E { s with heap := h' }) : wpAny (model prog w) A (unpack (.ref t) targets) Q E s := by
  have hlt : t ≠ s.heap.objs.size := by obtain ⟨o, ho, _⟩ := ht; exact Nat.ne_of_lt (Heap.lt_size ho)
  have hx1 := hot_lt hot
  unfold unpack; rw [hn, hstar]
  refine wpAny_bind (wpAny_holding ?_)
  unfold unpackItems; refine wpAny_bind ?_; unfold notIterableAtAll
  refine wpAny_bind (wpAny_specialOf ht.typeIs slot_tuple_iter.lookup (wpAny_pure ?_))
  simp only [Bool.false_eq_true, if_false]; refine wpAny_bind (wpAny_holding (iter_tuple ht ?_))
  refine wpAny_bind (wpAny_holding (draw_tuple hlt items.size 0 _ _ ⟨_, Heap.get?_push_size _ rfl, rfl, rfl⟩ (ht.push _) (by omega) fun h3 hit3 hs3 => ?_))
  have hall : List.take items.size (List.drop 0 items.toList) = items.toList := (by rw [List.drop_zero]; exact List.take_of_length_le (by simp))
  rw [hall, if_neg (by simp)]
  have ht3 : IsTup h3 t items := (ht.push _).extBut hs3.extBut hlt
  have k3 : ∀ b o, s.heap.get? b = some o → h3.get? b = some o := fun b o e => hs3.extBut b o (Nat.ne_of_lt (Heap.lt_size e)) (Heap.get?_push_of_some _ e)
  refine wpAny_bind (wpAny_holding (tend_hot (s := { s with heap := h3 }) (hot_keep hot k3) (Nat.ne_of_gt hx1) hit3 ht3 (by simp) fun h4 he4 => ?_))
  simp only [Option.isSome_none, Bool.false_eq_true, if_false]
  exact wpAny_pure (h h4 fun b o e => he4 b o (Nat.ne_of_lt (Heap.lt_size e)) (k3 b o e))
end

section
variable {X : Cx}
theorem hot_pin {p : Addr × Obj} {pins : List (Addr × Obj)} {σ : L2.St} {H : Hp} {s : Shared} (h : L2H.Hot1 X.A p) (I : Inv X pins σ H s) (hp : p ∈ X.pn ++ pins) : HotAt X.A p.1 s.heap := by
  obtain ⟨hh, v1, e1, c1⟩ := h
  exact ⟨hh, p.2, v1, (I.pin p hp).1, e1, c1⟩
/-- the context of a block within an except suite -/
abbrev blkH (X : Cx) (p : Addr × Obj) (s : Shared) (H : Hp) (scope : Scope) (cenv : Env) (fp : List Addr) : Cx := { X.blk s H scope cenv fp with pn := [p] }
theorem inv_pn {X : Cx} {p : Addr × Obj} {s0 : Shared} {H0 : Hp} {scope : Scope} {cenv : Env} {fp : List Addr} {σ : L2.St} {H : Hp} {s : Shared} (I : Inv (X.blk s0 H0 scope cenv fp) [p] σ H s) : Inv (blkH X p s0 H0 scope cenv fp) [] σ H s :=
  ⟨⟨I.ok.mod, I.ok.kind, I.ok.glob, I.ok.blt, I.ok.above, I.ok.inj, I.ok.has, I.ok.cab, I.ok.hd, I.ok.frames, I.ok.stk, I.ok.exf, I.ok.bs, I.ok.bsz, I.ok.noex, I.ok.exfs, I.ok.funs, I.ok.frf⟩, I.os, I.bare, I.base, I.loc, I.cell, I.free, I.freeC, I.pin, I.hok, I.len⟩
/-- (a, b, ..) = a tuple, within an except suite -/
theorem pg_tupH {es : List Expr} {k n : Nat} {t : TGs} {pos : Pos} (hc : L2H.HotC X) (h : PGs X es t) (hn : (assignEach es X.env).length = n := by rfl) (hst : (assignEach es X.env).findIdx? (·.1) = none := by rfl) : PG X (.Tuple es k pos) (gTup X.K n t) := by
  refine ⟨fun pins s σ H v u Q I r hw => ?_⟩
  obtain ⟨x1, hot⟩ := hc.at I
  obtain ⟨a, xs, e1, hq, hl, hw⟩ := hw; subst e1; cases r
  obtain ⟨its, rv, ht, hz⟩ := I.tuple hq
  rw [PyProof.Rows.assign_Tuple]
  refine wpAny_bind (wpAny_standAt (unpack_hot hot ht (by simp [hn, ← hl, rv.length]) hst fun h2 hx => ?_))
  exact h.run pins _ σ H xs _ Q (I.kept (t' := s.toks) fun b o e => hx b o e) (by simpa using rv) hw
/-- the handled exception stays where it is while a block runs -/
theorem pin_blk {p : Addr × Obj} {pins : List (Addr × Obj)} {σ σ2 : L2.St} {H : Hp} {s s4 : Shared} {scope : Scope} {ce : Env} {fp : List Addr} (I : Inv X pins σ H s) (hp : p ∈ X.pn ++ pins) (J : Inv (X.blk s H scope ce fp) [] σ2 H s4)
    (k : ∀ b o, s.heap.get? b = some o → s4.heap.get? b = some o) (hL : s.heap.objs.size ≤ ce.locals) : Inv (X.blk s H scope ce fp) [p] σ2 H s4 :=
  J.pins_of fun q hq => by
    have e : q = p := List.mem_singleton.mp hq
    subst e
    obtain ⟨g, n, l, f, c⟩ := I.pin q hp
    refine ⟨k _ _ g, n, Nat.ne_of_lt (Nat.lt_of_lt_of_le (Heap.lt_size g) hL), ?_, c⟩
    show q.1 ∉ frs X.stack
    rcases I.ok.stk with e | ⟨e, ef⟩
    · rw [e]
      exact f
    · rw [e]
      intro hm
      obtain ⟨en, he, z⟩ := List.mem_filterMap.mp hm
      rcases List.mem_cons.mp he with e2 | e2
      · rw [e2, ef] at z
        exact l (Option.some.inj z).symm
      · exact f (List.mem_filterMap.mpr ⟨en, e2, z⟩)
/-- the list's iterator's turns while an exception is handled -/
theorem item_hot {tg : Expr} {a it : Addr} {i : Nat} {pins : List (Addr × Obj)} {s : Shared} {σ : L2.St} {H : Hp} {E : Value → Shared → Prop} (I : Inv X pins σ H s) (hf : FpOk X pins H it) (st : s.heap.IsListIter it a i) (hg : (Itl X.K a).go i H) :
    wpAny (model X.prog X.w) X.A (pyNext (.ref it)) (fun r s1 => ∃ u, r = some u ∧ wpAny (model X.prog X.w) X.A (letOwnedTupleGo tg (.ref it) u) (fun _ s2 => ∃ x, Inv X pins σ H s2 ∧ RelV x u ∧ (Itl X.K a).yld i H x H ∧ s2.heap.IsListIter it a (i + 1)) E s1) E s := by
  obtain ⟨xs, x, hq, hx⟩ := hg
  obtain ⟨its, rv, ph, hz⟩ := I.list hq
  obtain ⟨u, hu, ru⟩ := rv.get hx
  obtain ⟨f0, f1, f2, f3, f4, f5⟩ := hf
  refine wpAny_pyNext_list_item st ph.isList (x := u) (by simpa using hu) fun h2 st2 sb => ?_
  have J : Inv X pins σ H { s with heap := h2 } := I.turned (t' := s.toks) (fun b o hb e => (sb.2 b hb).trans e) f0 f1 f3 f4 f5
  obtain ⟨o, e, c, d⟩ := id st2
  exact ⟨u, rfl, go_of (s := { s with heap := h2 }) e c d (by decide) ⟨x, J, ru, ⟨rfl, fun ys hy => by rw [I.list_inj hy hq]; exact hx⟩, st2⟩⟩
theorem done_hot {a it x1 : Addr} {i : Nat} {pins : List (Addr × Obj)} {s : Shared} {σ : L2.St} {H : Hp} {E : Value → Shared → Prop} (hot : HotAt X.A x1 s.heap) (hne : it ≠ x1) (I : Inv X pins σ H s) (hf : FpOk X pins H it) (st : s.heap.IsListIter it a i) (hg : (Itl X.K a).stop i H) :
    wpAny (model X.prog X.w) X.A (pyNext (.ref it)) (fun r s1 => r = none ∧ Inv X pins σ H s1) E s := by
  obtain ⟨xs, hq, hx⟩ := hg
  obtain ⟨its, rv, ph, hz⟩ := I.list hq
  obtain ⟨f0, f1, f2, f3, f4, f5⟩ := hf
  have hl := rv.length
  exact lend_hot hot hne st ph.isList (by simp; omega) fun h2 eb => ⟨rfl, I.turned (t' := s.toks) (fun b o hb e => eb b o hb e) f0 f1 f3 f4 f5⟩
/-- a list comprehension within an except suite -/
theorem pe_lcH0 {elt tg l : Expr} {ifs : List Expr} {scope : Scope} {own : List (Str × Nat)} {pos : Pos} {tl : TE} {g : TG} {tt : TT} {te : TE} {p : Addr × Obj} (hp1 : L2H.Hot1 X.A p) (hp2 : p ∈ X.pn) (hN : X.N.Nodup) (hl : PE X l tl) (ok : BlkOk X.N X.env.scope scope own)
    (hg : ∀ (s : Shared) (H : Hp) (C : Addr) (cl : List (Str × Addr)) (fp : List Addr), PG (blkH X p s H scope (compEnvC scope cl C X.env) fp) tg g)
    (ht : ∀ (s : Shared) (H : Hp) (C : Addr) (cl : List (Str × Addr)) (fp : List Addr), PTs (blkH X p s H scope (compEnvC scope cl C X.env) fp) ifs tt)
    (he : ∀ (s : Shared) (H : Hp) (C : Addr) (cl : List (Str × Addr)) (fp : List Addr), PE (blkH X p s H scope (compEnvC scope cl C X.env) fp) elt te)
    (hs : ∀ x, foldedSetIterable l X.env x = pure x := by intro _; rfl) : PE X (.ListComp elt [⟨tg, l, ifs, 0⟩] scope pos) (tLc (iList X.K tl) g tt te (own.map (·.2))) := by
  refine ⟨fun pins s σ H Q I h => ?_⟩
  have hcap : ∀ y ∈ scope.names, y.2 = .free → ∃ c, X.env.cells.lookup y.1 = some c := fun y hy e => (ok.free y hy e).elim (fun k => I.ok.has _ (.inl k)) (fun k => I.ok.has _ (.inr k))
  rw [eval_ListComp]
  refine wpAny_comprehension_free (use := none) rfl hs (closure_ok hcap) ok.kind (fun y hy e => by rw [ok.uniq y hy, e]) (thn (hl.run pins s σ H _ I h) fun v s1 ⟨x, H2, I1, r1, q1⟩ => ?_)
  obtain ⟨a, e, ⟨xs, hq⟩, q⟩ := q1; subst e; cases r1
  obtain ⟨its, rv, ph, hz⟩ := I1.list hq
  refine wpAny_pyIter_list ph.isList ?_
  -- the iterator stands
  generalize hit : s1.heap.objs.size = it
  generalize hs2 : ({ s1 with heap := s1.heap.push { cls := .type "list_iterator", data := .fields #[.ref a, .int 0 0] } } : Shared) = s2
  have iv2 : Inv X pins σ H2 s2 := by
    rw [← hs2]
    exact I1.kept (t' := s1.toks) fun b o e => Heap.get?_push_of_some _ e
  have st2 : s2.heap.IsListIter it a 0 := by
    rw [← hs2, ← hit]
    exact ⟨_, Heap.get?_push_size _ rfl, rfl, rfl⟩
  have ff2 : FpOk X pins H2 it := by
    have z := I1.fpOk (H' := H2) (Nat.le_of_eq hit) (I1.hok.fresh (Nat.le_of_eq hit))
    exact z
  have it2 : it < s2.heap.objs.size := by
    obtain ⟨o, e, _⟩ := st2
    exact Heap.lt_size e
  refine wpAny_newObj_type (newEnv_comp ?_) (Nat.zero_le _)
  generalize hD : s2.heap.objs.size = D
  obtain ⟨W, ⟨m0, w0⟩, turn⟩ := q D (iv2.hok.fresh (Nat.le_of_eq hD))
  generalize hs3 : ({ s2 with heap := s2.heap.push { cls := .type "list", data := .seq ([] : List Value).toArray } } : Shared) = s3
  have iv3 : Inv X pins σ (upd H2 D (.lst [])) s3 := by
    rw [← hs3]
    exact iv2.laid (t' := s2.toks) (fun b o e => Heap.get?_push_of_some _ e) (Nat.le_of_eq hD) ⟨Nat.zero_le _, [], 0, .nil, (by rw [← hD]; exact Heap.get?_push_size _ rfl)⟩
  have hp3 : s3.heap = s2.heap.push { cls := .type "list", data := .seq ([] : List Value).toArray } := (by rw [← hs3])
  have it3 : it < s3.heap.objs.size := (by rw [hp3, Heap.size_push]; exact Nat.lt_succ_of_lt it2)
  have st3 : s3.heap.IsListIter it a 0 := by
    obtain ⟨o, e, c, d⟩ := st2
    exact ⟨o, (by rw [hp3]; exact Heap.get?_push_of_some _ e), c, d⟩
  have ff3 : FpOk X pins (upd H2 D (.lst [])) it := ⟨(by rw [upd_ne (by rw [← hD]; exact Nat.ne_of_lt it2)]; exact ff2.1), ff2.2⟩
  have iv4 := block_start (fp := [it]) iv3 ok hN (fun b hb => by rw [List.mem_singleton.mp hb]; exact ⟨ff3, it3⟩)
  have pg := hg s3 (upd H2 D (.lst [])) s3.heap.objs.size (cellsFrom (s3.heap.objs.size + 1) scope.names (cloFrom X.env.cells scope.names [])) [it]
  have pt := ht s3 (upd H2 D (.lst [])) s3.heap.objs.size (cellsFrom (s3.heap.objs.size + 1) scope.names (cloFrom X.env.cells scope.names [])) [it]
  have pe := he s3 (upd H2 D (.lst [])) s3.heap.objs.size (cellsFrom (s3.heap.objs.size + 1) scope.names (cloFrom X.env.cells scope.names [])) [it]
  show codeAny _ _ (.compStart (.ListComp elt [⟨tg, l, ifs, 0⟩] scope pos) 0 (.ref it) (.ref D) (compEnvC scope (cellsFrom (s3.heap.objs.size + 1) scope.names (cloFrom X.env.cells scope.names [])) s3.heap.objs.size X.env)) (compPost (model X.prog X.w) X.A X.xe none (EP X pins σ Q) (.ref D) s3.heap.objs.size) { s3 with heap := pushCells (s3.heap.push { cls := .type "dict", data := .dict #[] }) scope.names }
  generalize hce : compEnvC scope (cellsFrom (s3.heap.objs.size + 1) scope.names (cloFrom X.env.cells scope.names [])) s3.heap.objs.size X.env = ce at iv4 pg pt pe ⊢
  have cL : ce.locals = s3.heap.objs.size := (by subst hce; rfl)
  generalize hH3 : upd H2 D (.lst []) = H3 at iv3 iv4 pg pt pe w0 ff3
  have k4 : ∀ b o, s3.heap.get? b = some o → (pushCells (s3.heap.push { cls := .type "dict", data := .dict #[] }) scope.names).get? b = some o := fun b o e => pushCells_keeps _ _ _ _ (Heap.get?_push_of_some _ e)
  generalize hs4 : ({ s3 with heap := pushCells (s3.heap.push { cls := .type "dict", data := .dict #[] }) scope.names } : Shared) = s4 at iv4 ⊢
  have k4b : ∀ b o, s3.heap.get? b = some o → s4.heap.get? b = some o := (by rw [← hs4]; exact k4)
  have st4 : s4.heap.IsListIter it a 0 := (by obtain ⟨o, e, c, d⟩ := st3; exact ⟨o, k4b _ _ e, c, d⟩)
  have iv4p := inv_pn (pin_blk (p := p) iv3 (List.mem_append_left _ hp2) iv4 k4b (Nat.le_of_eq cL.symm))
  have hnep : p.1 ≠ it := ff2.2.2.2.2.2 p (List.mem_append_left _ hp2)
  have stat : ∀ {τ : L2.St} {H' : Hp} {s' : Shared}, Inv (blkH X p s3 H3 scope ce [it]) [] τ H' s' → H' it = none → FpOk (blkH X p s3 H3 scope ce [it]) [] H' it := fun {τ H' s'} J hn =>
    ⟨hn, (J.ok.exf it List.mem_cons_self).1, J.ok.exfs it List.mem_cons_self, .inl List.mem_cons_self, fun x c e => (J.ok.exf it List.mem_cons_self).2 x c e, fun r hr => by
      have e : r = p := List.mem_singleton.mp hr
      rw [e]
      exact hnep⟩
  have loop : codeAny (model X.prog X.w) X.A (.compLoop (.ListComp elt [⟨tg, l, ifs, 0⟩] scope pos) 0 (.ref it) (.ref D) ce) (compPost (model X.prog X.w) X.A X.xe none (EP X pins σ Q) (.ref D) s3.heap.objs.size) s4 := by
    refine compLoop_any (fun n s' => ∃ i H', Inv (blkH X p s3 H3 scope ce [it]) [] (wipe σ (own.map (·.2))) H' s' ∧ s'.heap.IsListIter it a i ∧ H' it = none ∧ W i n H') ?_ m0 ⟨0, H3, iv4p, st4, ff3.1, w0⟩
    rintro n s5 ⟨i, H5, iv5, st5, n5, w5⟩
    rcases turn i n H5 w5 with ⟨stop, qq⟩ | ⟨go, Nx, hNx, step⟩
    · have td := done_hot (E := fun _ _ => False) (hot_pin (X := blkH X p s3 H3 scope ce [it]) hp1 iv5 (List.mem_singleton.mpr rfl)) (Ne.symm hnep) iv5 (stat iv5 n5) st5 stop
      refine thnF td fun r s6 ⟨hr, iv6⟩ => ?_
      subst hr
      have iv7 : Inv X pins σ H5 s6 := iv3.call' (ch := [it]) iv6.os iv6.base iv6.hok iv6.bare fun b hb => by
        rw [List.mem_singleton.mp hb]
        exact ⟨ff3.2.2.2.1, ff3.2.1, ff3.2.2.2.2.1, ff3.2.2.2.2.2⟩
      have nC : H5 s3.heap.objs.size = none := (by have z : H5 ce.locals = none := iv6.free; rw [cL] at z; exact z)
      obtain ⟨m, hn, _⟩ := iv6.loc
      have hn : s6.heap.Ns ce.locals m := hn
      rw [cL] at hn
      have fc := iv3.fpOk (Nat.le_refl _) nC
      obtain ⟨f0, f1, f2, f3, f4, f5⟩ := fc
      exact ⟨m, hn, fun h3 sb => ⟨.ref D, H5, iv7.turned (t' := s6.toks) (fun b o hb e => (sb.2 b hb).trans e) f0 f1 f3 f4 f5, rfl, qq⟩⟩
    · have ti := item_hot (X := blkH X p s3 H3 scope ce [it]) (tg := tg) (E := fun _ _ => False) iv5 (stat iv5 n5) st5 go
      refine thnF ti fun r s6 ⟨u, hr, h6⟩ => ?_
      subst hr
      refine thnF h6 fun _ s7 ⟨x, iv7, r7, y7, st7⟩ => ?_
      have iv7p := iv7.pinned (fp := [it]) (fun b hb => by rw [List.mem_singleton.mp hb]; exact stat iv7 n5) (fun b hb => by
        obtain ⟨o, e, c, d⟩ := st7
        rw [List.mem_singleton.mp hb]
        exact ⟨o, e, fun v z => by rw [d] at z; cases z⟩)
      refine thnF (pg.run _ s7 _ H5 x u _ iv7p r7 (step x H5 y7)) fun _ s8 ⟨σ8, H8, iv8, hw8, q8⟩ => ?_
      refine thnF (pt.run _ s8 σ8 H8 _ iv8 q8) fun b s9 ⟨H9, iv9, q9⟩ => ?_
      have fin : ∀ {s' : Shared} {H' : Hp}, Inv (blkH X p s3 H3 scope ce [it]) ([] ++ pinsAt [it] s7.heap) σ8 H' s' → Nx H' → ∃ m, m < n ∧ ∃ i H', Inv (blkH X p s3 H3 scope ce [it]) [] (wipe σ (own.map (·.2))) H' s' ∧ s'.heap.IsListIter it a i ∧ H' it = none ∧ W i m H' := fun {s' H'} J nx => by
        obtain ⟨m2, hm, w2⟩ := hNx H' nx
        obtain ⟨o7, e7, c7, d7⟩ := st7
        have z := J.pin (it, o7) (List.mem_append_right _ (List.mem_append_right _ (mem_pinsAt (List.mem_singleton.mpr rfl) e7)))
        refine ⟨m2, hm, i + 1, H', (J.unpinned (pins := [])).weak (by rw [← hw8, wipe_length]) (fun j v e => ?_), ⟨o7, z.1, c7, d7⟩, z.2.1, w2⟩
        rw [← hw8] at e
        exact (wipe_some e).1
      cases b with
      | false =>
        simp only [Bool.false_eq_true, if_false] at q9 ⊢
        exact fin iv9 q9
      | true =>
        simp only [if_true] at q9 ⊢
        refine thnF (pe.run _ s9 σ8 H9 _ iv9 q9) fun z s10 ⟨yv, H10, iv10, r10, acc, hD10, hz10, nx⟩ => ?_
        exact app_ok (X := blkH X p s3 H3 scope ce [it]) iv10 hD10 hz10 r10 fun s11 iv11 => fin iv11 nx
  exact codeAny_compStart_list loop (wpAny_pyIter_listiter st4 loop)
/-- the same, the written part named -/
theorem pe_lcH (K : PySem.W.Frag) {elt tg l : Expr} {ifs : List Expr} {scope : Scope} {own : List (Str × Nat)} {pos : Pos} {tl : TE} {g : TG} {tt : TT} {te : TE} {p : Addr × Obj} (hp1 : L2H.Hot1 X.A p) (hp2 : p ∈ X.pn) (hN : X.N.Nodup) (hl : PE X l tl) (ok : BlkOk X.N X.env.scope scope own)
    (hg : ∀ (s : Shared) (H : Hp) (C : Addr) (cl : List (Str × Addr)) (fp : List Addr), PG (blkH X p s H scope (compEnvC scope cl C X.env) fp) tg g)
    (ht : ∀ (s : Shared) (H : Hp) (C : Addr) (cl : List (Str × Addr)) (fp : List Addr), PTs (blkH X p s H scope (compEnvC scope cl C X.env) fp) ifs tt)
    (he : ∀ (s : Shared) (H : Hp) (C : Addr) (cl : List (Str × Addr)) (fp : List Addr), PE (blkH X p s H scope (compEnvC scope cl C X.env) fp) elt te)
    (hs : ∀ x, foldedSetIterable l X.env x = pure x := by intro _; rfl) (h : X.K = K := by rfl) : PE X (.ListComp elt [⟨tg, l, ifs, 0⟩] scope pos) (tLc (iList K tl) g tt te (own.map (·.2))) := h ▸ pe_lcH0 hp1 hp2 hN hl ok hg ht he hs
theorem pg_tupHK (K : PySem.W.Frag) {es : List Expr} {k n : Nat} {t : TGs} {pos : Pos} (hc : L2H.HotC X) (h : PGs X es t) (hn : (assignEach es X.env).length = n := by rfl) (hst : (assignEach es X.env).findIdx? (·.1) = none := by rfl) (h2 : X.K = K := by rfl) : PG X (.Tuple es k pos) (gTup K n t) := h2 ▸ pg_tupH hc h hn hst
end
end Vf

/-! Own layer: pairs, defs that raise, what is caught. -/
namespace Vf
open PySem PySem.Spec PyProof.Rows L2 TL Evl
section
variable {K : PySem.W.Frag} {σ : L2.St} {H H' : Hp} {ta : TA} {tb te td : TE} {D : Ends} {tz : TS} {l l2 : List (List V)} {xs : List V} {p : Addr}
/-! ## written lists of tuples -/
def EvR (K : PySem.W.Frag) (ta : TA) (σ : L2.St) (H : Hp) (l : List (List V)) : Prop := ∀ H1, Ex H H1 → ∀ Q : List V → Hp → Prop, (∀ ts H2, Ex H1 H2 → TupsAt K H2 ts l → Q (ts.map V.ref) H2) → ta σ H1 Q
theorem er_nil : EvR K tNil σ H [] := fun H1 _ _ q => q [] H1 (Ex.refl H1) .nil
theorem er_cons (h : EvU te σ H xs) (hr : EvR K ta σ H l) : EvR K (tCons te ta) σ H (xs :: l) := fun H1 e _ q => h H1 e _ fun p H2 _ e2 hp => hr H2 (e.trans e2) _ fun ts H3 e3 ht => q (p :: ts) H3 (e2.trans e3) (.cons (st_of (e3 p _ hp)) ht)
theorem paired_len {α β : Type} {F : α → β → Prop} : ∀ {a : List α} {b : List β}, Paired F a b → a.length = b.length
  | _, _, .nil => rfl
  | _, _, .cons _ r => congrArg (· + 1) (paired_len r)
theorem paired_app {α β : Type} {F : α → β → Prop} : ∀ {a c : List α} {b d : List β}, Paired F a b → Paired F c d → Paired F (a ++ c) (b ++ d)
  | _, _, _, _, .nil, h => h
  | _, _, _, _, .cons x r, h => .cons x (paired_app r h)
theorem u2_lst (h : EvR K ta σ H l) (hz : l.length ≤ 100000) : EvU2 K (tLst ta) σ H l := fun H1 e Q q =>
  h H1 e _ fun ts H2 e2 ht => ⟨sz_of (by rw [List.length_map, paired_len ht]; exact hz), fun p np => q p _ (fresh_back e2 np) (e2.trans (Ex.new np)) ⟨ts, upd_same, tups_mono (fun _ _ => ex_t (Ex.new np)) ht⟩⟩
theorem u2_cat (ha : Ev te σ H (.ref p)) (h : IsLU K H p l) (hb : EvU2 K tb σ H l2) (hz : l.length + l2.length ≤ 100000) : EvU2 K (tOp rCat te tb) σ H (l ++ l2) := fun H1 e Q q =>
  ha H1 e _ fun H2 e2 => hb H2 (e.trans e2) _ fun r H3 _ e3 hr => by
    obtain ⟨ts, h1, h2⟩ := h.ex ((e.trans e2).trans e3)
    obtain ⟨us, h3, h4⟩ := hr
    exact ⟨p, r, _, _, rfl, rfl, h1, h3, by rw [List.length_map, List.length_map, paired_len h2, paired_len h4]; exact sz_of hz, fun z nz =>
      q z _ (fresh_back (e2.trans e3) nz) ((e2.trans e3).trans (Ex.new nz)) ⟨ts ++ us, by rw [upd_same, List.map_append], tups_mono (fun _ _ => ex_t (Ex.new nz)) (paired_app h2 h4)⟩⟩
/-! ## pairs of a text and a bool -/
def pb (l : List (Tx × Bool)) : List (List V) := l.map fun q => [vs q.1, V.bl q.2]
theorem pb_app (a b : List (Tx × Bool)) : pb (a ++ b) = pb a ++ pb b := List.map_append
/-- the words that fit -/
def fit (l : List (Tx × Bool)) : List Tx := (l.filter (·.2)).map (·.1)
theorem fit_snoc (l : List (Tx × Bool)) (q : Tx × Bool) : fit (l ++ [q]) = fit l ++ (if q.2 = true then [q.1] else []) := by
  unfold fit
  rw [List.filter_append, List.map_append]
  congr 1
  cases h : q.2
  · rw [List.filter_cons, h]
    rfl
  · rw [List.filter_cons, h]
    rfl
theorem fit_le (l : List (Tx × Bool)) : (fit l).length ≤ l.length := by
  unfold fit
  rw [List.length_map]
  exact List.length_filter_le _ _
theorem tup_at {ts : List Addr} {i : Nat} {x : V} : ∀ {l : List (List V)} {i : Nat} {ts : List Addr}, TupsAt K H ts l → (ts.map V.ref)[i]? = some x → ∃ t q, x = .ref t ∧ l[i]? = some q ∧ SqT K H t q
  | _, i, _, .nil, h => by simp at h
  | _, 0, _, .cons (a := t) (b := q) a r, h => by
    simp only [List.map_cons, List.getElem?_cons_zero, Option.some.injEq] at h
    exact ⟨t, q, h.symm, rfl, a⟩
  | _, i + 1, _, .cons (a := t) (b := q) a r, h => by
    simp only [List.map_cons, List.getElem?_cons_succ] at h
    obtain ⟨t2, q2, e, e2, f⟩ := tup_at (ts := ts) (i := i) r h
    exact ⟨t2, q2, e, by rw [List.getElem?_cons_succ]; exact e2, f⟩
/-- [word for word, fits in some if fits] -/
theorem l_fit {m : List (Tx × Bool)} {i j : Nat} {ws : List Nat} (h : Ev td σ H (.ref p)) (hp : IsLU K H p (pb m)) (hz : m.length ≤ 40000)
    (hw : ∀ w b, wipe (((wipe σ ws).set i (some w)).set j (some b)) ws = wipe σ ws) (hi : ∀ w b, (((wipe σ ws).set i (some w)).set j (some b))[i]? = some (some w)) (hj : ∀ w b, (((wipe σ ws).set i (some w)).set j (some b))[j]? = some (some b)) :
    EvL (tLc (iList K td) (gTup K 2 (gCons (gName i) (gCons (gName j) gNil))) (tB (tVar j)) (tVar i) ws) σ H ((fit m).map vs) := fun H0 e0 Q q => h H0 e0 _ fun H1 e1 => by
  obtain ⟨ts, h1, h2⟩ := (hp.ex (e0.trans e1)).sq
  refine ⟨p, rfl, ⟨_, h1⟩, fun D hD => ?_⟩
  have hlen : ts.length = m.length := by
    rw [paired_len h2]
    exact List.length_map _
  have hDp : D ≠ p := fun z => by
    obtain ⟨us, a, _⟩ := hp.ex (e0.trans e1)
    rw [← z, hD] at a
    cases a
  refine lc_list (xs := ts.map V.ref) (fun n H2 => n ≤ m.length ∧ ∃ H3, Ex H1 H3 ∧ H3 D = none ∧ H2 = upd H3 D (.lst ((fit (m.take n)).map vs))) ⟨Nat.zero_le _, H1, Ex.refl H1, hD, rfl⟩ (fun n H2 _ hI => ?_) (fun n x H2 hx hI => ?_) (fun H2 hI => ?_)
  · obtain ⟨_, H3, e3, n3, rfl⟩ := hI
    exact ex_l (e3.trans (Ex.new n3)) h1
  · obtain ⟨hn, H3, e3, n3, rfl⟩ := hI
    obtain ⟨t, y, rfl, hy, ht⟩ := tup_at (ts := ts) (i := n) h2 hx
    have hlt : n < m.length := by
      have := (List.getElem?_eq_some_iff.mp hx).1
      rw [List.length_map, hlen] at this
      exact this
    have ey : y = [vs (m[n]).1, V.bl (m[n]).2] := by
      unfold pb at hy
      rw [List.getElem?_map, List.getElem?_eq_getElem hlt] at hy
      exact (Option.some.inj hy).symm
    subst ey
    have hs : fit (m.take (n + 1)) = fit (m.take n) ++ (if (m[n]).2 = true then [(m[n]).1] else []) := by
      rw [List.take_add_one, List.getElem?_eq_getElem hlt]
      exact fit_snoc _ _
    refine ⟨t, _, rfl, ex_t (e3.trans (Ex.new n3)) ht, rfl, _, _, rfl, _, _, rfl, ⟨rfl, ?_⟩⟩
    refine ⟨hw _ _, _, hj _ _, (m[n]).2, rfl, ?_⟩
    cases hb : (m[n]).2 with
    | false =>
      rw [if_neg Bool.false_ne_true]
      rw [hb, if_neg Bool.false_ne_true, List.append_nil] at hs
      exact ⟨hlt, H3, e3, n3, by rw [hs]⟩
    | true =>
      rw [if_pos rfl]
      rw [hb, if_pos rfl] at hs
      refine ⟨_, hi _ _, _, upd_same, ?_, hlt, H3, e3, n3, ?_⟩
      · rw [List.length_map]
        have h5 := fit_le (m.take n)
        rw [List.length_take] at h5
        exact sz_lt (by omega)
      · rw [upd_upd, hs, List.map_append]
        rfl
  · obtain ⟨_, H3, e3, n3, rfl⟩ := hI
    rw [List.length_map, hlen, List.take_length]
    exact q D _ (fresh_back e1 hD) (e1.trans (e3.trans (Ex.new n3))) upd_same
end
/-! ## defs that raise: the class is told by a number -/
inductive Res (α : Type) where
  | ok (a : α) : Res α
  | exc (k : Nat) : Res α
def RetX (Cs : Nat → Addr) (k : Nat) (H : Hp) (E : XK) : Prop := ∀ H2, Ex H H2 → E (.ref (Cs k)) none H2
def PX {α : Type} (Cs : Nat → Addr) (Rp : α → Hp → VK → Prop) (r : Res α) (H : Hp) (Q : VK) (E : XK) : Prop := (∀ a, r = .ok a → Rp a H Q) ∧ ∀ k, r = .exc k → RetX Cs k H E
def spX {α : Type} (Cs : Nat → Addr) (Rp : α → Hp → VK → Prop) (R : List V → Hp → Res α → Prop) : Sp := fun ws H Q E => ∃ r, R ws H r ∧ PX Cs Rp r H Q E
section
variable {α S : Type} {Cs : Nat → Addr} {Rp : α → Hp → VK → Prop} {H : Hp} {Q : VK} {E : XK}
theorem retX_T {b : Bool} {x y : Res α} (k : PX Cs Rp (if b = true then x else y) H Q E) (hb : b = true) : PX Cs Rp x H Q E := by
  rw [if_pos hb] at k
  exact k
theorem retX_F {b : Bool} {x y : Res α} (k : PX Cs Rp (if b = true then x else y) H Q E) (hb : b = false) : PX Cs Rp y H Q E := by
  rw [if_neg (by rw [hb]; exact Bool.false_ne_true)] at k
  exact k
theorem retX_run {o : Stp S (Res α)} {g : S → Res α} {r : Res α} (k : PX Cs Rp (aftL o g) H Q E) (h : o = .ret r) : PX Cs Rp r H Q E := by
  rw [h] at k
  exact k
theorem retX_go {o : Stp S (Res α)} {g : S → Res α} {s : S} (k : PX Cs Rp (aftL o g) H Q E) (h : o = .go s ∨ o = .brk s) : PX Cs Rp (g s) H Q E := by
  rcases h with h | h
  · rw [h] at k
    exact k
  · rw [h] at k
    exact k
theorem PX.exc {k : Nat} {H2 : Hp} (p : PX Cs Rp (.exc k) H Q E) (e : Ex H H2) : E (.ref (Cs k)) none H2 := p.2 k rfl H2 e
theorem PX.ret {a : α} (p : PX Cs Rp (.ok a) H Q E) : Rp a H Q := p.1 a rfl
end
/-- what a class that is raised must say -/
structure ErrR (K : PySem.W.Frag) (Cs : Nat → Addr) (k : Nat) : Prop where
  x : PySem.W.excIn K (Cs k) [.type "ValueError", .type "Exception", .type "BaseException", .type "object"] "ValueError.__new__" = true
  kp : PySem.W.keepIn K (.ref (Cs k)) = true
  b : PySem.W.subIn K (.ref (Cs k)) (.type "BaseException") = some true
  t : PySem.W.typeIn K (.ref (Cs k)) = some (.type "type")
section
variable {P : Program} {w : World} {K : PySem.W.Frag} {mg : Str → Option Value} {base : Heap}
theorem okN {x qual : Str} {st : Stmt} {f : Addr} {fd : FuncData} {N ps : List Str} {k : Nat} {sp : Sp} (F : Fun K x qual st f fd) (S : FnScope N ps (defScope st)) (len : ∀ vs H Q E, sp vs H Q E → vs.length = ps.length)
    (hb : ∀ (cdv : Value) (A : Around) (outer : List Env) (s : Shared) (H : Hp) (vs : List V) (Q : VK) (E : XK), Room k (A.deeper (envOfC qual (defScope st) s.heap.objs.size f cdv)) → sp vs H Q E →
      ∃ t, PSs (cxOf (L2N.CX P w) P w K mg base N qual (defScope st) f cdv A outer s H E) (defBody st) t ∧ t { nx := fun _ H' => Q .non H', rt := Q } (start N vs) H) : FnOk P w K mg base (L2N.CX P w) (k + 1) f fd ps sp := by
  obtain ⟨oc, od, kV, doc, pm, an, cdv, ct, osl, rfl, lk, hcd⟩ := F.ex
  exact fn_of lk hcd S len fun A outer s H vs Q E hr hsp => hb cdv A outer s H vs Q E hr hsp
structure CalX (P : Program) (w : World) (K : PySem.W.Frag) (mg : Str → Option Value) (base : Heap) (k : Nat) (x : Str) (ps : List Str) (sp : Sp) : Prop where
  ex : ∃ f fd, FnOk P w K mg base (L2N.CX P w) k f fd ps sp ∧ mg x = some (.ref f) ∧ PySem.W.keepIn K (.ref f) = true ∧ Binds K fd ps []
theorem calX_of {k : Nat} {x : Str} {ps : List Str} {sp : Sp} {f : Addr} {fd : FuncData} (F : FnOk P w K mg base (L2N.CX P w) k f fd ps sp) (g : mg x = some (.ref f)) (kp : PySem.W.keepIn K (.ref f) = true) (b : Binds K fd ps []) :
    CalX P w K mg base k x ps sp := ⟨f, fd, F, g, kp, b⟩
theorem pe_calX {X : Cx} {W : WX} {k : Nat} {x : Str} {ps : List Str} {sp : Sp} {e : Expr} {es : List Expr} {t : TA} {p pos : Pos} (C : CalX X.prog X.w X.K X.mg X.base k x ps sp) (tk : L2N.Takes X W) (hr : Room k X.A) (hg : Gl X x) (ha : PA X (e :: es) t)
    (hdb : (x == ("__debug__" : Str)) = false := by decide) (he : starEach (e :: es) X.env = (false, eval e X.env) :: starEach es X.env := by rfl) (hpl : (backTo pos (starEach es X.env)).any (·.1) = false := by rfl) :
    PE X (.Call (.Name x p) (e :: es) [] pos) (tCallS sp (WE W) t) := by
  obtain ⟨f, fd, F, g, kp, b⟩ := C.ex
  exact pe_callS F hr hg g kp b (fun σ => L2N.passAt tk σ) ha hdb he hpl
end
/-- within a def that catches all -/
theorem takesN0 {X : Cx} : L2N.Takes X (fun _ _ _ _ => False) := fun _ _ ⟨_, _, _, _, _, _, _, _, _, _, _, _, _, _, _, _, w⟩ => w.elim
/-- a call that may raise, its answer used -/
theorem x_call {α : Type} {Cs : Nat → Addr} {Rp : α → Hp → VK → Prop} {R : List V → Hp → Res α → Prop} {E : L2.St → XK} {t : TA} {σ : L2.St} {H : Hp} {ws : List V} {r : Res α} {Q : VK} (h : EvA t σ H ws) (hR : ∀ H1, Ex H H1 → R ws H1 r)
    (ho : ∀ a, r = .ok a → ∀ H1, Ex H H1 → Rp a H1 Q) (hx : ∀ k, r = .exc k → ∀ H1, Ex H H1 → E σ (.ref (Cs k)) none H1) : tCallS (spX Cs Rp R) E t σ H Q :=
  h H (Ex.refl H) _ fun H1 e1 => ⟨r, hR H1 e1, fun a e => ho a e H1 e1, fun k e H2 e2 => hx k e H2 (e1.trans e2)⟩
/-- what isinstance asks, the class told by the reading -/
theorem call_isX {X : Cx} (K : PySem.W.Frag) {a : Addr} {oe : Obj} {cls : Value} {d : Option Addr} {pn : List (Addr × Obj)} (hz : L2N.Zn cls d oe) (hf : ∃ vs, oe.data = .fields vs) (hK : X.K = K := by rfl) :
    CallR (X.suite a ((a, oe) :: pn)) (.builtin "isinstance") (fun xs H Q => ∃ (D : Addr) (c : V) (cv : Value) (b : Bool), cls = .ref D ∧ d = none ∧ ExcC K D ∧ xs = [.ref a, c] ∧ (∀ u, RelV c u → u = cv) ∧ PySem.W.kitOne K (.ref D) cv = some b ∧ Q (.bl b) H) := by
  subst hK
  intro pins s σ H xs us Q I r ⟨D, c, cv, b, e1, e2, C, ex, hc, hk, q⟩
  subst e1 e2
  exact call_isE C hz.zc hf pins s σ H xs us Q I r ⟨c, cv, b, ex, hc, hk, q⟩
theorem e_isX {K : PySem.W.Frag} {σ : L2.St} {H : Hp} {ta tb : TE} {cls : Value} {d : Option Addr} {D a : Addr} {c : V} {cv : Value} {b : Bool} (h1 : cls = .ref D) (h2 : d = none) (C : ExcC K D) (ha : Ev ta σ H (.ref a)) (hb : Ev tb σ H c) (hc : ∀ u, RelV c u → u = cv) (hk : PySem.W.kitOne K (.ref D) cv = some b) :
    Ev (tCB (fun xs H Q => ∃ (D : Addr) (c : V) (cv : Value) (b : Bool), cls = .ref D ∧ d = none ∧ ExcC K D ∧ xs = [.ref a, c] ∧ (∀ u, RelV c u → u = cv) ∧ PySem.W.kitOne K (.ref D) cv = some b ∧ Q (.bl b) H) (tCons ta (tCons tb tNil))) σ H (.bl b) := fun H1 e Q q =>
  ha H1 e _ fun H2 e2 => hb H2 (e.trans e2) _ fun H3 e3 => ⟨D, c, cv, b, h1, h2, C, rfl, hc, hk, q H3 (e2.trans e3)⟩
theorem hot_suite {X : Cx} {a : Addr} {oe : Obj} {cls : Value} {d : Option Addr} {pn : List (Addr × Obj)} (hz : L2N.Zn cls d oe) (hf : ∃ vs, oe.data = .fields vs) : L2H.Hot1 (X.suite a ((a, oe) :: pn)).A (a, oe) := by
  obtain ⟨vs, e⟩ := hf
  exact ⟨rfl, vs, e, hz.2.2 vs e⟩
theorem relv_ref {a : Addr} : ∀ u, RelV (.ref a) u → u = .ref a := fun _ h => h
theorem relv_ty {n : String} : ∀ u, RelV (.ty n) u → u = .type n := fun _ h => h
section
variable {K : PySem.W.Frag} {σ : L2.St} {H : Hp} {ta te tb : TE} {p : Tx} {pl pm : Addr}
/-! ## how often a sign stands in a text -/
def rCountT : V → List V → Hp → VK → Prop := fun x xs H Q => ∃ a b, x = .str a ∧ xs = [.str b] ∧ Q (.int (Txt.count a b)) H
theorem pe_countT {X : Cx} {o e : Expr} {to te : TE} {apos pos : Pos} (ho : PE X o to) (he : PE X e te) (hs : starEach [e] X.env = [(false, eval e X.env)] := by rfl) (hbase : attributeBase o "count" X.env (eval o X.env) = eval o X.env := by rfl) (hline : (apos.endLine == pos.line) = true := by rfl) :
    PE X (.Call (.Attribute o "count" apos) [e] [] pos) (tM1 rCountT to te) := pe_m1 PySem.F.slot_str_count PySem.F.type_str_count mt_count ho he hs hbase hline
theorem count_of {c : Nat} (hc : c < 256) (p : Tx) : Txt.count (mk p) (mk [c]) = ((cuts c p).length : Int) - 1 := by
  have h := congrArg List.length (split_of hc p)
  rw [List.length_map, List.length_map] at h
  rw [← h]
  unfold Txt.split Txt.count
  have hk := kind_ok (x := mk p) (y := mk [c]) (by show (#[c] : Array Nat).all (· < 256) = true; simp [hc])
  cases p with
  | nil =>
    rw [if_pos (by rfl)]
    have h3 := StrLaws.found_one (mk []) c
    cases h4 : Builtin.Str.occurrences (mk []) (mk [c]) 0 (mk []).length ((mk []).length + 1) with
    | nil => rfl
    | cons a b =>
      have h5 : Builtin.Str.occurrences (mk []) ⟨#[c]⟩ 0 (mk []).length 1 = a :: b := h4
      rw [h5] at h3
      exact absurd h3 (by simp [mk])
  | cons d r =>
    rw [if_neg (by
      rw [Bool.or_eq_true, decide_eq_true_eq, decide_eq_true_eq]
      rintro (z | z)
      · rw [len_of, len_of] at z
        simp at z
      · exact hk z)]
    split
    · rename_i z
      rw [List.isEmpty_iff.mp z]
      rfl
    · rw [PySem.length_partsBetween]
      omega
theorem e_count {c : Nat} (ha : Ev ta σ H (vs p)) (hb : Ev te σ H (vs [c])) (hc : c < 256) : Ev (tM1 rCountT ta te) σ H (.int (((cuts c p).length : Int) - 1)) := fun H1 e Q k =>
  ha H1 e _ fun H2 e2 => ⟨⟨mk p, rfl⟩, hb H2 (e.trans e2) _ fun H3 e3 => ⟨mk p, mk [c], rfl, rfl, by rw [count_of hc]; exact k H3 (e2.trans e3)⟩⟩
/-- two own lists laid together -/
theorem l_catRR {β : Type} {g : β → V} {m1 m2 : List β} (ha : Ev ta σ H (.ref pl)) (h1 : H pl = some (.lst (m1.map g))) (hb : Ev tb σ H (.ref pm)) (h2 : H pm = some (.lst (m2.map g))) (hz : m1.length + m2.length ≤ 100000) : EvL (tOp rCat ta tb) σ H ((m1 ++ m2).map g) := fun H1 e Q q =>
  ha H1 e _ fun H2 e2 => hb H2 (e.trans e2) _ fun H3 e3 => ⟨pl, pm, m1.map g, m2.map g, rfl, rfl, ((e.trans e2).trans e3) pl _ h1, ((e.trans e2).trans e3) pm _ h2, by rw [List.length_map, List.length_map]; exact sz_of hz, fun r nr =>
    q r _ (fresh_back (e2.trans e3) nr) ((e2.trans e3).trans (Ex.new nr)) (by rw [upd_same, List.map_append])⟩
end
/-! ## the classes of errors, by number: 0 the base of all -/
structure ErrG (mg : Str → Option Value) (Cs : Nat → Addr) : Prop where
  g0 : mg "RoadError" = some (.ref (Cs 0))
  g1 : mg "NoPath" = some (.ref (Cs 1))
  g2 : mg "NoFile" = some (.ref (Cs 2))
  g3 : mg "InTheWay" = some (.ref (Cs 3))
  g4 : mg "NoClash" = some (.ref (Cs 4))
  g5 : mg "Clashed" = some (.ref (Cs 5))
  g6 : mg "NoVersion" = some (.ref (Cs 6))
  g7 : mg "SameVersion" = some (.ref (Cs 7))
/-- of a class that is raised -/
structure ErrC (K : PySem.W.Frag) (Cs : Nat → Addr) (k : Nat) : Prop where
  ec : ExcC K (Cs k)
  ex0 : PySem.W.exmOne K (.ref (Cs k)) (.ref (Cs 0)) = some true
  is : ∀ j < 8, PySem.W.kitOne K (.ref (Cs k)) (.ref (Cs j)) = some (decide (j = 0 ∨ j = k))
  ve : PySem.W.kitOne K (.ref (Cs k)) (.type "ValueError") = some true
def cs8 (C0 C1 C2 C3 C4 C5 C6 C7 : Addr) : Nat → Addr
  | 0 => C0
  | 1 => C1
  | 2 => C2
  | 3 => C3
  | 4 => C4
  | 5 => C5
  | 6 => C6
  | _ => C7
/-- what is promised of a told call: the word and the answer, or the error's word and True -/
def RetT (lMade : Tx) (word : Nat → Tx) (r : Res (List (Tx × Tx))) (H : Hp) (Q : VK) : Prop :=
  (∀ l, r = .ok l → ∀ p d H2, H p = none → H d = none → p ≠ d → Ex H H2 → H2 p = some (.tup [vs lMade, .ref d]) → H2 d = some (.dK (kd vs l)) → Q (.ref p) H2) ∧
  ∀ k, r = .exc k → ∀ p H2, H p = none → Ex H H2 → H2 p = some (.tup [vs (word k), .bl true]) → Q (.ref p) H2
def spTold (lMade : Tx) (word : Nat → Tx) (R : List V → Hp → Res (List (Tx × Tx)) → Prop) : Sp := fun ws H Q _ => ∃ r, R ws H r ∧ RetT lMade word r H Q
section
variable {X : Cx} {K : PySem.W.Frag} {σ : L2.St} {H : Hp} {ta tb : TE} {pl a b : Addr} {i : Int}
/-! ## tuples, by place; dicts that are alike -/
theorem ix_tupK (K : PySem.W.Frag) (h : X.K = K := by rfl) : IxR X (rIxT K) := h ▸ ix_tup
theorem e_ixU {α : Type} {f : α → V} {l : List α} (d : α) (h : Ev ta σ H (.ref pl)) (hS : SqT K H pl (l.map f)) (hb : Ev tb σ H (.int i)) (hi : 0 ≤ i ∧ i < l.length) : Ev (tOp (rIxT K) ta tb) σ H (f (l.getD i.toNat d)) := ev_op h hb (rv_ixT hS (atI_get f l d hi.1 hi.2))
theorem e_ixV {xs : List V} {v : V} (h : Ev ta σ H (.ref pl)) (hS : H pl = some (.tup xs)) (hb : Ev tb σ H (.int i)) (hv : atI xs i = some v) : Ev (tOp (rIxT K) ta tb) σ H v := ev_op h hb (rv_ixT (st_of hS) hv)
/-- the same files -/
def dsame (l m : List (Tx × Tx)) : Prop := l.length = m.length ∧ ∀ q ∈ l, dget m q.1 = some q.2
theorem dsame_kd {l m : List (Tx × Tx)} (h : dsame l m) : (kd vs l).length = (kd vs m).length ∧ ∀ p ∈ kd vs l, valV (kd vs m) p.1 = some p.2 ∧ flatB p.2 = true := by
  refine ⟨by rw [kd_len, kd_len]; exact h.1, fun p hp => ?_⟩
  obtain ⟨q, hq, rfl⟩ := List.mem_map.mp hp
  refine ⟨?_, rfl⟩
  show valV (kd vs m) (ky q.1) = _
  rw [kd_get, h.2 q hq]
  rfl
theorem dsame_refl {l : List (Tx × Tx)} (h : (dkeys l).Nodup) : dsame l l := ⟨rfl, fun q hq => get_of h hq⟩
theorem e_eqDD {l m : List (Tx × Tx)} (ha : Ev ta σ H (.ref a)) (hb : Ev tb σ H (.ref b)) (h1 : H a = some (.dK (kd vs l))) (h2 : H b = some (.dK (kd vs m))) (h : dsame l m) : Ev (tOp rEqDA ta tb) σ H (.bl true) := fun H1 e Q q =>
  ha H1 e _ fun H2 e2 => hb H2 (e.trans e2) _ fun H3 e3 => ⟨a, b, _, _, rfl, rfl, ((e.trans e2).trans e3) a _ h1, ((e.trans e2).trans e3) b _ h2, (dsame_kd h).1, (dsame_kd h).2, q H3 (e2.trans e3)⟩
theorem e_neDD {l m : List (Tx × Tx)} (ha : Ev ta σ H (.ref a)) (hb : Ev tb σ H (.ref b)) (h1 : H a = some (.dK (kd vs l))) (h2 : H b = some (.dK (kd vs m))) (h : dsame l m) : Ev (tOp rNeDA ta tb) σ H (.bl false) := fun H1 e Q q =>
  ha H1 e _ fun H2 e2 => hb H2 (e.trans e2) _ fun H3 e3 => ⟨a, b, _, _, rfl, rfl, ((e.trans e2).trans e3) a _ h1, ((e.trans e2).trans e3) b _ h2, (dsame_kd h).1, (dsame_kd h).2, q H3 (e2.trans e3)⟩
end
section
variable {K : PySem.W.Frag} {σ : L2.St} {H : Hp} {ta tb te : TE} {D : Ends} {tz : TS} {α : Type}
theorem eu_is {a b : List V} (h : EvU te σ H a) (e : a = b) : EvU te σ H b := e ▸ h
theorem e_isB {a b : Bool} (ha : Ev ta σ H (.bl a)) (hb : Ev tb σ H (.bl b)) : Ev (tOp rIsB ta tb) σ H (.bl (decide (a = b))) := fun H1 e Q q =>
  ha H1 e _ fun H2 e2 => hb H2 (e.trans e2) _ fun H3 e3 => ⟨a, b, rfl, rfl, q H3 (e2.trans e3)⟩
/-- by the answer's kind -/
def resM {β : Type} (r : Res α) (g : α → β) (x : Nat → β) : β := match r with
  | .ok a => g a
  | .exc k => x k
theorem ret_ok {β : Type} {f : β → V} {r : Res α} {g : α → β} {x : Nat → β} {a : α} {Q : VK} (k : RetV (f (resM r g x)) H Q) (h : r = .ok a) : RetV (f (g a)) H Q := by
  rw [h] at k
  exact k
theorem ret_exc {β : Type} {f : β → V} {r : Res α} {g : α → β} {x : Nat → β} {n : Nat} {Q : VK} (k : RetV (f (resM r g x)) H Q) (h : r = .exc n) : RetV (f (x n)) H Q := by
  rw [h] at k
  exact k
/-- found = told(..) -/
theorem q_told {lMade : Tx} {word : Nat → Tx} {R : List V → Hp → Res (List (Tx × Tx)) → Prop} {t : TA} {E : XK} {i : Nat} {ws : List V} {r : Res (List (Tx × Tx))} (h : EvA t σ H ws) (hR : ∀ H1, Ex H H1 → R ws H1 r)
    (ho : ∀ l, r = .ok l → ∀ p d H2, H p = none → H d = none → p ≠ d → Ex H H2 → H2 p = some (.tup [vs lMade, .ref d]) → H2 d = some (.dK (kd vs l)) → tz D (σ.set i (some (.ref p))) H2)
    (hx : ∀ k, r = .exc k → ∀ p H2, H p = none → Ex H H2 → H2 p = some (.tup [vs (word k), .bl true]) → tz D (σ.set i (some (.ref p))) H2) : tSeq (tAsg (tCall (spTold lMade word R) [] E t) (gName i)) tz D σ H :=
  h H (Ex.refl H) _ fun H1 e1 => ⟨r, by rw [List.append_nil]; exact hR H1 e1, fun l e p d H2 np nd ne e2 hp hd => ho l e p d H2 (fresh_back e1 np) (fresh_back e1 nd) ne (e1.trans e2) hp hd, fun k e p H2 np e2 hp => hx k e p H2 (fresh_back e1 np) (e1.trans e2) hp⟩
end
section
variable {K : PySem.W.Frag} {D C : Addr}
theorem kit_b {b : Bool} (i : PySem.W.isClsIn K C = true) (t : PySem.W.typeIn K (.ref C) = some (.type "type")) (s : PySem.W.subIn K (.ref D) (.ref C) = some b) : PySem.W.kitCls K (.ref D) (.ref C) = some b := by
  unfold PySem.W.kitCls
  show (if ((PySem.W.clsIn K C).isSome && PySem.W.typeIn K (.ref C) == some (.type "type")) = true then _ else none) = _
  have i2 : (PySem.W.clsIn K C).isSome = true := i
  rw [i2, t, if_pos (by rfl)]
  exact s
theorem kit_t (i : PySem.W.isClsIn K C = true) (t : PySem.W.typeIn K (.ref C) = some (.type "type")) (s : PySem.W.subIn K (.ref D) (.ref C) = some true) : PySem.W.kitOne K (.ref D) (.ref C) = some true := by
  unfold PySem.W.kitOne
  split
  · rfl
  · exact kit_b i t s
theorem kit_f (i : PySem.W.isClsIn K C = true) (t : PySem.W.typeIn K (.ref C) = some (.type "type")) (s : PySem.W.subIn K (.ref D) (.ref C) = some false) (r : PySem.W.subIn K (.ref D) (.ref D) = some true) : PySem.W.kitOne K (.ref D) (.ref C) = some false := by
  unfold PySem.W.kitOne
  split
  · rename_i h
    have e : Value.ref D = Value.ref C := by simpa using h
    rw [← e, r] at s
    cases s
  · exact kit_b i t s
theorem exm_t (b : PySem.W.subIn K (.ref C) (.type "BaseException") = some true) (i : PySem.W.isClsIn K C = true) (t : PySem.W.typeIn K (.ref C) = some (.type "type")) (s : PySem.W.subIn K (.ref D) (.ref C) = some true) : PySem.W.exmOne K (.ref D) (.ref C) = some true := by
  unfold PySem.W.exmOne
  rw [b, if_pos (by rfl)]
  exact kit_b i t s
theorem kit_ve (s : PySem.W.subIn K (.ref D) (.type "ValueError") = some true) : PySem.W.kitOne K (.ref D) (.type "ValueError") = some true := by
  unfold PySem.W.kitOne
  split
  · rfl
  · unfold PySem.W.kitCls
    show (if PySem.W.kitMeta "ValueError" = true then _ else none) = _
    rw [if_pos (by decide +kernel)]
    exact s
end
end Vf

/-! Own layer: comprehensions over dicts, two clauses, defs that give lists of tuples, messages. -/
namespace Vf
open PySem PySem.Spec PyProof.Rows L2 TL Evl
/-! ## the heap while a dict is walked -/
structure Lk (H : Hp) (d : Addr) (kvs : List (Key × V)) (HL : Hp) : Prop where
  at_ : ∃ o, (H d = some (.dK kvs) ∨ H d = some (.frz o (.dK kvs))) ∧ HL d = some (.frz o (.dK kvs))
  kp : ∀ b u, b ≠ d → H b = some u → HL b = some u
section
variable {H HL H1 H2 : Hp} {d p : Addr} {kvs : List (Key × V)} {K : PySem.W.Frag}
theorem Lk.rx (h : Lk H d kvs HL) : RX H HL := fun a u r => by
  by_cases ha : a = d
  · subst ha
    obtain ⟨o, h1, h2⟩ := h.at_
    rcases h1 with h1 | h1
    · rcases r with r | ⟨o2, r⟩
      · rw [h1] at r
        cases r
        exact Or.inr ⟨o, h2⟩
      · rw [h1] at r
        cases r
    · rcases r with r | ⟨o2, r⟩
      · rw [h1] at r
        cases r
        exact Or.inl h2
      · rw [h1] at r
        cases r
        exact Or.inr ⟨o, h2⟩
  · rcases r with r | ⟨o2, r⟩
    · exact Or.inl (h.kp a _ ha r)
    · exact Or.inr ⟨o2, h.kp a _ ha r⟩
theorem Lk.rd (h : Lk H d kvs HL) : Rd HL d (.dK kvs) := by
  obtain ⟨o, _, h2⟩ := h.at_
  exact Or.inr ⟨o, h2⟩
theorem Lk.keep (h : Lk H d kvs HL) {o : HO} (hne : p ≠ d) (e : H p = some o) : HL p = some o := h.kp p o hne e
theorem Lk.ex (h : Lk H d kvs HL) (e : Ex HL H2) : Lk H d kvs H2 := by
  obtain ⟨o, a, b⟩ := h.at_
  exact ⟨⟨o, a, e d _ b⟩, fun x u hx hu => e x _ (h.kp x u hx hu)⟩
theorem Lk.back (e : Ex H H1) (hd : Rd H d (.dK kvs)) (h : Lk H1 d kvs HL) : Lk H d kvs HL := by
  obtain ⟨o, a, b⟩ := h.at_
  refine ⟨⟨o, ?_, b⟩, fun x u hx hu => h.kp x u hx (e x u hu)⟩
  rcases hd with hd | ⟨o2, hd⟩
  · exact Or.inl hd
  · have h3 := e d _ hd
    rcases a with a | a
    · rw [h3] at a
      cases a
    · rw [h3] at a
      cases a
      exact Or.inr hd
theorem Lk.sqt (h : Lk H d kvs HL) {t : Addr} {q : List V} (s : SqT K H t q) : SqT K HL t q := rx_t h.rx s
theorem Lk.lu (h : Lk H d kvs HL) {l : List (List V)} (s : IsLU K H p l) : IsLU K HL p l := by
  obtain ⟨ts, a, b⟩ := s
  have hne : p ≠ d := fun z => by
    subst z
    obtain ⟨o, c, _⟩ := h.at_
    rcases c with c | c <;> (rw [a] at c; cases c)
  exact ⟨ts, h.kp p _ hne a, tups_mono (fun _ _ => h.sqt) b⟩
/-- under the walk's lock, or under one that is there already -/
def tMayE (t : TE) : TE := fun σ H Q => t σ H Q ∨ tLockE t σ H Q
theorem pe_may {X : Cx} {e : Expr} {t : TE} (h : PE X e t) : PE X e (tMayE t) := by
  refine ⟨fun pins s σ H Q I hw => ?_⟩
  rcases hw with hw | hw
  · exact h.run pins s σ H Q I hw
  · exact (pe_lock h).run pins s σ H Q I hw
theorem may_of {σ : L2.St} {t : TE} {Q : VK} {P : Addr → Hp → Prop} (hd : Rd H1 d (.dK kvs))
    (ht : ∀ o HB Q2, Lk H1 d kvs HB → HB d = some (.frz o (.dK kvs)) → (∀ D H', HB D = none → Ex HB H' → P D H' → Q2 (.ref D) H') → t σ HB Q2)
    (hP : ∀ o D H', D ≠ d → H' d = some (.frz o (.dK kvs)) → P D H' → P D (upd H' d (.dK kvs)))
    (q : ∀ D H2, H1 D = none → Ex H1 H2 → P D H2 → Q (.ref D) H2) : tMayE t σ H1 Q := by
  rcases hd with h | ⟨o, h⟩
  · refine Or.inr ⟨d, .dK kvs, h, trivial, fun od => ht od (upd H1 d (.frz od (.dK kvs))) _ ⟨⟨od, Or.inl h, upd_same⟩, fun b u hb hu => upd_keep hb hu⟩ upd_same fun D H' hD e hp => ?_⟩
    have ne : D ≠ d := fun z => by
      subst z
      rw [upd_same] at hD
      cases hD
    have hD2 : H1 D = none := by
      rw [upd_ne ne] at hD
      exact hD
    refine ⟨e d _ upd_same, q D _ hD2 (fun b u hu => ?_) (hP od D H' ne (e d _ upd_same) hp)⟩
    by_cases hb : b = d
    · subst hb
      rw [h] at hu
      cases hu
      exact upd_same
    · exact upd_keep hb (e b u (upd_keep hb hu))
  · exact Or.inl (ht o H1 Q ⟨⟨o, Or.inr h, h⟩, fun b u _ hu => hu⟩ h q)
end
section
variable {K : PySem.W.Frag} {σ : L2.St} {H : Hp} {ta tb te tl' tin : TE} {t t1 : TT} {α β : Type} {f : α → V} {f2 : β → V} {l : List (Tx × α)} {d : Addr} {i jx jy : Nat} {ws ws1 : List Nat} {D : Ends} {tz : TS}
/-! ## comprehensions over the keys of a dict -/
theorem key_at {k : Nat} {kk : Key} {v : V} (h : (kd f l)[k]? = some (kk, v)) : k < (dkeys l).length ∧ kV kk = vs ((dkeys l).getD k []) ∧ (dkeys l).getD k [] ∈ dkeys l := by
  unfold kd at h
  rw [List.getElem?_map] at h
  cases e : l[k]? with
  | none =>
    rw [e] at h
    cases h
  | some y =>
    rw [e] at h
    have e2 : (dkeys l)[k]? = some y.1 := by
      unfold dkeys
      rw [List.getElem?_map, e]
      rfl
    have e3 : (dkeys l).getD k [] = y.1 := by
      rw [List.getD_eq_getElem?_getD, e2]
      rfl
    have e4 : (ky y.1, f y.2) = (kk, v) := Option.some.inj h
    refine ⟨(List.getElem?_eq_some_iff.mp e2).1, ?_, ?_⟩
    · rw [e3]
      have e5 : ky y.1 = kk := congrArg Prod.fst e4
      rw [← e5]
      rfl
    · rw [e3]
      exact List.mem_of_getElem? e2
theorem l_filK (c : Tx → Bool) (g : Tx → β) (hσ : σ[i]? = some (some (.ref d))) (hd : Rd H d (.dK (kd f l))) (hz : l.length ≤ 40000)
    (ht : ∀ y ∈ dkeys l, ∀ HL, Lk H d (kd f l) HL → EvT t ((wipe σ ws).set jx (some (vs y))) HL (c y))
    (he : ∀ y ∈ dkeys l, ∀ HL, Lk H d (kd f l) HL → c y = true → Ev te ((wipe σ ws).set jx (some (vs y))) HL (f2 (g y)))
    (hw : ∀ w, wipe ((wipe σ ws).set jx (some w)) ws = wipe σ ws := by exact fun _ => rfl) :
    EvL (tMayE (tLc (iKeys (tVar i)) (gName jx) t te ws)) σ H ((((dkeys l).filter c).map g).map f2) := fun H1 e Q q => by
  refine may_of (P := fun D H' => H' D = some (.lst ((((dkeys l).filter c).map g).map f2))) (ex_rd e hd) (fun o HB Q2 lk hB q2 => ?_) (fun o D H' ne _ hp => upd_keep ne hp) (fun D H2 n e2 h2 => q D H2 n e2 h2)
  have lk0 := Lk.back e hd lk
  have hlen : (dkeys l).length = l.length := List.length_map _
  refine ⟨.ref d, hσ, d, o, rfl, Or.inl ⟨kd f l, hB, fun Dl hD => ⟨fun k m H2 => m = l.length - k ∧ k ≤ l.length ∧ Cw HB (fun k => c ((dkeys l).getD k [])) (fun k => f2 (g ((dkeys l).getD k []))) Dl k H2, ⟨l.length, by simp, Nat.zero_le _, hD, Ex.new hD, upd_same⟩, fun k m H2 hW => ?_⟩⟩⟩
  obtain ⟨rfl, hk, hC⟩ := hW
  by_cases hlt : k < l.length
  · refine Or.inr ⟨⟨hC.2.1 d _ hB, by rw [kd_len]; exact hlt⟩, fun H3 => Cw HB (fun k => c ((dkeys l).getD k [])) (fun k => f2 (g ((dkeys l).getD k []))) Dl (k + 1) H3, fun H3 h3 => ⟨l.length - (k + 1), by omega, rfl, hlt, h3⟩, fun w H3 hy => ?_⟩
    obtain ⟨rfl, kk, vv, hkv, rfl⟩ := hy
    obtain ⟨_, ek, hm⟩ := key_at hkv
    rw [ek]
    exact ⟨hw _, cw_turn hC (by omega) (ht _ hm HB lk0) (fun hc => he _ hm HB lk0 hc)⟩
  · have ek : k = l.length := by omega
    subst ek
    have h3 := hC.2.2
    rw [← hlen, given_filter] at h3
    exact Or.inl ⟨⟨hC.2.1 d _ hB, by rw [kd_len]; exact Nat.le_refl _⟩, q2 Dl H2 hC.1 hC.2.1 h3⟩
theorem filt_yes {α : Type} (l : List α) : l.filter (fun _ => true) = l := List.filter_eq_self.mpr fun _ _ => rfl
theorem et_yes : EvT tYes σ H true := fun H1 _ Q k => k H1 (Ex.refl H1)
theorem l_mapK (g : Tx → β) (hσ : σ[i]? = some (some (.ref d))) (hd : Rd H d (.dK (kd f l))) (hz : l.length ≤ 40000)
    (he : ∀ y ∈ dkeys l, ∀ HL, Lk H d (kd f l) HL → Ev te ((wipe σ ws).set jx (some (vs y))) HL (f2 (g y)))
    (hw : ∀ w, wipe ((wipe σ ws).set jx (some w)) ws = wipe σ ws := by exact fun _ => rfl) :
    EvL (tMayE (tLc (iKeys (tVar i)) (gName jx) tYes te ws)) σ H (((dkeys l).map g).map f2) := by
  have h := l_filK (t := tYes) (fun _ => true) g hσ hd hz (fun _ _ _ _ => et_yes) (fun y hy HL lk _ => he y hy HL lk) hw
  rw [filt_yes] at h
  exact h
/-- over a new list -/
theorem l_filN {γ : Type} {f : γ → V} {m : List γ} (c : γ → Bool) (g : γ → β) (dv : γ) (h : EvL tl' σ H (m.map f)) (hz : m.length ≤ 40000)
    (ht : ∀ y ∈ m, EvT t ((wipe σ ws).set jx (some (f y))) H (c y)) (he : ∀ y ∈ m, c y = true → Ev te ((wipe σ ws).set jx (some (f y))) H (f2 (g y)))
    (hw : ∀ w, wipe ((wipe σ ws).set jx (some w)) ws = wipe σ ws := by exact fun _ => rfl) :
    EvL (tLc (iList K tl') (gName jx) t te ws) σ H (((m.filter c).map g).map f2) := by
  have q := el_lcNL (K := K) (t := t) (te := te) (fun k => c (m.getD k dv)) (fun k => f2 (g (m.getD k dv))) h (by rw [List.length_map]; exact hz) hw (fun k w H1 e hk => by
    obtain ⟨hm, ew⟩ := map_at dv hk
    rw [ew]
    exact (ht _ hm).mono e) (fun k w H1 e hk hc => by
    obtain ⟨hm, ew⟩ := map_at dv hk
    rw [ew]
    exact (he _ hm hc).mono e)
  rw [List.length_map, given_filter] at q
  exact q
theorem l_mapN {γ : Type} {f : γ → V} {m : List γ} (g : γ → β) (dv : γ) (h : EvL tl' σ H (m.map f)) (hz : m.length ≤ 40000)
    (he : ∀ y ∈ m, Ev te ((wipe σ ws).set jx (some (f y))) H (f2 (g y)))
    (hw : ∀ w, wipe ((wipe σ ws).set jx (some w)) ws = wipe σ ws := by exact fun _ => rfl) :
    EvL (tLc (iList K tl') (gName jx) tYes te ws) σ H ((m.map g).map f2) := by
  have q := l_filN (K := K) (t := tYes) (fun _ => true) g dv h hz (fun _ _ => et_yes) (fun y hy _ => he y hy) hw
  rw [filt_yes] at q
  exact q
theorem cr_anyK {X : Cx} (K : PySem.W.Frag) (hc : X.calm = true) (h : X.K = K := by rfl) : CallR X (.builtin "any") (rAny K) := h ▸ cr_any hc
theorem e_any {m : List Bool} (h : EvL ta σ H (m.map V.bl)) : Ev (tCB (rAny K) (tCons ta tNil)) σ H (.bl (m.any id)) := fun H1 e Q q =>
  h H1 e _ fun p H2 _ e2 hp => ⟨p, m, rfl, sq_of hp, q H2 e2⟩
/-! ## a list of tuples that grows -/
def Tw (K : PySem.W.Frag) (HB : Hp) (Dl : Addr) (ls : List (List V)) (H' : Hp) : Prop := HB Dl = none ∧ Ex HB H' ∧ IsLU K H' Dl ls
theorem tw_new {HB : Hp} {Dl : Addr} (h : HB Dl = none) : Tw K HB Dl [] (upd HB Dl (.lst [])) := ⟨h, Ex.new h, [], upd_same, .nil⟩
theorem tw_turn {HB H' : Hp} {Dl : Addr} {ls : List (List V)} {q : List V} {b : Bool} {σ2 : L2.St} {Nx : Hp → Prop} (p : Tw K HB Dl ls H') (hz : ls.length < 50000) (ht : EvT t σ2 HB b) (he : b = true → EvU te σ2 HB q)
    (hN : ∀ H6, (∀ x u, x ≠ Dl → H' x = some u → H6 x = some u) → Tw K HB Dl (ls ++ if b = true then [q] else []) H6 → Nx H6) :
    t σ2 H' fun b2 H3 => if b2 = true then te σ2 H3 fun y H4 => ∃ acc, H4 Dl = some (.lst acc) ∧ acc.length < sizeLine ∧ Nx (upd H4 Dl (.lst (acc ++ [y]))) else Nx H3 := by
  obtain ⟨p1, p2, ts, p3, p4⟩ := p
  refine ht H' p2 _ fun H3 e3 => ?_
  cases b with
  | false =>
    rw [if_neg Bool.false_ne_true]
    refine hN H3 (fun x u _ hu => e3 x u hu) ⟨p1, p2.trans e3, ts, e3 Dl _ p3, ?_⟩
    rw [if_neg Bool.false_ne_true, List.append_nil]
    exact tups_mono (fun _ _ => ex_t e3) p4
  | true =>
    rw [if_pos rfl]
    refine he rfl H3 (p2.trans e3) _ fun r H4 nr e4 hr => ⟨ts.map V.ref, e4 Dl _ (e3 Dl _ p3), ?_, hN _ (fun x u hx hu => upd_keep hx ((e3.trans e4) x u hu)) ⟨p1, Ex.mut ((p2.trans e3).trans e4) p1, ts ++ [r], ?_, ?_⟩⟩
    · rw [List.length_map, paired_len p4]
      exact sz_lt (by omega)
    · rw [upd_same, List.map_append]
      rfl
    · have h4 : H4 Dl = some (.lst (ts.map V.ref)) := e4 Dl _ (e3 Dl _ p3)
      rw [if_pos rfl]
      exact paired_app (tups_mono (fun _ _ h => sqt_upd h4 trivial (ex_t (e3.trans e4) h)) p4) (.cons (sqt_upd h4 trivial (st_of hr)) .nil)
theorem flat_take {γ δ : Type} (F : γ → List δ) : ∀ (m : List γ) (k : Nat) (dv : γ), k < m.length → (m.take (k + 1)).flatMap F = (m.take k).flatMap F ++ F (m.getD k dv)
  | y :: r, 0, dv, _ => by simp
  | y :: r, k + 1, dv, h => by
    have ih := flat_take F r k dv (by simpa using h)
    rw [List.take_succ_cons, List.flatMap_cons, ih, List.take_succ_cons, List.flatMap_cons, List.append_assoc]
    rfl
theorem flat_len {γ δ : Type} {F : γ → List δ} {n : Nat} : ∀ {m : List γ}, (∀ y ∈ m, (F y).length ≤ n) → (m.flatMap F).length ≤ m.length * n
  | [], _ => by simp
  | y :: r, h => by
    have ih := flat_len (F := F) (n := n) (m := r) fun z hz => h z (List.mem_cons_of_mem _ hz)
    have h1 := h y List.mem_cons_self
    rw [List.flatMap_cons, List.length_append, List.length_cons, Nat.succ_mul]
    omega
theorem fil_take {γ : Type} (c : γ → Bool) (g : γ → List V) : ∀ (m : List γ) (k : Nat) (dv : γ), k < m.length → ((m.take (k + 1)).filter c).map g = ((m.take k).filter c).map g ++ (if c (m.getD k dv) = true then [g (m.getD k dv)] else [])
  | y :: r, 0, dv, _ => by
    show (([y].filter c).map g) = [] ++ (if c y = true then [g y] else [])
    rw [List.filter_cons, List.nil_append]
    cases c y <;> rfl
  | y :: r, k + 1, dv, h => by
    have ih := fil_take c g r k dv (by simpa using h)
    have e : (y :: r).getD (k + 1) dv = r.getD k dv := rfl
    rw [List.take_succ_cons, List.take_succ_cons, List.filter_cons, List.filter_cons, e]
    cases c y with
    | true =>
      rw [if_pos rfl, if_pos rfl, List.map_cons, List.map_cons, ih]
      rfl
    | false =>
      rw [if_neg Bool.false_ne_true, if_neg Bool.false_ne_true]
      exact ih
theorem flat_map2 {γ δ ε ζ : Type} (m : List γ) (F : γ → List δ) (h : γ → δ → ε) (k : ε → ζ) (c : γ → δ → Bool) : (m.flatMap fun y => ((F y).filter (c y)).map fun z => k (h y z)) = (m.flatMap fun y => ((F y).filter (c y)).map (h y)).map k := by
  induction m with
  | nil => rfl
  | cons y r ih => rw [List.flatMap_cons, List.flatMap_cons, List.map_append, ih, List.map_map]; rfl
theorem yes_go {A B : Prop} (h : A) : if true = true then A else B := by
  rw [if_pos rfl]
  exact h
/-- [tuple for x in d for y in inn(x) if c] -/
theorem u_lc2K (inn : Tx → List Tx) (c : Tx → Tx → Bool) (g : Tx → Tx → List V) (n1 : Nat) (hσ : σ[i]? = some (some (.ref d))) (hd : Rd H d (.dK (kd f l))) (hn1 : ∀ y ∈ dkeys l, (inn y).length ≤ n1) (hz : l.length * n1 ≤ 40000) (hz1 : n1 ≤ 1000)
    (hin : ∀ y ∈ dkeys l, ∀ HL, Lk H d (kd f l) HL → EvL tin ((wipe σ ws).set jx (some (vs y))) HL ((inn y).map vs))
    (ht : ∀ y ∈ dkeys l, ∀ z ∈ inn y, ∀ HL, Lk H d (kd f l) HL → EvT t1 ((wipe ((wipe σ ws).set jx (some (vs y))) ws1).set jy (some (vs z))) HL (c y z))
    (he : ∀ y ∈ dkeys l, ∀ z ∈ inn y, ∀ HL, Lk H d (kd f l) HL → c y z = true → EvU te ((wipe ((wipe σ ws).set jx (some (vs y))) ws1).set jy (some (vs z))) HL (g y z))
    (hw : ∀ w, wipe ((wipe σ ws).set jx (some w)) ws = wipe σ ws := by exact fun _ => rfl)
    (hw1 : ∀ w w2, wipe ((wipe ((wipe σ ws).set jx (some w)) ws1).set jy (some w2)) ws1 = wipe ((wipe σ ws).set jx (some w)) ws1 := by exact fun _ _ => rfl) :
    EvU2 K (tMayE (tLc2 (iKeys (tVar i)) (gName jx) tYes (iList K tin) (gName jy) t1 te ws ws1)) σ H ((dkeys l).flatMap fun y => ((inn y).filter (c y)).map (g y)) := fun H1 e Q q => by
  refine may_of (P := fun Dl H' => IsLU K H' Dl ((dkeys l).flatMap fun y => ((inn y).filter (c y)).map (g y))) (ex_rd e hd) (fun o HB Q2 lk hB q2 => ?_) (fun o Dl H' ne hr hp => hp.upd ne hr trivial) (fun Dl H2 n e2 h2 => q Dl H2 n e2 h2)
  have lk0 := Lk.back e hd lk
  have hlen : (dkeys l).length = l.length := List.length_map _
  have hF : ∀ y ∈ dkeys l, (((inn y).filter (c y)).map (g y)).length ≤ n1 := fun y hy => by
    rw [List.length_map]
    exact Nat.le_trans (List.length_filter_le _ _) (hn1 y hy)
  refine ⟨.ref d, hσ, d, o, rfl, Or.inl ⟨kd f l, hB, fun Dl hD => ⟨fun k m H2 => m = l.length - k ∧ k ≤ l.length ∧ Tw K HB Dl (((dkeys l).take k).flatMap fun y => ((inn y).filter (c y)).map (g y)) H2, ⟨l.length, by simp, Nat.zero_le _, by rw [List.take_zero]; exact tw_new hD⟩, fun k m H2 hW => ?_⟩⟩⟩
  obtain ⟨rfl, hk, hC⟩ := hW
  by_cases hlt : k < l.length
  · refine Or.inr ⟨⟨hC.2.1 d _ hB, by rw [kd_len]; exact hlt⟩, fun H3 => Tw K HB Dl (((dkeys l).take (k + 1)).flatMap fun y => ((inn y).filter (c y)).map (g y)) H3, fun H3 h3 => ⟨l.length - (k + 1), by omega, rfl, hlt, h3⟩, fun w H3 hy => ?_⟩
    obtain ⟨rfl, kk, vv, hkv, rfl⟩ := hy
    obtain ⟨hk2, ek, hm⟩ := key_at hkv
    rw [ek]
    have hsnoc := flat_take (fun y => ((inn y).filter (c y)).map (g y)) (dkeys l) k [] hk2
    generalize hy0 : (dkeys l).getD k [] = y0 at hm hsnoc ⊢
    have hz0 : (((dkeys l).take k).flatMap fun y => ((inn y).filter (c y)).map (g y)).length ≤ 40000 := by
      have h5 := flat_len (F := fun y => ((inn y).filter (c y)).map (g y)) (n := n1) (m := (dkeys l).take k) fun y hy => hF y (List.mem_of_mem_take hy)
      have h6 : ((dkeys l).take k).length * n1 ≤ l.length * n1 := Nat.mul_le_mul_right _ (by rw [List.length_take, hlen]; omega)
      omega
    generalize hA : (((dkeys l).take k).flatMap fun y => ((inn y).filter (c y)).map (g y)) = A at hC hsnoc hz0
    refine ⟨hw _, ?_⟩
    refine @yes_go _ False ?_
    rw [if_pos rfl]
    refine hin y0 hm HB lk0 H3 hC.2.1 _ fun p H4 np e4 hp => ⟨p, rfl, ⟨_, sq_of hp⟩, ?_⟩
    have hI : Tw K HB Dl A H4 := ⟨hC.1, hC.2.1.trans e4, hC.2.2.ex e4⟩
    have hpD : p ≠ Dl := fun z => by
      obtain ⟨us, a, _⟩ := hC.2.2
      rw [← z, np] at a
      cases a
    have hpB : HB p = none := fresh_back hC.2.1 np
    refine ⟨fun j m H5 => m = (inn y0).length - j ∧ j ≤ (inn y0).length ∧ H5 p = some (.lst ((inn y0).map vs)) ∧ Tw K HB Dl (A ++ (((inn y0).take j).filter (c y0)).map (g y0)) H5, ⟨(inn y0).length, by simp, Nat.zero_le _, hp, by
      rw [List.take_zero, List.filter_nil, List.map_nil, List.append_nil]
      exact hI⟩, fun j m H5 hW5 => ?_⟩
    obtain ⟨rfl, hj, hp5, hC5⟩ := hW5
    by_cases hlj : j < (inn y0).length
    · refine Or.inr ⟨⟨_, vs ((inn y0).getD j []), sq_of hp5, ?_⟩, fun H6 => H6 p = some (.lst ((inn y0).map vs)) ∧ Tw K HB Dl (A ++ (((inn y0).take (j + 1)).filter (c y0)).map (g y0)) H6, fun H6 h6 => ⟨(inn y0).length - (j + 1), by omega, rfl, hlj, h6.1, h6.2⟩, fun w H6 hy6 => ?_⟩
      · rw [List.getElem?_map, List.getD_eq_getElem?_getD, List.getElem?_eq_getElem hlj]
        rfl
      · obtain ⟨rfl, hx⟩ := hy6
        obtain ⟨hm2, ew⟩ := map_at (f := vs) [] (hx _ (sq_of hp5))
        rw [ew]
        have hst := fil_take (c y0) (g y0) (inn y0) j [] hlj
        generalize hz1y : (inn y0).getD j [] = z0 at hm2 hst ⊢
        have hjl : (((inn y0).take j).filter (c y0)).length ≤ 1000 := Nat.le_trans (List.length_filter_le _ _) (by
          rw [List.length_take]
          have := hn1 y0 hm
          omega)
        refine ⟨hw1 _ _, ?_⟩
        refine tw_turn (b := c y0 z0) (q := g y0 z0) hC5 (by rw [List.length_append, List.length_map]; omega) (ht y0 hm z0 hm2 HB lk0) (fun hc => he y0 hm z0 hm2 HB lk0 hc) fun H6 k6 h6 => ⟨k6 p _ hpD hp5, ?_⟩
        rw [List.append_assoc, ← hst] at h6
        exact h6
    · have ej : j = (inn y0).length := by omega
      subst ej
      rw [List.take_length] at hC5
      refine Or.inl ⟨⟨_, sq_of hp5, by rw [List.length_map]; exact Nat.le_refl _⟩, ?_⟩
      rw [hsnoc]
      exact hC5
  · have ek : k = l.length := by omega
    subst ek
    rw [← hlen, List.take_length] at hC
    exact Or.inl ⟨⟨hC.2.1 d _ hB, by rw [kd_len]; exact Nat.le_refl _⟩, q2 Dl H2 hC.1 hC.2.1 hC.2.2⟩
/-! ## defs that give a new list of tuples -/
def RetU2 (K : PySem.W.Frag) (l : List (List V)) (H : Hp) (Q : VK) : Prop := ∀ p H2, H p = none → Ex H H2 → IsLU K H2 p l → Q (.ref p) H2
def spU2 (K : PySem.W.Frag) (R : List V → Hp → List (List V) → Prop) : Sp := fun vs' H Q _ => ∃ xs, R vs' H xs ∧ RetU2 K xs H Q
def SpU2 (K : PySem.W.Frag) (sp : Sp) (ws : List V) (H : Hp) (xs : List (List V)) : Prop := ∀ H1, Ex H H1 → ∀ Q : VK, (∀ p H2, H1 p = none → Ex H1 H2 → IsLU K H2 p xs → Q (.ref p) H2) → ∀ E : XK, sp ws H1 Q E
theorem su2_of {R : List V → Hp → List (List V) → Prop} {ws : List V} {xs : List (List V)} (h : ∀ H1, Ex H H1 → R ws H1 xs) : SpU2 K (spU2 K R) ws H xs := fun H1 e Q q _ => ⟨xs, h H1 e, q⟩
theorem eu2_call {sp : Sp} {dvs ws : List V} {xs : List (List V)} {E : XK} {ta : TA} (h : EvA ta σ H ws) (hs : SpU2 K sp (ws ++ dvs) H xs) : EvU2 K (tCall sp dvs E ta) σ H xs := fun H1 e Q q =>
  h H1 e _ fun H2 e2 => hs H2 (e.trans e2) Q (fun p H3 hp e3 h3 => q p H3 (fresh_back e2 hp) (e2.trans e3) h3) E
theorem RetU2.go {xs : List (List V)} {Q : VK} {H' : Hp} (k : RetU2 K xs H Q) (e : Ex H H') {p : Addr} {H2 : Hp} (hp : H' p = none) (e2 : Ex H' H2) (h : IsLU K H2 p xs) : Q (.ref p) H2 := k p H2 (fresh_back e hp) (e.trans e2) h
theorem s_retU2 {xs : List (List V)} (h : EvU2 K te σ H xs) (k : ∀ p H1, H p = none → Ex H H1 → IsLU K H1 p xs → D.rt (.ref p) H1) : tRet te D σ H := h H (Ex.refl H) _ fun p H1 hp e h1 => k p H1 hp e h1
theorem retU_T {b : Bool} {x y : List (List Tx)} {Q : VK} (k : RetU2 K ((if b = true then x else y).map (List.map vs)) H Q) (hb : b = true) : RetU2 K (x.map (List.map vs)) H Q := by
  rw [if_pos hb] at k
  exact k
theorem retU_F {b : Bool} {x y : List (List Tx)} {Q : VK} (k : RetU2 K ((if b = true then x else y).map (List.map vs)) H Q) (hb : b = false) : RetU2 K (y.map (List.map vs)) H Q := by
  rw [hb, if_neg Bool.false_ne_true] at k
  exact k
/-- compared with the empty list -/
theorem e_eqNil {l : List (List Tx)} (ha : EvU2 K ta σ H (l.map (List.map vs))) (hb : EvL tb σ H []) (ok : ∀ q ∈ l, ∀ p ∈ q, okT p) : Ev (tOp (rEqD K) ta tb) σ H (.bl (decide (l = []))) := fun H1 e1 Q q =>
  ha H1 e1 _ fun r H2 _ e2 hr => hb H2 (e1.trans e2) _ fun r2 H3 _ e3 hr2 => ⟨duD l, duD [], dp_LU (hr.ex e3), .lst (sq_of hr2) .nil, shaped_LU ok, by decide +kernel, by
    cases l with
    | nil =>
      rw [SeqAt.eqv_refl (duD []) (SeqAt.canLay_of_shaped (shaped_LU ok))]
      exact q H3 (e2.trans e3)
    | cons x y => exact q H3 (e2.trans e3)⟩
theorem e_neNil {l : List (List Tx)} (ha : EvU2 K ta σ H (l.map (List.map vs))) (hb : EvL tb σ H []) (ok : ∀ q ∈ l, ∀ p ∈ q, okT p) : Ev (tOp (rNeD K) ta tb) σ H (.bl (!decide (l = []))) := fun H1 e1 Q q =>
  ha H1 e1 _ fun r H2 _ e2 hr => hb H2 (e1.trans e2) _ fun r2 H3 _ e3 hr2 => ⟨duD l, duD [], dp_LU (hr.ex e3), .lst (sq_of hr2) .nil, shaped_LU ok, by decide +kernel, by
    cases l with
    | nil =>
      rw [SeqAt.eqv_refl (duD []) (SeqAt.canLay_of_shaped (shaped_LU ok))]
      exact q H3 (e2.trans e3)
    | cons x y => exact q H3 (e2.trans e3)⟩
/-! ## messages -/
theorem x_msg {s : String} {p : Tx} {Q : Hp → Prop} (h : Ev te σ H (vs p)) (hz : (tx s).length + p.length ≤ 90000) (k : ∀ H1, Ex H H1 → Q H1) : tJs [tC (.str (Str.ofString s)), tFmt te] Str.empty σ H (fun _ H1 => Q H1) := by
  refine ⟨Str.ofString s, rfl, ?_, h H (Ex.refl H) _ fun H1 e => Or.inl ⟨mk p, rfl, ?_, mk p, rfl, ?_, k H1 e⟩⟩
  · rw [lit_of]
    show (mk [] ++ mk (tx s)).length ≤ _
    rw [app_of, len_of, List.nil_append]
    exact sz_of (by omega)
  · rw [len_of]
    exact sz_of (by omega)
  · rw [lit_of]
    show (mk [] ++ mk (tx s) ++ mk p).length ≤ _
    rw [app_of, app_of, len_of, List.nil_append, List.length_append]
    exact sz_of (by omega)
end
/-- an own error made with any one argument -/
theorem pmk_any {X : Cx} {C : Addr} {bmB : List Value} {B newId initId : String} {x : Str} {e : Expr} {ta : TE} {p pos : Pos} (F : ExcBaseFacts B newId initId bmB) (qx : PySem.W.excIn X.K C bmB newId = true) (gC : X.mg x = some (.ref C)) (kC : PySem.W.keepIn X.K (.ref C) = true)
    (r : Raises X (.ref C)) (hg : Gl X x) (he : PE X e ta) (hs : starEach [e] X.env = (false, eval e X.env) :: starEach [] X.env := by rfl) (hdb : (x == ("__debug__" : Str)) = false := by decide) :
    L2N.PMk X (.Call (.Name x p) [e] [] pos) (fun σ H Q => ta σ H fun _ H1 => Q (.ref C) none H1) := by
  intro pins s σ H Q I h
  refine wpAny_Call_Name_kw (ld_glob I hg gC ?_ hdb)
  refine PySem.W.callWith_K (h₀ := X.base) I.ok.mod.kin kC ?_ hs (by rfl)
  rw [hs]
  refine Calls.spliced_cons (thn (he.run pins s σ H _ I h) fun u s1 hv => ?_)
  obtain ⟨v, H1, I1, r1, q1⟩ := hv
  refine Calls.spliced_nil ⟨I1.kIn, ?_⟩
  obtain ⟨_, _, _, _, _, _, _, _, _, _, _, _, _, _, _, _, _, hC, hN, hni, T⟩ := exc_obj I1.kIn qx
  refine wpAny_call_exc_subT F T hC hN hni (fun h' e2 hm => ?_) (by show 1 ≤ sizeLine; rw [sizeLine_eq]; omega)
  exact L2N.mk_of I1 hm r q1 (I1.hok.gone hm.new)
end Vf


namespace K04
open PySem PySem.Spec PyProof.Rows L2 TL Evl Vf
/-! ## written texts -/
def lDot : Tx := tx "."
theorem len_lDot : lDot.length = 1 := by decide +kernel
def lDots : Tx := tx ".."
theorem len_lDots : lDots.length = 2 := by decide +kernel
def lSigns : Tx := tx "abcdefghijklmnopqrstuvwxyzABCDEFGHIJKLMNOPQRSTUVWXYZ0123456789.-_"
theorem len_lSigns : lSigns.length = 65 := by decide +kernel
def lSl : Tx := tx "/"
theorem len_lSl : lSl.length = 1 := by decide +kernel
def lCut : Tx := tx "cut"
theorem len_lCut : lCut.length = 3 := by decide +kernel
def lNil : Tx := tx ""
theorem len_lNil : lNil.length = 0 := by decide +kernel
def l0x : Tx := tx "0x"
theorem len_l0x : l0x.length = 2 := by decide +kernel
def lAny1 : Tx := tx " !\"#$&'()*+,-./0123456789:;<=>?@ABCDEFGHIJKLMNOPQRSTUVWXYZ[\\]^_`"
theorem len_lAny1 : lAny1.length = 64 := by decide +kernel
def lAny2 : Tx := tx "abcdefghijklmnopqrstuvwxyz{|}~\n\t"
theorem len_lAny2 : lAny2.length = 32 := by decide +kernel
def lTops : Tx := tx "tops"
theorem len_lTops : lTops.length = 4 := by decide +kernel
def lSlx : Tx := tx "/x"
theorem len_lSlx : lSlx.length = 2 := by decide +kernel
def l_cbc54eca : Tx := tx "//a"
theorem len_l_cbc54eca : l_cbc54eca.length = 3 := by decide +kernel
def l_56b05807 : Tx := tx "/.."
theorem len_l_56b05807 : l_56b05807.length = 3 := by decide +kernel
def l_a979ef10 : Tx := tx "+"
theorem len_l_a979ef10 : l_a979ef10.length = 1 := by decide +kernel
def l_2548023e : Tx := tx "a/b/c/d/e/f/g/h/"
theorem len_l_2548023e : l_2548023e.length = 16 := by decide +kernel
def l_25c8e1f6 : Tx := tx "/b"
theorem len_l_25c8e1f6 : l_25c8e1f6.length = 2 := by decide +kernel
def lPut : Tx := tx "put"
theorem len_lPut : lPut.length = 3 := by decide +kernel
def lMade : Tx := tx "made"
theorem len_lMade : lMade.length = 4 := by decide +kernel
def l_a1dd7037 : Tx := tx "NoFile"
theorem len_l_a1dd7037 : l_a1dd7037.length = 6 := by decide +kernel
def l_7c383fa6 : Tx := tx "InTheWay"
theorem len_l_7c383fa6 : l_7c383fa6.length = 8 := by decide +kernel
def l_4fe0b609 : Tx := tx "NoPath"
theorem len_l_4fe0b609 : l_4fe0b609.length = 6 := by decide +kernel
def lX : Tx := tx "x"
theorem len_lX : lX.length = 1 := by decide +kernel
def lY : Tx := tx "y"
theorem len_lY : lY.length = 1 := by decide +kernel

/-- the word of a class of errors -/
def word : Nat → Tx
  | 1 => tx "NoPath"
  | 2 => tx "NoFile"
  | 3 => tx "InTheWay"
  | 4 => tx "NoClash"
  | 5 => tx "Clashed"
  | 6 => tx "NoVersion"
  | _ => tx "SameVersion"

/-! ## mirrors -/
/-! ### is_part -/
def m_is_part (ptext : Tx) : Bool := (if (decide (ptext ∈ [lDot, lDots])) = true then false else ((decide ((1 : Int) ≤ (ptext.length : Int)) && decide ((ptext.length : Int) ≤ (12 : Int))) && ((ptext.map (fun k0 : Nat => (decide (k0 ∈ lSigns)))).all id)))
/-! ### is_path -/
def m_is_path_v1 (ptext : Tx) : List Tx := (cuts 47 ptext)
def m_is_path (ptext : Tx) : Bool := ((decide (((m_is_path_v1 ptext).length : Int) ≤ (8 : Int))) && (((m_is_path_v1 ptext).map (fun k0 : Tx => (m_is_part k0))).all id))
/-! ### above -/
def m_above_v1 (ppath : Tx) : List Tx := (cuts 47 ppath)
def m_above (ppath : Tx) : List Tx := ((List.range (((m_above_v1 ppath).length : Int) - (1 : Int)).toNat).map (fun k0 : Nat => (joinL lSl (cutG (m_above_v1 ppath) none (some ((1 : Int) + (k0 : Int)))))))
/-! ### is_beneath -/
def m_is_beneath (ppath : Tx) (pupper : Tx) : Bool := ((pupper ++ lSl).isPrefixOf ppath)
/-! ### is_blocked -/
def m_is_blocked (ptree : List (Tx × Tx)) (ppath : Tx) : Bool := (if (((m_above ppath).map (fun k0 : Tx => (dhas ptree k0))).any id) = true then true else (((dkeys ptree).map (fun k0 : Tx => (m_is_beneath k0 ppath))).any id))
/-! ### done -/
def m_done_v1 (pdeed : List Tx) : Tx := (pdeed.getD (1 : Int).toNat [])
def m_done_v2 (ptree : List (Tx × Tx)) : List (Tx × Tx) := ptree
def m_done_v3 (ptree : List (Tx × Tx)) (pdeed : List Tx) : List (Tx × Tx) := ddel (m_done_v2 ptree) (m_done_v1 pdeed)
def m_done_v4 (ptree : List (Tx × Tx)) (pdeed : List Tx) : List (Tx × Tx) := dput (m_done_v2 ptree) (m_done_v1 pdeed) (pdeed.getD (2 : Int).toNat [])
def m_done (ptree : List (Tx × Tx)) (pdeed : List Tx) : Res (List (Tx × Tx)) := (if (!(m_is_path (m_done_v1 pdeed))) = true then (.exc 1) else (if (decide ((pdeed.getD (0 : Int).toNat []) = lCut)) = true then (if (!dhas (m_done_v2 ptree) (m_done_v1 pdeed)) = true then (.exc 2) else (.ok (m_done_v3 ptree pdeed))) else (if (m_is_blocked ptree (m_done_v1 pdeed)) = true then (.exc 3) else (.ok (m_done_v4 ptree pdeed)))))
/-! ### _law_cell_at -/
def m_law_cell_at (p_script : List Int) (p_k : Int) : Int := (if (decide (p_k < (p_script.length : Int))) = true then (p_script.getD p_k.toNat 0) else (0 : Int))
/-! ### _law_sign_by -/
def m_law_sign_by (p_k : Int) : Tx := [lSigns.getD (p_k % (65 : Int)).toNat 0]
/-! ### _law_name_by -/
def m_law_name_by_v1  : Int := (1 : Int)
def m_law_name_by_v2 (p_shift : Int) : Int := if (decide (((p_shift / (65 : Int)) % (3 : Int)) = (1 : Int))) = true then ((1 : Int) + ((p_shift / (195 : Int)) % (12 : Int))) else m_law_name_by_v1
def m_law_name_by_v3 (p_shift : Int) : Int := ((p_shift / (5 : Int)) % (4 : Int))
def m_law_name_by_v4 (p_shift : Int) (p_k : Int) : List Tx := ((List.range (12 : Int).toNat).map (fun k0 : Nat => (m_law_sign_by (((p_shift / (195 : Int)) + ((7 : Int) * (k0 : Int))) + (p_k * (if (decide ((m_law_name_by_v3 p_shift) = (0 : Int))) = true then (1 : Int) else 0))))))
def m_law_name_by_v5 (p_shift : Int) : Int := (((p_shift / (20 : Int)) % (m_law_name_by_v2 p_shift)) * (if (decide ((m_law_name_by_v3 p_shift) = (1 : Int))) = true then (1 : Int) else 0))
def m_law_name_by_v6 (p_shift : Int) (p_k : Int) : Tx := (m_law_sign_by (p_shift + (p_k * ([(1 : Int), (26 : Int)].getD (if (decide ((m_law_name_by_v3 p_shift) = (3 : Int))) = true then (1 : Int) else 0).toNat 0))))
def m_law_name_by_v7 (p_shift : Int) (p_k : Int) : Tx := (((joinL lNil (cutG (m_law_name_by_v4 p_shift p_k) none (some (m_law_name_by_v5 p_shift)))) ++ (m_law_name_by_v6 p_shift p_k)) ++ (joinL lNil (cutG (m_law_name_by_v4 p_shift p_k) (some (m_law_name_by_v5 p_shift)) (some ((m_law_name_by_v2 p_shift) - (1 : Int))))))
def m_law_name_by_v8 (p_shift : Int) (p_k : Int) : Tx := if (decide ((m_law_name_by_v3 p_shift) = (2 : Int))) = true then (joinL lNil (cutG (m_law_name_by_v4 p_shift p_k) none (some ((1 : Int) + (((p_shift / (65 : Int)) + p_k) % (12 : Int)))))) else (m_law_name_by_v7 p_shift p_k)
def m_law_name_by (p_k : Int) (p_shift : Int) : Tx := (if ((decide ((m_law_name_by_v8 p_shift p_k) = lDot)) || (decide ((m_law_name_by_v8 p_shift p_k) = lDots))) = true then l0x else (m_law_name_by_v8 p_shift p_k))
/-! ### _law_path_by -/
def m_law_path_by_v1 (p_cell : Int) : Int := ([(1 : Int), (1 : Int), (2 : Int), (2 : Int), (3 : Int)].getD (p_cell % (5 : Int)).toNat 0)
def m_law_path_by_v2 (p_cell : Int) (p_shift : Int) : List Tx := ((List.range (m_law_path_by_v1 p_cell).toNat).map (fun k0 : Nat => (m_law_name_by (((p_cell / (5 : Int)) / ([(1 : Int), (3 : Int), (9 : Int)].getD (k0 : Int).toNat 0)) % (3 : Int)) p_shift)))
def m_law_path_by_v3 (p_shift : Int) : List Tx := ((List.range ((1 : Int) + ((p_shift / (7 : Int)) % (5 : Int))).toNat).map (fun k0 : Nat => (m_law_name_by ((3 : Int) + (k0 : Int)) p_shift)))
def m_law_path_by_v4 (p_shift : Int) (p_cell : Int) : List Tx := ((m_law_path_by_v3 p_shift) ++ (m_law_path_by_v2 p_cell p_shift))
def m_law_path_by_v5 (p_shift : Int) (p_cell : Int) : List Tx := (cutG (m_law_path_by_v4 p_shift p_cell) none (some ((1 : Int) + ((p_cell / (13 : Int)) % ((m_law_path_by_v4 p_shift p_cell).length : Int)))))
def m_law_path_by_v6 (p_cell : Int) (p_shift : Int) : List Tx := if (decide ((p_cell % (13 : Int)) = (6 : Int))) = true then (m_law_path_by_v5 p_shift p_cell) else (m_law_path_by_v4 p_shift p_cell)
def m_law_path_by_v7 (p_shift : Int) (p_cell : Int) : List Tx := if (decide ((p_shift % (7 : Int)) = (3 : Int))) = true then (m_law_path_by_v6 p_cell p_shift) else (m_law_path_by_v2 p_cell p_shift)
def m_law_path_by (p_cell : Int) (p_shift : Int) : Tx := (joinL lSl (m_law_path_by_v7 p_shift p_cell))
/-! ### _law_line_by -/
def m_law_line_by_v1  : Tx := lAny1
def m_law_line_by_v2  : Tx := (m_law_line_by_v1 ++ lAny2)
def m_law_line_by_v3 (p_shift : Int) : Int := ((3 : Int) + (p_shift % (60 : Int)))
def m_law_line_by_v4 (p_shift : Int) : Int := if (decide (((p_shift / (60 : Int)) % (4 : Int)) = (3 : Int))) = true then ((3 : Int) + ((p_shift / (240 : Int)) % (600 : Int))) else (m_law_line_by_v3 p_shift)
def m_law_line_by (p_k : Int) (p_shift : Int) : Tx := (joinL lNil ((List.range ([(0 : Int), (1 : Int), (2 : Int), (m_law_line_by_v4 p_shift)].getD (p_k % (4 : Int)).toNat 0).toNat).map (fun k0 : Nat => [m_law_line_by_v2.getD (((p_shift + ((5 : Int) * p_k)) + (k0 : Int)) % (96 : Int)).toNat 0])))
/-! ### _law_is_free -/
def m_law_is_free_step1 (p_path : Tx) : Unit → Tx → Stp (Unit) ((Bool)) := fun s1 y1 => (if (((p_path ++ lSl).isPrefixOf y1) || ((y1 ++ lSl).isPrefixOf p_path)) = true then (Stp.ret false) else (Stp.go ()))
def m_law_is_free (p_tree : List (Tx × Tx)) (p_path : Tx) : Bool := (aftL (runL (m_law_is_free_step1 p_path) (dkeys p_tree) ()) (fun s1 => true))
/-! ### _law_tree_by -/
def m_law_tree_by_v1  : List (Tx × Tx) := []
def m_law_tree_by_v2 (p_script : List Int) (y1 : Nat) : Int := (m_law_cell_at p_script ((4 : Int) + (y1 : Int)))
def m_law_tree_by_v3 (p_script : List Int) (y1 : Nat) (p_shift : Int) : Tx := (m_law_path_by (m_law_tree_by_v2 p_script y1) p_shift)
def m_law_tree_by_v4 (s1 : List (Tx × Tx)) (p_script : List Int) (y1 : Nat) (p_shift : Int) : List (Tx × Tx) := dput s1 (m_law_tree_by_v3 p_script y1 p_shift) (m_law_line_by ((m_law_tree_by_v2 p_script y1) / (135 : Int)) p_shift)
def m_law_tree_by_v5 (s1 : List (Tx × Tx)) (p_script : List Int) (y1 : Nat) (p_shift : Int) : List (Tx × Tx) := if (m_law_is_free s1 (m_law_tree_by_v3 p_script y1 p_shift)) = true then (m_law_tree_by_v4 s1 p_script y1 p_shift) else s1
def m_law_tree_by_step1 (p_script : List Int) (p_shift : Int) : List (Tx × Tx) → Nat → Stp (List (Tx × Tx)) (Unit) := fun s1 y1 => (Stp.go (m_law_tree_by_v5 s1 p_script y1 p_shift))
def m_law_tree_by_v6 (p_script : List Int) (p_shift : Int) : List (Tx × Tx) := outL (runL (m_law_tree_by_step1 p_script p_shift) (List.range ((m_law_cell_at p_script (1 : Int)) % (8 : Int)).toNat) m_law_tree_by_v1)
def m_law_tree_by_v7 (p_script : List Int) : Int := (((m_law_cell_at p_script (1 : Int)) / (8 : Int)) % (16 : Int))
def m_law_tree_by_v8  : Int := (0 : Int)
def m_law_tree_by_v9 (p_script : List Int) : Int := if ((decide ((m_law_tree_by_v7 p_script) = (1 : Int))) || (decide ((m_law_tree_by_v7 p_script) = (9 : Int)))) = true then (60 : Int) else m_law_tree_by_v8
def m_law_tree_by_v10 (p_script : List Int) : Int := if (decide ((m_law_tree_by_v7 p_script) = (4 : Int))) = true then (170 : Int) else (m_law_tree_by_v9 p_script)
def m_law_tree_by_v11 (s2 : List (Tx × Tx)) (y2 : Nat) (p_shift : Int) : List (Tx × Tx) := dput s2 ((lTops ++ (dec (y2 : Int))) ++ lSlx) (m_law_line_by ((y2 : Int) % (3 : Int)) p_shift)
def m_law_tree_by_v12 (y2 : Nat) (s2 : List (Tx × Tx)) (p_shift : Int) : List (Tx × Tx) := if (!dhas s2 (lTops ++ (dec (y2 : Int)))) = true then (m_law_tree_by_v11 s2 y2 p_shift) else s2
def m_law_tree_by_step2 (p_shift : Int) : List (Tx × Tx) → Nat → Stp (List (Tx × Tx)) (Unit) := fun s2 y2 => (Stp.go (m_law_tree_by_v12 y2 s2 p_shift))
def m_law_tree_by_v13 (p_shift : Int) (p_script : List Int) : List (Tx × Tx) := outL (runL (m_law_tree_by_step2 p_shift) (List.range (m_law_tree_by_v10 p_script).toNat) (m_law_tree_by_v6 p_script p_shift))
def m_law_tree_by (p_script : List Int) (p_shift : Int) : List (Tx × Tx) := (m_law_tree_by_v13 p_shift p_script)
/-! ### _law_told -/
def m_law_told (p_tree : List (Tx × Tx)) (p_deed : List Tx) : Res (List (Tx × Tx)) := m_done p_tree p_deed
/-! ### _law_path_asked -/
def m_law_path_asked_v1 (p_script : List Int) : Int := (m_law_cell_at p_script (2 : Int))
def m_law_path_asked_v2 (p_script : List Int) (p_shift : Int) : Tx := (m_law_path_by (m_law_cell_at p_script (3 : Int)) p_shift)
def m_law_path_asked_v3 (p_script : List Int) (p_shift : Int) : List Tx := [lNil, (lSl ++ (m_law_path_asked_v2 p_script p_shift)), ((m_law_path_asked_v2 p_script p_shift) ++ lSl), ((m_law_path_asked_v2 p_script p_shift) ++ l_cbc54eca), ((m_law_path_asked_v2 p_script p_shift) ++ l_56b05807), ((m_law_path_asked_v2 p_script p_shift) ++ l_a979ef10)]
def m_law_path_asked_v4 (p_tree : List (Tx × Tx)) (p_script : List Int) : Tx := ((dkeys p_tree).getD (((m_law_path_asked_v1 p_script) / (6 : Int)) % (p_tree.length : Int)).toNat [])
def m_law_path_asked_v5 (p_tree : List (Tx × Tx)) (p_script : List Int) : Int := ((((cuts 47 (m_law_path_asked_v4 p_tree p_script)).length : Int) - 1) + (1 : Int))
def m_law_path_asked_v6 (p_script : List Int) (p_tree : List (Tx × Tx)) (p_shift : Int) : Tx := if ((decide (((m_law_path_asked_v1 p_script) % (6 : Int)) = (2 : Int))) && (decide ((m_law_path_asked_v5 p_tree p_script) < (7 : Int)))) = true then ((((m_law_path_asked_v4 p_tree p_script) ++ lSl) ++ (m_law_name_by ((m_law_path_asked_v1 p_script) / (42 : Int)) p_shift)) ++ ([lNil, l_25c8e1f6].getD (((m_law_path_asked_v1 p_script) / (84 : Int)) % (2 : Int)).toNat [])) else (m_law_path_asked_v4 p_tree p_script)
def m_law_path_asked_v7 (p_script : List Int) (p_tree : List (Tx × Tx)) (p_shift : Int) : Tx := if (decide (((m_law_path_asked_v1 p_script) % (6 : Int)) = (3 : Int))) = true then (joinL lSl (cutG (cuts 47 (m_law_path_asked_v6 p_script p_tree p_shift)) none (some ((1 : Int) + (((m_law_path_asked_v1 p_script) / (42 : Int)) % (m_law_path_asked_v5 p_tree p_script)))))) else (m_law_path_asked_v6 p_script p_tree p_shift)
def m_law_path_asked_v8 (p_script : List Int) (p_tree : List (Tx × Tx)) (p_shift : Int) : Tx := if ((decide (((m_law_path_asked_v1 p_script) % (6 : Int)) > (1 : Int))) && (decide ((p_tree.length : Int) > (0 : Int)))) = true then (m_law_path_asked_v7 p_script p_tree p_shift) else (m_law_path_asked_v2 p_script p_shift)
def m_law_path_asked (p_script : List Int) (p_shift : Int) (p_tree : List (Tx × Tx)) : Tx := (if (decide (((m_law_path_asked_v1 p_script) % (6 : Int)) = (1 : Int))) = true then (((m_law_path_asked_v3 p_script p_shift) ++ [(l_2548023e ++ (m_law_path_asked_v2 p_script p_shift))]).getD (((m_law_path_asked_v1 p_script) / (6 : Int)) % (7 : Int)).toNat []) else (m_law_path_asked_v8 p_script p_tree p_shift))
/-! ### law -/
def m_law_v1 (p_script : List Int) : Int := (m_law_cell_at p_script (0 : Int))
def m_law_v2 (p_script : List Int) : List (Tx × Tx) := (m_law_tree_by p_script (m_law_v1 p_script))
def m_law_v3 (p_script : List Int) : Int := (m_law_cell_at p_script (2 : Int))
def m_law_v4 (p_script : List Int) : Tx := (m_law_path_asked p_script (m_law_v1 p_script) (m_law_v2 p_script))
def m_law_v5 (p_script : List Int) : Tx := (m_law_line_by ((m_law_v3 p_script) / (360 : Int)) (m_law_v1 p_script))
def m_law_v6 (p_script : List Int) : List Tx := [lPut, (m_law_v4 p_script), (m_law_v5 p_script)]
def m_law_v7  : Tx := lMade
def m_law_v8 (p_script : List Int) : List (Tx × Tx) := (m_law_v2 p_script)
def m_law_v9 (p_script : List Int) : List (Tx × Tx) := dput (m_law_v8 p_script) (m_law_v4 p_script) (m_law_v5 p_script)
def m_law_v10 (p_script : List Int) : List Tx := [lCut, (m_law_v4 p_script)]
def m_law_v11 (p_script : List Int) : List (Tx × Tx) := ddel (m_law_v9 p_script) (m_law_v4 p_script)
def m_law_v12 (p_script : List Int) : Tx := if (!dhas (m_law_v2 p_script) (m_law_v4 p_script)) = true then l_a1dd7037 else m_law_v7
def m_law_v13 (p_script : List Int) : Tx := if (!(m_law_is_free (m_law_v2 p_script) (m_law_v4 p_script))) = true then l_7c383fa6 else m_law_v7
def m_law_v14 (p_script : List Int) : List Tx := if (decide ((((m_law_v3 p_script) + ((m_law_v3 p_script) / (42 : Int))) % (2 : Int)) = (0 : Int))) = true then (m_law_v10 p_script) else (m_law_v6 p_script)
def m_law_v15 (p_script : List Int) : Tx := if (decide ((((m_law_v3 p_script) + ((m_law_v3 p_script) / (42 : Int))) % (2 : Int)) = (0 : Int))) = true then (m_law_v12 p_script) else (m_law_v13 p_script)
def m_law_v16 (p_script : List Int) : List (Tx × Tx) := if (decide ((((m_law_v3 p_script) + ((m_law_v3 p_script) / (42 : Int))) % (2 : Int)) = (0 : Int))) = true then (m_law_v11 p_script) else (m_law_v9 p_script)
def m_law_v17 (p_script : List Int) : Tx := if (decide (((m_law_v3 p_script) % (6 : Int)) = (1 : Int))) = true then l_4fe0b609 else (m_law_v15 p_script)
def m_law_v18 (p_script : List Int) : List (Tx × Tx) := (m_law_v2 p_script)
def m_law_v19 (lT17 : List (Tx × Tx)) : List (Tx × Tx) := dput lT17 lX lY
def m_law (p_script : List Int) : Bool := (resM (m_law_told (m_law_v2 p_script) (m_law_v14 p_script)) (fun lT17 => (if (false || (!decide (lMade = (m_law_v17 p_script)))) = true then false else (if (!decide ((m_law_v17 p_script) = lMade)) = true then false else (if ((!true) || false) = true then false else true)))) (fun kT17 => (if (false || (!decide ((word kT17) = (m_law_v17 p_script)))) = true then false else (if (!decide ((m_law_v17 p_script) = lMade)) = true then (decide (true = true)) else false))))

theorem lNil_eq : lNil = [] := rfl
theorem lSl_eq : lSl = [47] := rfl
theorem b01 (b : Bool) : 0 ≤ (if b = true then (1 : Int) else 0) ∧ (if b = true then (1 : Int) else 0) ≤ 1 := by cases b <;> decide
theorem g26 (n : Nat) : 0 ≤ [(1 : Int), (26 : Int)].getD n 0 ∧ [(1 : Int), (26 : Int)].getD n 0 ≤ 26 := by
  match n with
  | 0 => decide
  | 1 => decide
  | n + 2 => exact ⟨by simp, by simp⟩
theorem jl_nil : ∀ l : List Tx, joinL [] l = l.flatten
  | [] => rfl
  | [p] => by simp [joinL]
  | p :: q :: r => by
    show p ++ ([] ++ joinL [] (q :: r)) = _
    rw [jl_nil (q :: r)]
    simp
theorem sumLen_flat : ∀ l : List Tx, l.flatten.length = sumLen l
  | [] => rfl
  | p :: r => by rw [List.flatten_cons, List.length_append, sumLen_flat r, sumLen_cons]
theorem jl0 (l : List Tx) : (joinL lNil l).length = sumLen l := by rw [lNil_eq, jl_nil, sumLen_flat]
theorem sum_ones {α : Type} (g : α → Tx) (hg : ∀ k, (g k).length = 1) : ∀ l : List α, sumLen (l.map g) = l.length
  | [] => rfl
  | k :: r => by
    rw [List.map_cons, sumLen_cons, hg, sum_ones g hg r, List.length_cons]
    omega
theorem sum_le {n : Nat} : ∀ {l : List Tx}, (∀ p ∈ l, p.length ≤ n) → sumLen l ≤ n * l.length
  | [], _ => by simp [sumLen_nil]
  | p :: r, h => by
    have h1 := h p List.mem_cons_self
    have h2 := sum_le (l := r) (fun q hq => h q (List.mem_cons_of_mem _ hq))
    rw [sumLen_cons, List.length_cons, Nat.mul_succ]
    omega
theorem getD_mem {l : List Nat} {i : Nat} (h : i < l.length) : l.getD i 0 ∈ l := by
  rw [List.getD_eq_getElem?_getD, List.getElem?_eq_getElem h]
  exact List.getElem_mem h
theorem mem_cut {α : Type} {l : List α} {a b : Option Int} {x : α} (h : x ∈ cutG l a b) : x ∈ l := List.mem_of_mem_drop (List.mem_of_mem_take h)

/-! names -/
/-- a part of a path, as the document has it -/
def Part (p : Tx) : Prop := (1 ≤ p.length ∧ p.length ≤ 12) ∧ (∀ c ∈ p, c ∈ lSigns) ∧ p ≠ lDot ∧ p ≠ lDots
instance (p : Tx) : Decidable (Part p) := by unfold Part; exact inferInstance
theorem signs_ne : ∀ c ∈ lSigns, c ≠ 47 ∧ c < 128 := by decide +kernel
theorem Part.no {p : Tx} (h : Part p) : 47 ∉ p := fun m => (signs_ne _ (h.2.1 _ m)).1 rfl
theorem sign_mem (k : Int) : ∀ c ∈ m_law_sign_by k, c ∈ lSigns := fun c h => by
  unfold m_law_sign_by at h
  rw [List.mem_singleton.mp h]
  exact getD_mem (by rw [len_lSigns]; omega)
theorem name_v2 (s : Int) : 1 ≤ m_law_name_by_v2 s ∧ m_law_name_by_v2 s ≤ 12 := by
  unfold m_law_name_by_v2 m_law_name_by_v1
  split <;> omega
theorem name_v4 (s k : Int) : sumLen (m_law_name_by_v4 s k) = 12 := sum_ones _ (fun _ => rfl) _
theorem name_v5 (s : Int) : 0 ≤ m_law_name_by_v5 s ∧ m_law_name_by_v5 s < m_law_name_by_v2 s := by
  have h2 := name_v2 s
  unfold m_law_name_by_v5
  have h3 := Int.emod_nonneg (s / 20) (b := m_law_name_by_v2 s) (by omega)
  have h4 := Int.emod_lt_of_pos (s / 20) (b := m_law_name_by_v2 s) (by omega)
  cases decide (m_law_name_by_v3 s = 1)
  · rw [if_neg (by decide), Int.mul_zero]
    omega
  · rw [if_pos rfl, Int.mul_one]
    omega
theorem v4_one (s k : Int) : ∀ p ∈ m_law_name_by_v4 s k, p.length = 1 ∧ ∀ c ∈ p, c ∈ lSigns := fun p h => by
  obtain ⟨j, _, rfl⟩ := List.mem_map.mp h
  exact ⟨rfl, sign_mem _⟩
theorem flat_ones : ∀ {l : List Tx}, (∀ p ∈ l, p.length = 1 ∧ ∀ c ∈ p, c ∈ lSigns) → l.flatten.length = l.length ∧ ∀ c ∈ l.flatten, c ∈ lSigns
  | [], _ => ⟨rfl, fun c h => by cases h⟩
  | p :: r, h => by
    obtain ⟨a, b⟩ := flat_ones (l := r) fun q hq => h q (List.mem_cons_of_mem _ hq)
    obtain ⟨c, d⟩ := h p List.mem_cons_self
    refine ⟨by rw [List.flatten_cons, List.length_append, a, c, List.length_cons]; omega, fun x hx => ?_⟩
    rw [List.flatten_cons] at hx
    rcases List.mem_append.mp hx with e | e
    · exact d x e
    · exact b x e
theorem cut_ones (s k : Int) (a b : Option Int) : (joinL lNil (cutG (m_law_name_by_v4 s k) a b)).length = (cutG (m_law_name_by_v4 s k) a b).length ∧ ∀ c ∈ joinL lNil (cutG (m_law_name_by_v4 s k) a b), c ∈ lSigns := by
  rw [lNil_eq, jl_nil]
  exact flat_ones fun p hp => v4_one s k p (mem_cut hp)
theorem cut_to {α : Type} (l : List α) {i : Int} (h : 0 ≤ i) : cutG l none (some i) = l.take i.toNat := by
  obtain ⟨n, rfl⟩ := Int.eq_ofNat_of_zero_le h
  exact cutG_to l n
theorem cut_mid_len {α : Type} (l : List α) {i j : Int} (h : 0 ≤ i) (hj : i ≤ j) (hl : j ≤ l.length) : ((cutG l (some i) (some j)).length : Int) = j - i := by
  obtain ⟨n, rfl⟩ := Int.eq_ofNat_of_zero_le h
  obtain ⟨m, rfl⟩ := Int.eq_ofNat_of_zero_le (Int.le_trans h hj)
  unfold cutG
  rw [HT.sIx_nat, HT.sIx_nat, List.length_take, List.length_drop]
  omega
theorem name_len (s k : Int) : (1 ≤ (m_law_name_by_v8 s k).length ∧ (m_law_name_by_v8 s k).length ≤ 12) ∧ ∀ c ∈ m_law_name_by_v8 s k, c ∈ lSigns := by
  have h2 := name_v2 s
  have h5 := name_v5 s
  have hl : (m_law_name_by_v4 s k).length = 12 := rfl
  unfold m_law_name_by_v8
  split
  · have h := cut_ones s k none (some (1 + ((s / 65 + k) % 12)))
    refine ⟨?_, h.2⟩
    rw [h.1, cut_to _ (by omega), List.length_take, hl]
    omega
  · unfold m_law_name_by_v7
    have ha := cut_ones s k none (some (m_law_name_by_v5 s))
    have hb := cut_ones s k (some (m_law_name_by_v5 s)) (some (m_law_name_by_v2 s - 1))
    have hc := cut_mid_len (m_law_name_by_v4 s k) h5.1 (show m_law_name_by_v5 s ≤ m_law_name_by_v2 s - 1 by omega) (by rw [hl]; omega)
    have h6 : (m_law_name_by_v6 s k).length = 1 := rfl
    refine ⟨?_, fun c h => ?_⟩
    · rw [List.length_append, List.length_append, ha.1, hb.1, h6, cut_to _ h5.1, List.length_take, hl]
      omega
    · rcases List.mem_append.mp h with e | e
      · rcases List.mem_append.mp e with e | e
        · exact ha.2 c e
        · exact sign_mem _ c e
      · exact hb.2 c e
theorem name_part (k s : Int) : Part (m_law_name_by k s) := by
  have h := name_len s k
  unfold m_law_name_by
  cases e : (decide (m_law_name_by_v8 s k = lDot) || decide (m_law_name_by_v8 s k = lDots)) with
  | true =>
    rw [if_pos rfl]
    exact ⟨by decide, by decide, by decide, by decide⟩
  | false =>
    rw [if_neg Bool.false_ne_true]
    have e2 := Bool.or_eq_false_iff.mp e
    exact ⟨h.1, h.2, of_decide_eq_false e2.1, of_decide_eq_false e2.2⟩

/-! paths as rows of parts -/
def Parts (l : List Tx) : Prop := (1 ≤ l.length ∧ l.length ≤ 8) ∧ ∀ p ∈ l, Part p
instance (l : List Tx) : Decidable (Parts l) := by unfold Parts; exact inferInstance
theorem Parts.sum {l : List Tx} (h : Parts l) : sumLen l ≤ 96 := by
  have h1 := sum_le (n := 12) (l := l) fun p hp => (h.2 p hp).1.2
  have h2 := h.1
  omega
theorem Parts.len {l : List Tx} (h : Parts l) : (joinL lSl l).length ≤ 104 := by
  have h1 := joinL_len lSl l
  have h2 := h.sum
  have h3 := h.1
  rw [lSl_eq] at h1 ⊢
  simp only [List.length_cons, List.length_nil] at h1
  omega
/-- the text of a path -/
def Pth (p : Tx) : Prop := ∃ l, Parts l ∧ p = joinL lSl l
theorem Pth.len {p : Tx} (h : Pth p) : p.length ≤ 104 := by
  obtain ⟨l, hl, rfl⟩ := h
  exact hl.len
theorem Parts.cuts {l : List Tx} (h : Parts l) : cuts 47 (joinL lSl l) = l := spl_join (List.length_pos_iff.mp h.1.1) fun p hp => (h.2 p hp).no
theorem cuts_two : ∀ (a r : Tx), cuts 47 (a ++ 47 :: r) = cuts 47 a ++ cuts 47 r
  | [], r => by rw [List.nil_append, cuts_hit, cuts_nil]; rfl
  | d :: a, r => by
    rw [List.cons_append]
    by_cases h : d = 47
    · subst h
      rw [cuts_hit, cuts_hit, cuts_two a r]
      rfl
    · rw [cuts_miss h, cuts_miss h, cuts_two a r]
      cases e : cuts 47 a with
      | nil => exact absurd e (cuts_ne 47 a)
      | cons p q => rfl
theorem joinL_two (c : Nat) : ∀ (P R : List Tx), P ≠ [] → R ≠ [] → joinL [c] (P ++ R) = joinL [c] P ++ c :: joinL [c] R
  | [], _, h, _ => absurd rfl h
  | [p], R, _, h => by
    cases R with
    | nil => exact absurd rfl h
    | cons q r => rfl
  | p :: q :: r, R, _, h => by
    have ih := joinL_two c (q :: r) R (by simp) h
    show p ++ ([c] ++ joinL [c] ((q :: r) ++ R)) = _
    rw [ih]
    simp [joinL]
/-- a text's parts put together again are the text -/
theorem join_cuts : ∀ p : Tx, joinL [47] (cuts 47 p) = p
  | [] => rfl
  | d :: r => by
    have ih := join_cuts r
    by_cases h : d = 47
    · subst h
      rw [cuts_hit]
      cases e : cuts 47 r with
      | nil => exact absurd e (cuts_ne 47 r)
      | cons p q =>
        rw [e] at ih
        show [] ++ ([47] ++ joinL [47] (p :: q)) = 47 :: r
        rw [ih]
        rfl
    · rw [cuts_miss h]
      cases e : cuts 47 r with
      | nil => exact absurd e (cuts_ne 47 r)
      | cons p q =>
        rw [e] at ih
        rw [← ih]
        cases q <;> rfl
instance (p : Tx) : Decidable (Pth p) := decidable_of_iff (Parts (cuts 47 p)) ⟨fun h => ⟨_, h, (join_cuts p).symm⟩, fun ⟨l, h, e⟩ => by rw [e, h.cuts]; exact h⟩
theorem pth_iff (p : Tx) : Pth p ↔ Parts (cuts 47 p) := ⟨fun ⟨l, h, e⟩ => by rw [e, h.cuts]; exact h, fun h => ⟨_, h, (join_cuts p).symm⟩⟩
/-- the one lies beneath the other -/
def Ben (p u : Tx) : Prop := (cuts 47 u).length < (cuts 47 p).length ∧ (cuts 47 p).take (cuts 47 u).length = cuts 47 u
instance (p u : Tx) : Decidable (Ben p u) := by unfold Ben; exact inferInstance
theorem prefix_ben (p u : Tx) : (u ++ lSl).isPrefixOf p = decide (Ben p u) := by
  rw [lSl_eq]
  by_cases h : Ben p u
  · rw [decide_eq_true h]
    have e : cuts 47 p = cuts 47 u ++ (cuts 47 p).drop (cuts 47 u).length := by
      conv => lhs; rw [← List.take_append_drop (cuts 47 u).length (cuts 47 p), h.2]
    have hd : (cuts 47 p).drop (cuts 47 u).length ≠ [] := fun z => by
      have := congrArg List.length z
      rw [List.length_drop, List.length_nil] at this
      have := h.1
      omega
    have e2 := congrArg (joinL [47]) e
    rw [joinL_two 47 _ _ (cuts_ne 47 u) hd, join_cuts, join_cuts] at e2
    rw [e2]
    exact List.isPrefixOf_iff_prefix.mpr ⟨joinL [47] ((cuts 47 p).drop (cuts 47 u).length), by simp⟩
  · rw [decide_eq_false h]
    cases e : (u ++ [47]).isPrefixOf p with
    | false => rfl
    | true =>
      obtain ⟨r, hr⟩ := List.isPrefixOf_iff_prefix.mp e
      have h1 := congrArg (cuts 47) hr
      rw [List.append_assoc, show [47] ++ r = 47 :: r from rfl, cuts_two] at h1
      have h2 : 0 < (cuts 47 r).length := List.length_pos_iff.mpr (cuts_ne 47 r)
      exact absurd ⟨by rw [← h1, List.length_append]; omega, by rw [← h1, List.take_left]⟩ h
theorem cuts_inj {p q : Tx} (h : cuts 47 p = cuts 47 q) : p = q := by rw [← join_cuts p, h, join_cuts]

theorem is_part_of (p : Tx) : m_is_part p = decide (Part p) := by
  unfold m_is_part
  by_cases h1 : p ∈ [lDot, lDots]
  · rw [decide_eq_true h1, if_pos rfl, decide_eq_false]
    intro h
    rcases List.mem_cons.mp h1 with e | e
    · exact h.2.2.1 e
    · exact h.2.2.2 (List.mem_singleton.mp e)
  · rw [decide_eq_false h1, if_neg Bool.false_ne_true]
    have e : (p.map (fun k0 : Nat => (decide (k0 ∈ lSigns)))).all id = p.all (fun k => decide (k ∈ lSigns)) := by rw [List.all_map]; rfl
    rw [e]
    by_cases h : Part p
    · rw [decide_eq_true h, decide_eq_true (by have := h.1; omega), decide_eq_true (by have := h.1; omega)]
      exact List.all_eq_true.mpr fun c hc => decide_eq_true (h.2.1 c hc)
    · rw [decide_eq_false h]
      by_cases h2 : 1 ≤ p.length ∧ p.length ≤ 12
      · rw [decide_eq_true (by omega), decide_eq_true (by omega)]
        show p.all _ = false
        cases h3 : p.all (fun k => decide (k ∈ lSigns)) with
        | false => rfl
        | true =>
          refine absurd ⟨h2, fun c hc => of_decide_eq_true (List.all_eq_true.mp h3 c hc), fun z => h1 ?_, fun z => h1 ?_⟩ h
          · rw [z]; exact List.mem_cons_self
          · rw [z]; exact List.mem_cons_of_mem _ List.mem_cons_self
      · by_cases h3 : (1 : Int) ≤ (p.length : Int)
        · rw [decide_eq_false (show ¬ (p.length : Int) ≤ 12 by omega), Bool.and_false]
          rfl
        · rw [decide_eq_false h3]
          rfl
theorem is_path_of (p : Tx) : m_is_path p = decide (Pth p) := by
  unfold m_is_path
  show (decide (((cuts 47 p).length : Int) ≤ 8) && ((cuts 47 p).map (fun k0 : Tx => m_is_part k0)).all id) = _
  have hn := List.length_pos_iff.mpr (cuts_ne 47 p)
  have e : ((cuts 47 p).map (fun k0 : Tx => m_is_part k0)).all id = (cuts 47 p).all (fun k => decide (Part k)) := by
    rw [List.all_map]
    congr 1
    funext k
    exact is_part_of k
  rw [e]
  by_cases h : Pth p
  · have h2 := (pth_iff p).mp h
    rw [decide_eq_true h, decide_eq_true (by have := h2.1; omega)]
    exact List.all_eq_true.mpr fun k hk => decide_eq_true (h2.2 k hk)
  · rw [decide_eq_false h]
    by_cases h3 : ((cuts 47 p).length : Int) ≤ 8
    · rw [decide_eq_true h3]
      show (cuts 47 p).all _ = false
      cases h4 : (cuts 47 p).all (fun k => decide (Part k)) with
      | false => rfl
      | true => exact absurd ((pth_iff p).mpr ⟨⟨hn, by omega⟩, fun k hk => of_decide_eq_true (List.all_eq_true.mp h4 k hk)⟩) h
    · rw [decide_eq_false h3]
      rfl

theorem above_mem {p u : Tx} : u ∈ m_above p ↔ Ben p u := by
  have e : m_above p = (List.range ((cuts 47 p).length - 1)).map fun k => joinL [47] ((cuts 47 p).take (k + 1)) := by
    unfold m_above m_above_v1
    rw [lSl_eq]
    have e3 : (((cuts 47 p).length : Nat) : Int) - 1 = (((cuts 47 p).length - 1 : Nat) : Int) := by
      have := List.length_pos_iff.mpr (cuts_ne 47 p)
      omega
    rw [e3, Int.toNat_natCast]
    apply List.map_congr_left
    intro k hk
    show joinL [47] (cutG (cuts 47 p) none (some ((1 : Int) + (k : Int)))) = _
    rw [show (1 : Int) + (k : Int) = ((k + 1 : Nat) : Int) by omega, cutG_to]
  have nost : ∀ (n : Nat), ∀ x ∈ (cuts 47 p).take n, 47 ∉ x := fun n x hx => cuts_free 47 p x (List.mem_of_mem_take hx)
  rw [e]
  constructor
  · intro hm
    obtain ⟨k, hk, rfl⟩ := List.mem_map.mp hm
    have hk2 := List.mem_range.mp hk
    have hne : (cuts 47 p).take (k + 1) ≠ [] := fun z => by
      have h5 := congrArg List.length z
      rw [List.length_take, List.length_nil] at h5
      have := List.length_pos_iff.mpr (cuts_ne 47 p)
      omega
    have ec : cuts 47 (joinL [47] ((cuts 47 p).take (k + 1))) = (cuts 47 p).take (k + 1) := spl_join hne (nost _)
    refine ⟨by rw [ec, List.length_take]; omega, ?_⟩
    rw [ec, List.length_take, Nat.min_eq_left (by omega)]
  · intro h
    have hu := List.length_pos_iff.mpr (cuts_ne 47 u)
    refine List.mem_map.mpr ⟨(cuts 47 u).length - 1, List.mem_range.mpr (by have := h.1; omega), ?_⟩
    rw [Nat.sub_add_cancel hu, h.2, join_cuts]

theorem above_cnt (p : Tx) : (m_above p).length ≤ p.length := by
  have h := cuts_len 47 p
  unfold m_above m_above_v1
  rw [List.length_map, List.length_range]
  omega

theorem path_v1 (c : Int) : 1 ≤ m_law_path_by_v1 c ∧ m_law_path_by_v1 c ≤ 3 := by
  unfold m_law_path_by_v1
  have h : ∀ n : Nat, n < 5 → 1 ≤ [(1 : Int), (1 : Int), (2 : Int), (2 : Int), (3 : Int)].getD n 0 ∧ [(1 : Int), (1 : Int), (2 : Int), (2 : Int), (3 : Int)].getD n 0 ≤ 3 := by decide
  exact h _ (by omega)
theorem g139 (n : Nat) : 0 ≤ [(1 : Int), (3 : Int), (9 : Int)].getD n 0 ∧ [(1 : Int), (3 : Int), (9 : Int)].getD n 0 ≤ 9 ∧ (n < 3 → 0 < [(1 : Int), (3 : Int), (9 : Int)].getD n 0) := by
  match n with
  | 0 => decide
  | 1 => decide
  | 2 => decide
  | n + 3 => exact ⟨by simp, by simp, fun h => by omega⟩
theorem map_parts {n : Nat} (g : Nat → Int) (s : Int) : ∀ p ∈ (List.range n).map (fun k => m_law_name_by (g k) s), Part p := fun p hp => by
  obtain ⟨k, _, rfl⟩ := List.mem_map.mp hp
  exact name_part _ _
theorem path_v2 (c s : Int) : ((m_law_path_by_v2 c s).length : Int) = m_law_path_by_v1 c ∧ ∀ p ∈ m_law_path_by_v2 c s, Part p := by
  have h := path_v1 c
  exact ⟨by unfold m_law_path_by_v2; rw [List.length_map, List.length_range]; omega, map_parts _ _⟩

theorem path_v3 (s : Int) : (1 ≤ (m_law_path_by_v3 s).length ∧ (m_law_path_by_v3 s).length ≤ 5) ∧ ∀ p ∈ m_law_path_by_v3 s, Part p := by
  refine ⟨?_, map_parts _ _⟩
  unfold m_law_path_by_v3
  rw [List.length_map, List.length_range]
  omega
theorem path_v4 (s c : Int) : Parts (m_law_path_by_v4 s c) := by
  have h := path_v1 c
  have h2 := path_v2 c s
  have h3 := path_v3 s
  unfold m_law_path_by_v4
  refine ⟨by rw [List.length_append]; omega, fun p hp => ?_⟩
  rcases List.mem_append.mp hp with e | e
  · exact h3.2 p e
  · exact h2.2 p e
theorem path_v7 (s c : Int) : Parts (m_law_path_by_v7 s c) := by
  have h1 := path_v1 c
  have h2 := path_v2 c s
  have h3 := path_v4 s c
  unfold m_law_path_by_v7
  split
  · unfold m_law_path_by_v6
    split
    · unfold m_law_path_by_v5
      have h4 := Int.emod_nonneg (c / 13) (b := ((m_law_path_by_v4 s c).length : Int)) (by have := h3.1; omega)
      have h5 := Int.emod_lt_of_pos (c / 13) (b := ((m_law_path_by_v4 s c).length : Int)) (by have := h3.1; omega)
      refine ⟨?_, fun p hp => h3.2 p (mem_cut hp)⟩
      rw [cut_to _ (by omega), List.length_take]
      have := h3.1
      omega
    · exact h3
  · exact ⟨by omega, h2.2⟩
theorem path_ok (c s : Int) : Pth (m_law_path_by c s) := ⟨_, path_v7 s c, rfl⟩

theorem anys : ∀ c ∈ m_law_line_by_v2, c < 128 := by decide +kernel
theorem line_v4 (s : Int) : 3 ≤ m_law_line_by_v4 s ∧ m_law_line_by_v4 s ≤ 602 := by
  unfold m_law_line_by_v4 m_law_line_by_v3
  split <;> omega
theorem line_size (k s : Int) : 0 ≤ [(0 : Int), (1 : Int), (2 : Int), (m_law_line_by_v4 s)].getD (k % (4 : Int)).toNat 0 ∧ [(0 : Int), (1 : Int), (2 : Int), (m_law_line_by_v4 s)].getD (k % (4 : Int)).toNat 0 ≤ 602 := by
  have h := line_v4 s
  have h4 : (k % 4).toNat < 4 := by omega
  match e : (k % 4).toNat, h4 with
  | 0, _ => exact ⟨show (0 : Int) ≤ 0 by decide, show (0 : Int) ≤ 602 by decide⟩
  | 1, _ => exact ⟨show (0 : Int) ≤ 1 by decide, show (1 : Int) ≤ 602 by decide⟩
  | 2, _ => exact ⟨show (0 : Int) ≤ 2 by decide, show (2 : Int) ≤ 602 by decide⟩
  | 3, _ => exact ⟨Int.le_trans (by decide) h.1, h.2⟩
theorem line_sum (k s : Int) : sumLen ((List.range ([(0 : Int), (1 : Int), (2 : Int), (m_law_line_by_v4 s)].getD (k % (4 : Int)).toNat 0).toNat).map (fun k0 : Nat => [m_law_line_by_v2.getD (((s + ((5 : Int) * k)) + (k0 : Int)) % (96 : Int)).toNat 0])) ≤ 602 := by
  rw [sum_ones _ (fun _ => rfl), List.length_range]
  have := line_size k s
  omega
theorem line_ok (k s : Int) : (m_law_line_by k s).length ≤ 602 ∧ ∀ c ∈ m_law_line_by k s, c < 128 := by
  unfold m_law_line_by
  refine ⟨by rw [jl0]; exact line_sum k s, fun c hc => ?_⟩
  rw [lNil_eq, jl_nil] at hc
  obtain ⟨p, hp, hcp⟩ := List.mem_flatten.mp hc
  obtain ⟨j, _, rfl⟩ := List.mem_map.mp hp
  rw [List.mem_singleton.mp hcp]
  exact anys _ (getD_mem (by rw [show List.length m_law_line_by_v2 = 96 by decide +kernel]; omega))

/-- nothing beneath the path, nothing above it -/
def Free (ks : List Tx) (p : Tx) : Prop := ∀ k ∈ ks, ¬ Ben k p ∧ ¬ Ben p k
instance (ks : List Tx) (p : Tx) : Decidable (Free ks p) := by unfold Free; exact inferInstance
theorem free_run (p : Tx) : ∀ ks : List Tx, aftL (runL (m_law_is_free_step1 p) ks ()) (fun s1 => true) = decide (Free ks p)
  | [] => (decide_eq_true (fun k h => nomatch h)).symm
  | y :: r => by
    have ih := free_run p r
    have e : ((p ++ lSl).isPrefixOf y || (y ++ lSl).isPrefixOf p) = (decide (Ben y p) || decide (Ben p y)) := by rw [prefix_ben, prefix_ben]
    by_cases h : (decide (Ben y p) || decide (Ben p y)) = true
    · have h1 : m_law_is_free_step1 p () y = .ret false := by
        show (if _ = true then _ else _) = _
        rw [e, if_pos h]
      have hf : ¬ Free (y :: r) p := fun f => by
        have := f y List.mem_cons_self
        rw [Bool.or_eq_true, decide_eq_true_eq, decide_eq_true_eq] at h
        exact h.elim this.1 this.2
      rw [runL_ret h1, decide_eq_false hf]
      rfl
    · have h1 : m_law_is_free_step1 p () y = .go () := by
        show (if _ = true then _ else _) = _
        rw [e, if_neg h]
      rw [runL_go h1, ih]
      have hn : ¬ Ben y p ∧ ¬ Ben p y := by
        rw [Bool.or_eq_true, decide_eq_true_eq, decide_eq_true_eq, not_or] at h
        exact h
      by_cases f : Free r p
      · rw [decide_eq_true f]
        exact (decide_eq_true (p := Free (y :: r) p) fun k hk => (List.mem_cons.mp hk).elim (fun z => by rw [z]; exact hn) (f k)).symm
      · rw [decide_eq_false f]
        exact (decide_eq_false (p := Free (y :: r) p) fun g => f fun k hk => g k (List.mem_cons_of_mem _ hk)).symm
theorem free_of (l : List (Tx × Tx)) (p : Tx) : m_law_is_free l p = decide (Free (dkeys l) p) := free_run p _

/-! files -/
def okV (t : Tx) : Prop := t.length ≤ 602 ∧ ∀ c ∈ t, c < 128
structure Good (l : List (Tx × Tx)) : Prop where
  nd : (dkeys l).Nodup
  pth : ∀ k ∈ dkeys l, Pth k
  val : ∀ q ∈ l, okV q.2
theorem Good.nil : Good [] := ⟨List.nodup_nil, fun k h => (nomatch h), fun q h => (nomatch h)⟩
theorem Good.put {l : List (Tx × Tx)} {k v : Tx} (g : Good l) (hk : Pth k) (hv : okV v) : Good (dput l k v) :=
  ⟨nodup_put g.nd, fun j h => (mem_keys_put.mp h).elim (fun e => e ▸ hk) (g.pth j), fun q h => (mem_put h).elim (fun e => by rw [e]; exact hv) (g.val q)⟩
theorem Good.del {l : List (Tx × Tx)} {k : Tx} (g : Good l) : Good (ddel l k) :=
  ⟨nodup_del g.nd, fun j h => g.pth j (mem_keys_del.mp h).1, fun q h => g.val q (mem_del h)⟩
theorem Good.len {l : List (Tx × Tx)} (g : Good l) : ∀ k ∈ dkeys l, k.length ≤ 104 := fun k h => (g.pth k h).len
theorem pth_sign {p : Tx} (h : Pth p) : ∀ c ∈ p, c < 128 := by
  obtain ⟨l, hl, rfl⟩ := h
  have h2 := hl.2
  clear hl
  rw [lSl_eq]
  induction l with
  | nil => exact fun c h => nomatch h
  | cons q r ih =>
    have hq : ∀ c ∈ q, c < 128 := fun c hc => (signs_ne c ((h2 q List.mem_cons_self).2.1 c hc)).2
    cases r with
    | nil => exact hq
    | cons q2 r2 =>
      intro c hc
      have hc2 : c ∈ q ++ ([47] ++ joinL [47] (q2 :: r2)) := hc
      rcases List.mem_append.mp hc2 with e | e
      · exact hq c e
      · rcases List.mem_append.mp e with e | e
        · rw [List.mem_singleton.mp e]
          decide
        · exact ih (fun p hp => h2 p (List.mem_cons_of_mem _ hp)) c e

theorem above_sum (p : Tx) : sumLen (m_above_v1 p) ≤ p.length := cuts_sum 47 p
theorem Good.le9 {l : List (Tx × Tx)} (g : Good l) : ∀ k ∈ dkeys l, k.length ≤ 900 := fun k h => Nat.le_trans (g.len k h) (by decide)
/-- a deed, as the law makes it -/
def okDeed (d : List Tx) : Prop := (d.length = 3 ∨ (d.length = 2 ∧ d.getD 0 [] = lCut)) ∧ ∀ t ∈ d, t.length ≤ 800
theorem deed_two {d : List Tx} (h : okDeed d) : 2 ≤ d.length := by
  rcases h.1 with e | e
  · omega
  · omega
theorem deed_path {d : List Tx} (h : okDeed d) : (m_done_v1 d).length ≤ 900 := by
  have h2 := deed_two h
  unfold m_done_v1
  rw [List.getD_eq_getElem?_getD, List.getElem?_eq_getElem (show (1 : Int).toNat < d.length by show 1 < _; omega)]
  exact Nat.le_trans (h.2 _ (List.getElem_mem _)) (by decide)
theorem deed_three {d : List Tx} (h : okDeed d) (hb : decide ((d.getD (0 : Int).toNat []) = lCut) = false) : d.length = 3 := by
  rcases h.1 with e | e
  · exact e
  · exact absurd e.2 (of_decide_eq_false hb)
theorem has_of_not {b : Bool} (h : (!b) = false) : b = true := by
  cases b
  · cases h
  · rfl
def GT (sc : List Int) (sh : Int) (s : List (Tx × Tx)) (y : Nat) : List (Tx × Tx) := m_law_tree_by_v5 s sc y sh
theorem GT_ok (sc : List Int) (sh : Int) (n : Nat) (s : List (Tx × Tx)) (y : Nat) (h : s.length ≤ n ∧ Good s) : (GT sc sh s y).length ≤ n + 1 ∧ Good (GT sc sh s y) := by
  unfold GT m_law_tree_by_v5
  split
  · exact ⟨Nat.le_trans (put_len _ _ _) (Nat.succ_le_succ h.1), h.2.put (path_ok _ _) (line_ok _ _)⟩
  · exact ⟨Nat.le_succ_of_le h.1, h.2⟩
theorem tree1 (sc : List Int) (sh : Int) {i y : Nat} {s : List (Tx × Tx)} (h : runL (m_law_tree_by_step1 sc sh) ((List.range ((m_law_cell_at sc (1 : Int)) % (8 : Int)).toNat).take i) m_law_tree_by_v1 = .go s) (hy : (List.range ((m_law_cell_at sc (1 : Int)) % (8 : Int)).toNat)[i]? = some y) :
    s.length ≤ 7 ∧ ∀ c : Int, (m_law_path_by c sh).length ≤ 900 ∧ ∀ k ∈ dkeys s, k.length ≤ 900 := by
  have hi := (List.getElem?_eq_some_iff.mp hy).1
  have := run_cnt (g := GT sc sh) (fun _ _ => rfl) (I := fun n s => s.length ≤ n ∧ Good s) h (Nat.le_of_lt hi) ⟨Nat.le_refl _, Good.nil⟩ fun n s y _ h => GT_ok sc sh n s y h
  rw [List.length_range] at hi
  refine ⟨by have := this.1; omega, fun c => ⟨?_, fun k hk => ?_⟩⟩
  · have := (path_ok c sh).len
    omega
  · have := this.2.len k hk
    omega
theorem tree_v6 (sc : List Int) (sh : Int) : (m_law_tree_by_v6 sc sh).length ≤ 7 ∧ Good (m_law_tree_by_v6 sc sh) := by
  have := out_cnt (step := m_law_tree_by_step1 sc sh) (g := GT sc sh) (fun _ _ => rfl) (I := fun n s => s.length ≤ n ∧ Good s) (l := List.range ((m_law_cell_at sc (1 : Int)) % (8 : Int)).toNat) (s0 := m_law_tree_by_v1) ⟨Nat.le_refl _, Good.nil⟩ fun n s y _ h => GT_ok sc sh n s y h
  rw [List.length_range] at this
  exact ⟨Nat.le_trans this.1 (by omega), this.2⟩
theorem tree_v10 (sc : List Int) : 0 ≤ m_law_tree_by_v10 sc ∧ m_law_tree_by_v10 sc ≤ 170 := by
  unfold m_law_tree_by_v10 m_law_tree_by_v9 m_law_tree_by_v8
  split
  · omega
  · split <;> omega
theorem dec_all : ∀ y < 170, (dec ((y : Nat) : Int)).length ≤ 3 ∧ Part (lTops ++ dec (y : Int)) := by decide +kernel
theorem dec_len (y : Nat) (h : y < 170) : (dec (y : Int)).length ≤ 3 := (dec_all y h).1
theorem small_log (y : Nat) (h : y < 170) : (y : Int).natAbs.log2 < 1920 := by
  have h2 : (y : Int).natAbs < 170 := by omega
  have h3 : ∀ n < 170, n.log2 < 1920 := by decide +kernel
  exact h3 _ h2
theorem tops_pth (y : Nat) (h : y < 170) : Pth ((lTops ++ (dec (y : Int))) ++ lSlx) := by
  refine ⟨[lTops ++ dec (y : Int), (tx "x")], ⟨⟨(by simp), (by simp)⟩, fun p hp => ?_⟩, ?_⟩
  · rcases List.mem_cons.mp hp with e | e
    · rw [e]
      exact (dec_all y h).2
    · rw [List.mem_singleton.mp e]
      decide
  · show _ = (lTops ++ dec (y : Int)) ++ (lSl ++ (tx "x"))
    rfl
def GU (sh : Int) (s : List (Tx × Tx)) (y : Nat) : List (Tx × Tx) := m_law_tree_by_v12 y s sh
theorem GU_ok (sh : Int) (m n : Nat) (s : List (Tx × Tx)) (y : Nat) (hy : y < 170) (h : s.length ≤ m + n ∧ Good s) : (GU sh s y).length ≤ m + (n + 1) ∧ Good (GU sh s y) := by
  unfold GU m_law_tree_by_v12
  split
  · exact ⟨Nat.le_trans (put_len _ _ _) (Nat.succ_le_succ h.1), h.2.put (tops_pth y hy) (line_ok _ _)⟩
  · exact ⟨Nat.le_succ_of_le h.1, h.2⟩
theorem tree_y {sc : List Int} {n y : Nat} (hy : (List.range (m_law_tree_by_v10 sc).toNat)[n]? = some y) : y < 170 := by
  have h1 := List.mem_range.mp (List.mem_of_getElem? hy)
  have h2 := tree_v10 sc
  omega
theorem tree2 (sc : List Int) (sh : Int) {i y : Nat} {s : List (Tx × Tx)} (h : runL (m_law_tree_by_step2 sh) ((List.range (m_law_tree_by_v10 sc).toNat).take i) (m_law_tree_by_v6 sc sh) = .go s) (hy : (List.range (m_law_tree_by_v10 sc).toNat)[i]? = some y) : s.length ≤ 177 ∧ y < 170 := by
  have hi := (List.getElem?_eq_some_iff.mp hy).1
  have := run_cnt (g := GU sh) (fun _ _ => rfl) (I := fun n s => s.length ≤ 7 + n ∧ Good s) h (Nat.le_of_lt hi) (tree_v6 sc sh) fun n s y e h => GU_ok sh 7 n s y (tree_y e) h
  rw [List.length_range] at hi
  have h2 := tree_v10 sc
  exact ⟨by have := this.1; omega, tree_y hy⟩
theorem tree_ok (sc : List Int) (sh : Int) : (m_law_tree_by sc sh).length ≤ 177 ∧ Good (m_law_tree_by sc sh) := by
  have := out_cnt (step := m_law_tree_by_step2 sh) (g := GU sh) (fun _ _ => rfl) (I := fun n s => s.length ≤ 7 + n ∧ Good s) (l := List.range (m_law_tree_by_v10 sc).toNat) (s0 := m_law_tree_by_v6 sc sh) (tree_v6 sc sh) fun n s y e h => GU_ok sh 7 n s y (tree_y e) h
  rw [List.length_range] at this
  have h2 := tree_v10 sc
  exact ⟨Nat.le_trans this.1 (by omega), this.2⟩
/-! the path asked -/
theorem asked_v2 (sc : List Int) (sh : Int) : (m_law_path_asked_v2 sc sh).length ≤ 104 := (path_ok _ _).len
theorem asked_pos {a : Bool} {n : Nat} (h : (a && decide ((n : Int) > (0 : Int))) = true) : 0 < n := by
  have := of_decide_eq_true (Bool.and_eq_true_iff.mp h).2
  omega
theorem asked_ix (sc : List Int) (l : List (Tx × Tx)) (h : 0 < l.length) : 0 ≤ (((m_law_path_asked_v1 sc) / (6 : Int)) % (l.length : Int)) ∧ (((m_law_path_asked_v1 sc) / (6 : Int)) % (l.length : Int)) < (l.length : Int) :=
  ⟨Int.emod_nonneg _ (by omega), Int.emod_lt_of_pos _ (by omega)⟩
theorem asked_key (sc : List Int) (l : List (Tx × Tx)) (h : 0 < l.length) : m_law_path_asked_v4 l sc ∈ dkeys l := by
  have hi := asked_ix sc l h
  have hd := dkeys_len l
  unfold m_law_path_asked_v4
  have h3 : (((m_law_path_asked_v1 sc) / (6 : Int)) % (l.length : Int)).toNat < (dkeys l).length := by omega
  rw [List.getD_eq_getElem?_getD, List.getElem?_eq_getElem h3]
  exact List.getElem_mem h3
theorem asked_v4 (sc : List Int) (l : List (Tx × Tx)) (g : Good l) (h : 0 < l.length) : (m_law_path_asked_v4 l sc).length ≤ 104 := g.len _ (asked_key sc l h)
theorem asked_v5 (sc : List Int) (l : List (Tx × Tx)) (g : Good l) (h : 0 < l.length) : 1 ≤ m_law_path_asked_v5 l sc ∧ m_law_path_asked_v5 l sc ≤ 8 := by
  have h2 := ((pth_iff _).mp (g.pth _ (asked_key sc l h))).1
  unfold m_law_path_asked_v5
  omega
theorem asked_mod (sc : List Int) (l : List (Tx × Tx)) (g : Good l) (h : 0 < l.length) : 0 ≤ (((m_law_path_asked_v1 sc) / (42 : Int)) % (m_law_path_asked_v5 l sc)) ∧ (((m_law_path_asked_v1 sc) / (42 : Int)) % (m_law_path_asked_v5 l sc)) < 8 := by
  have h5 := asked_v5 sc l g h
  have h1 := Int.emod_nonneg ((m_law_path_asked_v1 sc) / (42 : Int)) (b := m_law_path_asked_v5 l sc) (by omega)
  have h2 := Int.emod_lt_of_pos ((m_law_path_asked_v1 sc) / (42 : Int)) (b := m_law_path_asked_v5 l sc) (by omega)
  omega
theorem asked_end (k : Int) : ([lNil, l_25c8e1f6].getD (k % (2 : Int)).toNat []).length ≤ 2 := by
  have h : ∀ n < 2, ([lNil, l_25c8e1f6].getD n []).length ≤ 2 := by decide +kernel
  exact h _ (by omega)
theorem asked_v6 (sc : List Int) (l : List (Tx × Tx)) (sh : Int) (g : Good l) (h : 0 < l.length) : (m_law_path_asked_v6 sc l sh).length ≤ 120 := by
  have h4 := asked_v4 sc l g h
  unfold m_law_path_asked_v6
  split
  · have h5 := (name_part ((m_law_path_asked_v1 sc) / (42 : Int)) sh).1
    have h6 := asked_end ((m_law_path_asked_v1 sc) / (84 : Int))
    rw [List.length_append, List.length_append, List.length_append, len_lSl]
    omega
  · omega
/-! the deed done -/
/-- what a deed does, as the document has it -/
def Due (t : List (Tx × Tx)) (cut : Bool) (p line : Tx) : Res (List (Tx × Tx)) :=
  if Pth p then (if cut = true then (if p ∈ dkeys t then .ok (ddel t p) else .exc 2) else (if Free (dkeys t) p then .ok (dput t p line) else .exc 3)) else .exc 1
theorem Due_kinds {t : List (Tx × Tx)} {c : Bool} {p line : Tx} {k : Nat} (h : Due t c p line = .exc k) : k = 1 ∨ k = 2 ∨ k = 3 := by
  unfold Due at h
  split at h
  · split at h
    · split at h
      · cases h
      · cases h
        exact Or.inr (Or.inl rfl)
    · split at h
      · cases h
      · cases h
        exact Or.inr (Or.inr rfl)
  · cases h
    exact Or.inl rfl
/-! which texts are paths -/
theorem no_path {t q : Tx} (h : q ∈ cuts 47 t) (n : ¬ Part q) : ¬ Pth t := fun p => n (((pth_iff t).mp p).2 q h)
theorem cuts_sl (p : Tx) : cuts 47 (lSl ++ p) = [] :: cuts 47 p := by
  rw [lSl_eq]
  exact cuts_hit 47 p
theorem pth_sg {p : Tx} (h : Pth p) : ∀ c ∈ p, c ∈ lSigns ∨ c = 47 := by
  obtain ⟨l, hl, rfl⟩ := h
  have h2 := hl.2
  clear hl
  rw [lSl_eq]
  induction l with
  | nil => exact fun c h => nomatch h
  | cons q r ih =>
    have hq : ∀ c ∈ q, c ∈ lSigns ∨ c = 47 := fun c hc => Or.inl ((h2 q List.mem_cons_self).2.1 c hc)
    cases r with
    | nil => exact hq
    | cons q2 r2 =>
      intro c hc
      have hc2 : c ∈ q ++ ([47] ++ joinL [47] (q2 :: r2)) := hc
      rcases List.mem_append.mp hc2 with e | e
      · exact hq c e
      · rcases List.mem_append.mp e with e | e
        · exact Or.inr (List.mem_singleton.mp e)
        · exact ih (fun p hp => h2 p (List.mem_cons_of_mem _ hp)) c e
theorem cuts_end (p r : Tx) : cuts 47 (p ++ (47 :: r)) = cuts 47 p ++ cuts 47 r := cuts_two p r
theorem odd_no (sc : List Int) (sh : Int) : ∀ n < 7, ¬ Pth (((m_law_path_asked_v3 sc sh) ++ [(l_2548023e ++ (m_law_path_asked_v2 sc sh))]).getD n []) := by
  have hp : Pth (m_law_path_asked_v2 sc sh) := path_ok _ _
  have nil : ¬ Part [] := by decide
  intro n hn
  match n, hn with
  | 0, _ => exact no_path (q := []) (by rw [show ((m_law_path_asked_v3 sc sh) ++ [(l_2548023e ++ (m_law_path_asked_v2 sc sh))]).getD 0 [] = [] from rfl]; decide) nil
  | 1, _ =>
    refine no_path (t := lSl ++ (m_law_path_asked_v2 sc sh)) (q := []) ?_ nil
    rw [cuts_sl]
    exact List.mem_cons_self
  | 2, _ =>
    refine no_path (t := (m_law_path_asked_v2 sc sh) ++ (47 :: [])) (q := []) ?_ nil
    rw [cuts_end]
    exact List.mem_append.mpr (Or.inr (by decide))
  | 3, _ =>
    refine no_path (t := (m_law_path_asked_v2 sc sh) ++ (47 :: [47, 97])) (q := []) ?_ nil
    rw [cuts_end]
    exact List.mem_append.mpr (Or.inr (by decide))
  | 4, _ =>
    refine no_path (t := (m_law_path_asked_v2 sc sh) ++ (47 :: [46, 46])) (q := [46, 46]) ?_ (by decide)
    rw [cuts_end]
    exact List.mem_append.mpr (Or.inr (by decide))
  | 5, _ =>
    intro h
    have := pth_sg (p := (m_law_path_asked_v2 sc sh) ++ [43]) h 43 (List.mem_append.mpr (Or.inr (by decide)))
    exact absurd this (by decide)
  | 6, _ =>
    intro h
    have h1 := (pth_iff _).mp (show Pth (tx "a/b/c/d/e/f/g/h" ++ (47 :: m_law_path_asked_v2 sc sh)) from h)
    have h2 := h1.1.2
    rw [cuts_end, List.length_append, show (cuts 47 (tx "a/b/c/d/e/f/g/h")).length = 8 by decide] at h2
    have h3 := List.length_pos_iff.mpr (cuts_ne 47 (m_law_path_asked_v2 sc sh))
    omega
theorem even_v6 (sc : List Int) (l : List (Tx × Tx)) (sh : Int) (g : Good l) (h : 0 < l.length) : Pth (m_law_path_asked_v6 sc l sh) := by
  have hk := g.pth _ (asked_key sc l h)
  unfold m_law_path_asked_v6
  split
  · rename_i hb
    have h5 : ((cuts 47 (m_law_path_asked_v4 l sc)).length : Int) - 1 + 1 < 7 := of_decide_eq_true (Bool.and_eq_true_iff.mp hb).2
    have hn := name_part ((m_law_path_asked_v1 sc) / (42 : Int)) sh
    have hc := (pth_iff _).mp hk
    have hno : cuts 47 (m_law_name_by ((m_law_path_asked_v1 sc) / (42 : Int)) sh) = [m_law_name_by ((m_law_path_asked_v1 sc) / (42 : Int)) sh] := by
      exact (show Parts [m_law_name_by ((m_law_path_asked_v1 sc) / (42 : Int)) sh] from ⟨⟨(by simp), (by simp)⟩, fun p hp => by rw [List.mem_singleton.mp hp]; exact hn⟩).cuts
    have h2 : ∀ n < 2, Pth ((((m_law_path_asked_v4 l sc) ++ lSl) ++ (m_law_name_by ((m_law_path_asked_v1 sc) / (42 : Int)) sh)) ++ ([lNil, l_25c8e1f6].getD n [])) := by
      intro n hn2
      rw [pth_iff, lSl_eq, List.append_assoc, List.append_assoc]
      show Parts (cuts 47 ((m_law_path_asked_v4 l sc) ++ (47 :: ((m_law_name_by ((m_law_path_asked_v1 sc) / (42 : Int)) sh) ++ ([lNil, l_25c8e1f6].getD n [])))))
      rw [cuts_end]
      match n, hn2 with
      | 0, _ =>
        show Parts (_ ++ cuts 47 (_ ++ []))
        rw [List.append_nil, hno]
        exact ⟨by rw [List.length_append, List.length_singleton]; omega, fun p hp => (List.mem_append.mp hp).elim (hc.2 p) (fun e => by rw [List.mem_singleton.mp e]; exact hn)⟩
      | 1, _ =>
        show Parts (_ ++ cuts 47 (_ ++ (47 :: [98])))
        rw [cuts_end, hno]
        refine ⟨by rw [List.length_append, List.length_append, List.length_singleton, show (cuts 47 [98]).length = 1 by decide]; omega, fun p hp => ?_⟩
        rcases List.mem_append.mp hp with e | e
        · exact hc.2 p e
        · rcases List.mem_append.mp e with e | e
          · rw [List.mem_singleton.mp e]
            exact hn
          · rw [List.mem_singleton.mp (show p ∈ [[98]] from e)]
            decide
    exact h2 _ (by omega)
  · exact hk
theorem even_v7 (sc : List Int) (l : List (Tx × Tx)) (sh : Int) (g : Good l) (h : 0 < l.length) : Pth (m_law_path_asked_v7 sc l sh) := by
  have h6 := (pth_iff _).mp (even_v6 sc l sh g h)
  have hm := asked_mod sc l g h
  unfold m_law_path_asked_v7
  split
  · refine ⟨_, ⟨?_, fun p hp => h6.2 p (mem_cut hp)⟩, rfl⟩
    rw [cut_to _ (by omega), List.length_take]
    have := h6.1
    omega
  · exact even_v6 sc l sh g h
theorem asked_is (sc : List Int) (sh : Int) (l : List (Tx × Tx)) (g : Good l) : (m_law_path_asked_v1 sc % 6 = 1 → ¬ Pth (m_law_path_asked sc sh l)) ∧ (m_law_path_asked_v1 sc % 6 ≠ 1 → Pth (m_law_path_asked sc sh l)) := by
  unfold m_law_path_asked
  refine ⟨fun h => ?_, fun h => ?_⟩
  · rw [if_pos (decide_eq_true h)]
    exact odd_no sc sh _ (by omega)
  · rw [if_neg (by rw [decide_eq_false h]; exact Bool.false_ne_true)]
    unfold m_law_path_asked_v8
    split
    · rename_i hb
      exact even_v7 sc l sh g (asked_pos hb)
    · exact path_ok _ _
theorem asked_len (sc : List Int) (sh : Int) (l : List (Tx × Tx)) (g : Good l) : (m_law_path_asked sc sh l).length ≤ 200 := by
  by_cases h : m_law_path_asked_v1 sc % 6 = 1
  · unfold m_law_path_asked
    rw [if_pos (decide_eq_true h)]
    have hp := (path_ok (m_law_cell_at sc (3 : Int)) sh).len
    have h7 : ∀ n < 7, (((m_law_path_asked_v3 sc sh) ++ [(l_2548023e ++ (m_law_path_asked_v2 sc sh))]).getD n []).length ≤ 200 := by
      have hv : (m_law_path_asked_v2 sc sh).length ≤ 104 := hp
      intro n hn
      match n, hn with
      | 0, _ => exact Nat.zero_le _
      | 1, _ => show (lSl ++ m_law_path_asked_v2 sc sh).length ≤ 200; rw [List.length_append, len_lSl]; omega
      | 2, _ => show (m_law_path_asked_v2 sc sh ++ lSl).length ≤ 200; rw [List.length_append, len_lSl]; omega
      | 3, _ => show (m_law_path_asked_v2 sc sh ++ l_cbc54eca).length ≤ 200; rw [List.length_append, len_l_cbc54eca]; omega
      | 4, _ => show (m_law_path_asked_v2 sc sh ++ l_56b05807).length ≤ 200; rw [List.length_append, len_l_56b05807]; omega
      | 5, _ => show (m_law_path_asked_v2 sc sh ++ l_a979ef10).length ≤ 200; rw [List.length_append, len_l_a979ef10]; omega
      | 6, _ => show (l_2548023e ++ m_law_path_asked_v2 sc sh).length ≤ 200; rw [List.length_append, len_l_2548023e]; omega
    exact h7 _ (by omega)
  · exact Nat.le_trans ((asked_is sc sh l g).2 h).len (by decide)
/-! the law's steps -/
theorem tree_pre (sc : List Int) : Good (m_law_v2 sc) ∧ (m_law_v2 sc).length ≤ 1000 := ⟨(tree_ok sc _).2, Nat.le_trans (tree_ok sc _).1 (by decide)⟩
theorem path_pre (sc : List Int) : (m_law_v4 sc).length ≤ 900 ∧ ∀ k ∈ dkeys (m_law_v2 sc), k.length ≤ 900 := ⟨Nat.le_trans (asked_len sc _ _ (tree_pre sc).1) (by decide), (tree_pre sc).1.le9⟩
theorem deed_ok (sc : List Int) : okDeed (m_law_v14 sc) := by
  have h4 := asked_len sc (m_law_v1 sc) _ (tree_pre sc).1
  have h5 := (line_ok ((m_law_v3 sc) / (360 : Int)) (m_law_v1 sc)).1
  unfold m_law_v14
  split
  · refine ⟨Or.inr ⟨rfl, rfl⟩, fun t ht => ?_⟩
    rcases List.mem_cons.mp ht with e | e
    · rw [e]
      decide
    · rw [List.mem_singleton.mp e]
      exact Nat.le_trans h4 (by decide)
  · refine ⟨Or.inl rfl, fun t ht => ?_⟩
    rcases List.mem_cons.mp ht with e | e
    · rw [e]
      decide
    · rcases List.mem_cons.mp e with e | e
      · rw [e]
        exact Nat.le_trans h4 (by decide)
      · rw [List.mem_singleton.mp e]
        exact Nat.le_trans h5 (by decide)
theorem deed_pre (sc : List Int) : okDeed (m_law_v14 sc) ∧ Good (m_law_v2 sc) ∧ (m_law_v2 sc).length ≤ 1000 := ⟨deed_ok sc, tree_pre sc⟩
def isCut (sc : List Int) : Bool := decide ((((m_law_v3 sc) + ((m_law_v3 sc) / (42 : Int))) % (2 : Int)) = (0 : Int))
theorem del_put {l : List (Tx × Tx)} {k v : Tx} : ddel (dput l k v) k = ddel l k := by
  by_cases h : k ∈ dkeys l
  · rw [put_old h]
    unfold ddel
    rw [List.filter_map]
    have e : (l.filter ((fun p => decide (p.1 ≠ k)) ∘ fun p => if p.1 = k then (p.1, v) else p)) = l.filter fun p => decide (p.1 ≠ k) := by
      apply List.filter_congr
      intro p _
      show decide ((if p.1 = k then (p.1, v) else p).1 ≠ k) = _
      by_cases h2 : p.1 = k
      · rw [if_pos h2]
      · rw [if_neg h2]
    rw [e]
    conv => rhs; rw [← List.map_id (l.filter _)]
    apply List.map_congr_left
    intro p hp
    have := of_decide_eq_true (List.mem_filter.mp hp).2
    exact if_neg this
  · rw [put_new h]
    unfold ddel
    rw [List.filter_append]
    have : [(k, v)].filter (fun p => decide (p.1 ≠ k)) = [] := by
      rw [List.filter_cons, decide_eq_false (fun z => z rfl), if_neg Bool.false_ne_true]
      rfl
    rw [this, List.append_nil]
/-- the word that is due, and the files -/
theorem word_is (sc : List Int) : m_law_v17 sc = (match Due (m_law_v2 sc) (isCut sc) (m_law_v4 sc) (m_law_v5 sc) with | .ok _ => lMade | .exc k => word k) := by
  have hp := asked_is sc (m_law_v1 sc) (m_law_v2 sc) (tree_pre sc).1
  unfold m_law_v17
  by_cases h : (m_law_v3 sc) % (6 : Int) = 1
  · have hn : ¬ Pth (m_law_v4 sc) := hp.1 h
    rw [if_pos (decide_eq_true h)]
    unfold Due
    rw [if_neg hn]
    rfl
  · have hy : Pth (m_law_v4 sc) := hp.2 h
    rw [if_neg (by rw [decide_eq_false h]; exact Bool.false_ne_true)]
    unfold Due m_law_v15
    rw [if_pos hy]
    show (if isCut sc = true then m_law_v12 sc else m_law_v13 sc) = _
    cases isCut sc with
    | true =>
      rw [if_pos rfl, if_pos rfl]
      unfold m_law_v12
      rw [has_dec]
      by_cases hk : m_law_v4 sc ∈ dkeys (m_law_v2 sc)
      · rw [decide_eq_true hk, if_pos hk]
        rfl
      · rw [decide_eq_false hk, if_neg hk]
        rfl
    | false =>
      rw [if_neg Bool.false_ne_true, if_neg Bool.false_ne_true]
      unfold m_law_v13
      rw [free_of]
      by_cases hk : Free (dkeys (m_law_v2 sc)) (m_law_v4 sc)
      · rw [decide_eq_true hk, if_pos hk]
        rfl
      · rw [decide_eq_false hk, if_neg hk]
        rfl
theorem due_is {sc : List Int} {l : List (Tx × Tx)} (h : Due (m_law_v2 sc) (isCut sc) (m_law_v4 sc) (m_law_v5 sc) = .ok l) : l = m_law_v16 sc := by
  have e : m_law_v16 sc = if isCut sc = true then ddel (m_law_v2 sc) (m_law_v4 sc) else dput (m_law_v2 sc) (m_law_v4 sc) (m_law_v5 sc) := by
    unfold m_law_v16
    show (if isCut sc = true then m_law_v11 sc else m_law_v9 sc) = _
    cases isCut sc with
    | true =>
      rw [if_pos rfl, if_pos rfl]
      exact del_put
    | false => rfl
  rw [e]
  unfold Due at h
  split at h
  · cases hc : isCut sc with
    | true =>
      rw [hc, if_pos rfl] at h
      rw [if_pos rfl]
      split at h
      · exact (Res.ok.inj h).symm
      · cases h
    | false =>
      rw [hc, if_neg Bool.false_ne_true] at h
      rw [if_neg Bool.false_ne_true]
      split at h
      · exact (Res.ok.inj h).symm
      · cases h
  · cases h
theorem deed_of (sc : List Int) : (m_law_v14 sc).getD 1 [] = m_law_v4 sc ∧ decide ((m_law_v14 sc).getD 0 [] = lCut) = isCut sc ∧ (isCut sc = false → (m_law_v14 sc).getD 2 [] = m_law_v5 sc) := by
  have e : m_law_v14 sc = if isCut sc = true then m_law_v10 sc else m_law_v6 sc := rfl
  rw [e]
  cases isCut sc with
  | true => exact ⟨rfl, decide_eq_true (show lCut = lCut from rfl), fun h => nomatch h⟩
  | false => exact ⟨rfl, decide_eq_false (show ¬ lPut = lCut by decide), fun _ => rfl⟩
theorem word_ne {k : Nat} (h : k = 1 ∨ k = 2 ∨ k = 3) : (!decide (word k = lMade)) = true := by
  rcases h with rfl | rfl | rfl <;> decide +kernel
/-! the program's deed -/

theorem blocked_of (l : List (Tx × Tx)) (p : Tx) : m_is_blocked l p = !decide (Free (dkeys l) p) := by
  have e1 : ((m_above p).map (fun k0 : Tx => dhas l k0)).any id = (m_above p).any fun u => dhas l u := by rw [List.any_map]; rfl
  have e2 : ((dkeys l).map (fun k0 : Tx => m_is_beneath k0 p)).any id = (dkeys l).any fun k => decide (Ben k p) := by
    rw [List.any_map]
    apply congrArg (fun f => (dkeys l).any f)
    funext k
    exact prefix_ben k p
  unfold m_is_blocked
  rw [e1, e2]
  by_cases f : Free (dkeys l) p
  · rw [decide_eq_true f]
    have h1 : ((m_above p).any fun u => dhas l u) = false := by
      rw [List.any_eq_false]
      intro u hu z
      exact (f u ((has_iff _ _).mp z)).2 (above_mem.mp hu)
    have h2 : ((dkeys l).any fun k => decide (Ben k p)) = false := by
      rw [List.any_eq_false]
      intro k hk z
      exact (f k hk).1 (of_decide_eq_true z)
    rw [h1, if_neg Bool.false_ne_true, h2]
    rfl
  · rw [decide_eq_false f]
    cases h1 : ((m_above p).any fun u => dhas l u) with
    | true =>
      rw [if_pos rfl]
      rfl
    | false =>
      rw [if_neg Bool.false_ne_true]
      cases h2 : ((dkeys l).any fun k => decide (Ben k p)) with
      | true => rfl
      | false =>
        refine absurd (fun k hk => ⟨fun z => ?_, fun z => ?_⟩) f
        · rw [List.any_eq_false] at h2
          exact h2 k hk (decide_eq_true z)
        · rw [List.any_eq_false] at h1
          exact h1 k (above_mem.mpr z) ((has_iff _ _).mpr hk)

theorem done_is (t : List (Tx × Tx)) (d : List Tx) (g : Good t) : m_done t d = Due t (decide (d.getD 0 [] = lCut)) (d.getD 1 []) (d.getD 2 []) := by
  have e1 : m_done_v1 d = d.getD 1 [] := rfl
  have e2 : m_done_v2 t = t := rfl
  unfold m_done Due
  rw [is_path_of, e1, e2]
  by_cases h1 : Pth (d.getD 1 [])
  · rw [decide_eq_true h1, if_neg (by decide), if_pos h1]
    by_cases h2 : d.getD 0 [] = lCut
    · have h3 : decide (d.getD (0 : Int).toNat [] = lCut) = true := decide_eq_true h2
      rw [h3, if_pos rfl, decide_eq_true h2, if_pos rfl]
      rw [has_dec]
      by_cases h4 : d.getD 1 [] ∈ dkeys t
      · rw [decide_eq_true h4, if_pos h4, if_neg (by decide)]
        rfl
      · rw [decide_eq_false h4, if_neg h4, if_pos (by decide)]
    · have h3 : decide (d.getD (0 : Int).toNat [] = lCut) = false := decide_eq_false h2
      rw [h3, if_neg Bool.false_ne_true, decide_eq_false h2, if_neg Bool.false_ne_true]
      rw [blocked_of]
      by_cases h4 : Free (dkeys t) (d.getD 1 [])
      · rw [decide_eq_true h4, if_pos h4, if_neg (by decide)]
        rfl
      · rw [decide_eq_false h4, if_neg h4, if_pos (by decide)]
  · rw [decide_eq_false h1, if_pos (by decide), if_neg h1]

theorem done_at (sc : List Int) : m_law_told (m_law_v2 sc) (m_law_v14 sc) = Due (m_law_v2 sc) (isCut sc) (m_law_v4 sc) (m_law_v5 sc) := by
  have h := deed_of sc
  show m_done _ _ = _
  rw [done_is _ _ (tree_pre sc).1, h.1, h.2.1]
  cases hc : isCut sc with
  | true => rfl
  | false => rw [h.2.2 hc]
theorem kinds_done {t : List (Tx × Tx)} {d : List Tx} {k : Nat} (g : Good t) (h : m_done t d = .exc k) : k = 1 ∨ k = 2 ∨ k = 3 := Due_kinds ((done_is t d g).symm.trans h)
theorem told_made (sc : List Int) {l : List (Tx × Tx)} (h : m_law_told (m_law_v2 sc) (m_law_v14 sc) = .ok l) : m_law_v17 sc = lMade := by
  rw [word_is, ← done_at, h]
theorem told_same (sc : List Int) {l : List (Tx × Tx)} (h : m_law_told (m_law_v2 sc) (m_law_v14 sc) = .ok l) : dsame l (m_law_v16 sc) := by
  rw [done_at] at h
  have e := due_is h
  rw [e]
  have g := tree_pre sc
  refine dsame_refl ?_
  unfold m_law_v16
  split
  · exact nodup_del (nodup_put g.1.nd)
  · exact nodup_put g.1.nd
theorem told_len (sc : List Int) {l : List (Tx × Tx)} (h : m_law_told (m_law_v2 sc) (m_law_v14 sc) = .ok l) : l.length ≤ 1001 := by
  rw [done_at] at h
  rw [due_is h]
  have g := (tree_pre sc).2
  have h9 := put_len (m_law_v2 sc) (m_law_v4 sc) (m_law_v5 sc)
  unfold m_law_v16
  split
  · exact Nat.le_trans (del_len _ _) (Nat.le_trans h9 (by omega))
  · exact Nat.le_trans h9 (by omega)
theorem told_word (sc : List Int) {k : Nat} (h : m_law_told (m_law_v2 sc) (m_law_v14 sc) = .exc k) : m_law_v17 sc = word k := by
  rw [word_is, ← done_at, h]
theorem law_holds (sc : List Int) : m_law sc = true := by
  unfold m_law
  cases h : m_law_told (m_law_v2 sc) (m_law_v14 sc) with
  | ok l =>
    show (if (false || (!decide (lMade = (m_law_v17 sc)))) = true then false else _) = true
    rw [told_made sc h]
    rfl
  | exc k =>
    have hk := kinds_done (tree_pre sc).1 h
    show (if (false || (!decide (word k = (m_law_v17 sc)))) = true then false else _) = true
    rw [told_word sc h, decide_eq_true (rfl : word k = word k), if_neg (by decide), word_ne hk]
    rfl

end K04


namespace K04
open PySem PySem.Spec PyProof.Rows L2 TL Evl Vf
/-! ## the text -/
def topS (i : Nat) : Stmt := PySem.Challenge.pw_threeroad_k04_a_deed.main.body.getD i (.Pass ⟨0, 0, 0, 0⟩)
abbrev s_is_part : Stmt := topS 13
theorem sc_is_part : FnScope ["text", "sign"] ["text"] (defScope s_is_part) := ⟨rfl, rfl, rfl, by decide +kernel, rfl, by decide +kernel, by decide +kernel⟩
abbrev s_is_path : Stmt := topS 14
theorem sc_is_path : FnScope ["text", "parts", "part"] ["text"] (defScope s_is_path) := ⟨rfl, rfl, rfl, by decide +kernel, rfl, by decide +kernel, by decide +kernel⟩
abbrev s_above : Stmt := topS 15
theorem sc_above : FnScope ["path", "parts", "many"] ["path"] (defScope s_above) := ⟨rfl, rfl, rfl, by decide +kernel, rfl, by decide +kernel, by decide +kernel⟩
abbrev s_is_beneath : Stmt := topS 16
theorem sc_is_beneath : FnScope ["path", "upper"] ["path", "upper"] (defScope s_is_beneath) := ⟨rfl, rfl, rfl, by decide +kernel, rfl, by decide +kernel, by decide +kernel⟩
abbrev s_is_blocked : Stmt := topS 18
theorem sc_is_blocked : FnScope ["tree", "path", "name", "upper"] ["tree", "path"] (defScope s_is_blocked) := ⟨rfl, rfl, rfl, by decide +kernel, rfl, by decide +kernel, by decide +kernel⟩
abbrev s_done : Stmt := topS 19
theorem sc_done : FnScope ["tree", "deed", "path", "files"] ["tree", "deed"] (defScope s_done) := ⟨rfl, rfl, rfl, by decide +kernel, rfl, by decide +kernel, by decide +kernel⟩
abbrev s_law_cell_at : Stmt := topS 21
theorem sc_law_cell_at : FnScope ["_law_script", "_law_k"] ["_law_script", "_law_k"] (defScope s_law_cell_at) := ⟨rfl, rfl, rfl, by decide +kernel, rfl, by decide +kernel, by decide +kernel⟩
abbrev s_law_sign_by : Stmt := topS 22
theorem sc_law_sign_by : FnScope ["_law_k"] ["_law_k"] (defScope s_law_sign_by) := ⟨rfl, rfl, rfl, by decide +kernel, rfl, by decide +kernel, by decide +kernel⟩
abbrev s_law_name_by : Stmt := topS 23
theorem sc_law_name_by : FnScope ["_law_k", "_law_shift", "_law_size", "_law_way", "_law_rest", "_law_at", "_law_told_here", "_law_name", "_law_j"] ["_law_k", "_law_shift"] (defScope s_law_name_by) := ⟨rfl, rfl, rfl, by decide +kernel, rfl, by decide +kernel, by decide +kernel⟩
abbrev s_law_path_by : Stmt := topS 24
theorem sc_law_path_by : FnScope ["_law_cell", "_law_shift", "_law_depth", "_law_parts", "_law_ahead", "_law_j"] ["_law_cell", "_law_shift"] (defScope s_law_path_by) := ⟨rfl, rfl, rfl, by decide +kernel, rfl, by decide +kernel, by decide +kernel⟩
abbrev s_law_line_by : Stmt := topS 25
theorem sc_law_line_by : FnScope ["_law_k", "_law_shift", "_law_some", "_law_long", "_law_j"] ["_law_k", "_law_shift"] (defScope s_law_line_by) := ⟨rfl, rfl, rfl, by decide +kernel, rfl, by decide +kernel, by decide +kernel⟩
abbrev s_law_is_free : Stmt := topS 26
theorem sc_law_is_free : FnScope ["_law_tree", "_law_path", "_law_other"] ["_law_tree", "_law_path"] (defScope s_law_is_free) := ⟨rfl, rfl, rfl, by decide +kernel, rfl, by decide +kernel, by decide +kernel⟩
abbrev s_law_tree_by : Stmt := topS 27
theorem sc_law_tree_by : FnScope ["_law_script", "_law_shift", "_law_tree", "_law_k", "_law_more", "_law_many", "_law_j", "_law_cell", "_law_path"] ["_law_script", "_law_shift"] (defScope s_law_tree_by) := ⟨rfl, rfl, rfl, by decide +kernel, rfl, by decide +kernel, by decide +kernel⟩
abbrev s_law_told : Stmt := topS 28
theorem sc_law_told : FnScope ["_law_tree", "_law_deed", "_law_some", "e", "_law_fits", "_law_word"] ["_law_tree", "_law_deed"] (defScope s_law_told) := ⟨rfl, rfl, rfl, by decide +kernel, rfl, by decide +kernel, by decide +kernel⟩
abbrev s_law_path_asked : Stmt := topS 29
theorem sc_law_path_asked : FnScope ["_law_script", "_law_shift", "_law_tree", "_law_odd", "_law_path", "_law_some", "_law_many"] ["_law_script", "_law_shift", "_law_tree"] (defScope s_law_path_asked) := ⟨rfl, rfl, rfl, by decide +kernel, rfl, by decide +kernel, by decide +kernel⟩
abbrev s_law : Stmt := topS 30
theorem sc_law : FnScope ["_law_script", "_law_shift", "_law_tree", "_law_odd", "_law_path", "_law_line", "_law_deed", "_law_word", "_law_due", "_law_kept", "_law_found"] ["_law_script"] (defScope s_law) := ⟨rfl, rfl, rfl, by decide +kernel, rfl, by decide +kernel, by decide +kernel⟩
/-- what the top leaves of names that are not defs -/
structure Bt (mg : Str → Option Value) : Prop where
  z_ValueError : mg "ValueError" = none
  z_all : mg "all" = none
  z_any : mg "any" = none
  z_dict : mg "dict" = none
  z_int : mg "int" = none
  z_isinstance : mg "isinstance" = none
  z_len : mg "len" = none
  z_list : mg "list" = none
  z_range : mg "range" = none
  z_str : mg "str" = none
  g_MOST_PARTS : ∃ t, mg "MOST_PARTS" = some (.int 8 t)
  g_MOST_SIGNS : ∃ t, mg "MOST_SIGNS" = some (.int 12 t)
  g_SIGNS : ∃ t, mg "SIGNS" = some (.str (Str.ofString "abcdefghijklmnopqrstuvwxyzABCDEFGHIJKLMNOPQRSTUVWXYZ0123456789.-_") t)
section
variable {P : Program} {w : World} {K : PySem.W.Frag} {mg : Str → Option Value} {base : Heap}
local macro_rules | `(tactic| walk_at "vside") => `(tactic| first | omega | assumption | (simp only [List.length_cons, List.length_nil, List.length_map, List.length_range, List.length_append, List.length_set, decide_eq_true_eq, Bool.and_eq_true, Bool.or_eq_true, Bool.not_eq_true', decide_eq_false_iff_not] at *; omega))
def sp_is_part (K : PySem.W.Frag) : Sp := spP fun ws H v => ∃ (ptext : Tx), ws = [vs ptext] ∧ (ptext.length ≤ 30000) ∧ v = V.bl (m_is_part ptext)
theorem ok_is_part {f : Addr} {fd : FuncData} (F : Fun K "is_part" "is_part" s_is_part f fd) (z : Bt mg)  : FnOk P w K mg base CX0 1 f fd ["text"] (sp_is_part K) := by
  refine F.ok (k := 0) sc_is_part (fun ws H Q E h => ?_) (fun cdv A outer s H ws Q E hr h => ?_)
  · obtain ⟨_, ⟨_, rfl, _⟩, _⟩ := h
    rfl
  · obtain ⟨_, ⟨ptext, rfl, hpre, rfl⟩, k0⟩ := h
    obtain ⟨tk_MOST_PARTS, z_g_MOST_PARTS⟩ := z.g_MOST_PARTS
    obtain ⟨tk_MOST_SIGNS, z_g_MOST_SIGNS⟩ := z.g_MOST_SIGNS
    obtain ⟨tk_SIGNS, z_g_SIGNS⟩ := z.g_SIGNS
    have L_lDot := len_lDot
    have L_lDots := len_lDots
    have L_lSigns := len_lSigns
    refine ⟨_, (pss_cons (ps_if (pt_cmpR (op_inK K) (pv 0) (pe_tup (pa_cons pe_str (pa_cons pe_str pa_nil))) (by rfl)) (pss_one (ps_ret pe_bl)) pss_nil)
      (pss_one (ps_ret (pe_and (pe_chain op_le op_le pe_int (pe_callB call_lenT (by rfl) z.z_len PySem.boot_len (pa_cons (pv 0) pa_nil)) (pe_glob (v := .int 12) (by rfl) z_g_MOST_SIGNS ⟨_, rfl⟩)) (pe_one (pe_callB (cr_allK K rfl) (by rfl) z.z_all (by decide +kernel) (pa_cons (pe_lc (own := [("sign", 1)]) (g := gName 1) (tt := tYes) rfl sc_is_part.nd (pi_str (pv 0)) (blkOk_by (own := [("sign", 1)]) (N := ["text", "sign"]) (sc := defScope s_is_part) (by decide +kernel)) (fun _ _ _ _ _ => pg_name (i := 1) sc_is_part.nd rfl (Or.inl rfl)) (fun _ _ _ _ _ => pts_nil) (fun _ _ _ _ _ => (pe_cmpR op_inT (pv 1) (pe_glob (v := .str (Str.ofString "abcdefghijklmnopqrstuvwxyzABCDEFGHIJKLMNOPQRSTUVWXYZ0123456789.-_")) (by rfl) z_g_SIGNS ⟨_, rfl⟩) (by rfl)))) pa_nil))))))), ?_⟩
    refine q_when (b := (decide (ptext ∈ [lDot, lDots]))) (et_test (e_inU (l := [lDot, lDots]) (ev_var rfl) (eu_tup (ea_cons (ev_is (w := vs lDot) e_lit rfl) (ea_cons (ev_is (w := vs lDots) e_lit rfl) ea_nil)) (by simp)))) (fun hb1 H1 e1a => ?_) (fun hb1 H1 e1a => ?_)
    · have e1 := Ex.trans (Ex.refl H) e1a
      have r1 := rx_of e1
      have k1a := ret_T k0 hb1
      exact s_ret ev_c fun H2 e2a => (RetV.go k1a (Ex.trans e1 e2a))
    · have e1 := Ex.trans (Ex.refl H) e1a
      have r1 := rx_of e1
      have k2b := ret_F k0 hb1
      exact s_ret (ev_andV (e_chain ev_c (e_lenT (ev_var rfl) (by walk_at "vside")) ev_c (fun _ _ => rv_I0) (fun _ _ => rv_I0)) (fun hc => (e_all (l := (ptext.map (fun k0 : Nat => (decide (k0 ∈ lSigns))))) (l_mapS (f2 := V.bl) (fun k0 : Nat => (decide (k0 ∈ lSigns))) (ev_var rfl) (by walk_at "vside") (fun k0 hm => (e_inT (ev_var rfl) (ev_is (w := vs lSigns) e_lit rfl))))))) fun H3 e3a => (RetV.go k2b (Ex.trans e1 e3a))
def sp_is_path (K : PySem.W.Frag) : Sp := spP fun ws H v => ∃ (ptext : Tx), ws = [vs ptext] ∧ (ptext.length ≤ 900) ∧ v = V.bl (m_is_path ptext)
theorem ok_is_path {f : Addr} {fd : FuncData} (F : Fun K "is_path" "is_path" s_is_path f fd) (z : Bt mg) (C_is_part : Cal P w K mg base 1 "is_part" ["text"] (sp_is_part K)) : FnOk P w K mg base CX0 2 f fd ["text"] (sp_is_path K) := by
  refine F.ok (k := 1) sc_is_path (fun ws H Q E h => ?_) (fun cdv A outer s H ws Q E hr h => ?_)
  · obtain ⟨_, ⟨_, rfl, _⟩, _⟩ := h
    rfl
  · obtain ⟨_, ⟨ptext, rfl, hpre, rfl⟩, k0⟩ := h
    obtain ⟨tk_MOST_PARTS, z_g_MOST_PARTS⟩ := z.g_MOST_PARTS
    obtain ⟨tk_MOST_SIGNS, z_g_MOST_SIGNS⟩ := z.g_MOST_SIGNS
    obtain ⟨tk_SIGNS, z_g_SIGNS⟩ := z.g_SIGNS
    have L_lSl := len_lSl
    have hc1 := cuts_len 47 ptext
    refine ⟨_, (pss_cons (ps_set (i := 1) sc_is_path.nd rfl (Or.inl rfl) (pe_splitT (pv 0) pe_str))
      (pss_one (ps_ret (pe_and (pe_cmpR op_le (pe_callB (call_lenK K) (by rfl) z.z_len PySem.boot_len (pa_cons (pv 1) pa_nil)) (pe_glob (v := .int 8) (by rfl) z_g_MOST_PARTS ⟨_, rfl⟩) (nomark _)) (pe_one (pe_callB (cr_allK K rfl) (by rfl) z.z_all (by decide +kernel) (pa_cons (pe_lc (own := [("part", 2)]) (g := gName 2) (tt := tYes) rfl sc_is_path.nd (pi_listK K (pv 1)) (blkOk_by (own := [("part", 2)]) (N := ["text", "parts", "part"]) (sc := defScope s_is_path) (by decide +kernel)) (fun _ _ _ _ _ => pg_name (i := 2) sc_is_path.nd rfl (Or.inl rfl)) (fun _ _ _ _ _ => pts_nil) (fun _ _ _ _ _ => (pe_cal C_is_part (hr.mono (by decide)) (by rfl) (pa_cons (pv 2) pa_nil)))) pa_nil))))))), ?_⟩
    refine q_asgL (xs := List.map vs (m_is_path_v1 ptext)) (el_is (l_split (c := 47) (ev_var rfl) (ev_is (w := vs [47]) (ev_is (w := vs lSl) e_lit rfl) (by first | rfl | decide)) (by decide) (by walk_at "vside")) rfl) fun p1_arts H1 n1a e1a h1_arts => ?_
    have n1 := fresh_back (Ex.refl H) n1a
    have e1 := Ex.trans (Ex.refl H) e1a
    have r1 := rx_of e1
    have fm_is_path_v1 : List.length (m_is_path_v1 ptext) = List.length ((cuts 47 ptext)) := rfl
    exact s_ret (ev_andV (e_le (e_lenL (f := vs) (l := (m_is_path_v1 ptext)) (ev_var rfl) (sq_of h1_arts)) ev_c) (fun hc => (e_all (l := ((m_is_path_v1 ptext).map (fun k0 : Tx => (m_is_part k0)))) (l_mapL (f := vs) (f2 := V.bl) [] (fun k0 : Tx => (m_is_part k0)) (ev_var rfl) (sq_of h1_arts) (by walk_at "vside") (fun k0 hm => have := cuts_mem 47 hm; (ev_call (ea_cons (ev_var rfl) ea_nil) (sv_of fun HC eC => ⟨_, rfl, (by walk_at "vside"), rfl⟩))))))) fun H2 e2a => (RetV.go k0 (Ex.trans e1 e2a))
def sp_above (K : PySem.W.Frag) : Sp := spN fun ws H v => ∃ (ppath : Tx), ws = [vs ppath] ∧ (ppath.length ≤ 900) ∧ v = List.map vs (m_above ppath)
theorem ok_above {f : Addr} {fd : FuncData} (F : Fun K "above" "above" s_above f fd) (z : Bt mg)  : FnOk P w K mg base CX0 1 f fd ["path"] (sp_above K) := by
  refine F.ok (k := 0) sc_above (fun ws H Q E h => ?_) (fun cdv A outer s H ws Q E hr h => ?_)
  · obtain ⟨_, ⟨_, rfl, _⟩, _⟩ := h
    rfl
  · obtain ⟨_, ⟨ppath, rfl, hpre, rfl⟩, k0⟩ := h
    obtain ⟨tk_MOST_PARTS, z_g_MOST_PARTS⟩ := z.g_MOST_PARTS
    obtain ⟨tk_MOST_SIGNS, z_g_MOST_SIGNS⟩ := z.g_MOST_SIGNS
    obtain ⟨tk_SIGNS, z_g_SIGNS⟩ := z.g_SIGNS
    have L_lSl := len_lSl
    have hc1 := cuts_len 47 ppath
    refine ⟨_, (pss_cons (ps_set (i := 1) sc_above.nd rfl (Or.inr rfl) (pe_splitT (pv 0) pe_str))
      (pss_one (ps_ret (pe_lc (own := [("many", 2)]) (g := gName 2) (tt := tYes) rfl sc_above.nd (pi_range2 (by rfl) z.z_range (pa_cons pe_int (pa_cons (pe_callB (call_lenK K) (by rfl) z.z_len PySem.boot_len (pa_cons (pv 1) pa_nil)) pa_nil))) (blkOk_by (own := [("many", 2)]) (N := ["path", "parts", "many"]) (sc := defScope s_above) (by decide +kernel)) (fun _ _ _ _ _ => pg_name (i := 2) sc_above.nd rfl (Or.inl rfl)) (fun _ _ _ _ _ => pts_nil) (fun _ _ _ _ _ => (pe_joinK K pe_str (pe_slice (sl_listK K) (pv 1) po_none (po_some (pv 2))))))))), ?_⟩
    refine q_asgL (xs := List.map vs (m_above_v1 ppath)) (el_is (l_split (c := 47) (ev_var rfl) (ev_is (w := vs [47]) (ev_is (w := vs lSl) e_lit rfl) (by first | rfl | decide)) (by decide) (by walk_at "vside")) rfl) fun p1_arts H1 n1a e1a h1_arts => ?_
    have n1 := fresh_back (Ex.refl H) n1a
    have e1 := Ex.trans (Ex.refl H) e1a
    have r1 := rx_of e1
    have fm_above_v1 : List.length (m_above_v1 ppath) = List.length ((cuts 47 ppath)) := rfl
    exact s_retL (l_mapR2 (f := vs) (fun k0 : Nat => (joinL lSl (cutG (m_above_v1 ppath) none (some ((1 : Int) + (k0 : Int)))))) (ea_cons ev_c (ea_cons (e_lenL (f := vs) (l := (m_above_v1 ppath)) (ev_var rfl) (sq_of h1_arts)) ea_nil)) (by walk_at "vside") (fun k0 hk => have := cut_sum (m_above_v1 ppath) none (some ((1 : Int) + (k0 : Int))); have := cut_len (m_above_v1 ppath) none (some ((1 : Int) + (k0 : Int))); have := above_sum ppath; (e_joinN (l := (cutG (m_above_v1 ppath) none (some ((1 : Int) + (k0 : Int))))) (ev_is (w := vs lSl) e_lit rfl) (l_slR (f := vs) (l := (m_above_v1 ppath)) (ev_var rfl) (sq_of h1_arts) eo_none (eo_some (ev_var rfl))) (by walk_at "vside")))) fun pR H2 nR e2a hR => RetL.go k0 e1 nR e2a hR
def sp_is_beneath (K : PySem.W.Frag) : Sp := spP fun ws H v => ∃ (ppath : Tx) (pupper : Tx), ws = [vs ppath, vs pupper] ∧ (pupper.length ≤ 900) ∧ v = V.bl (m_is_beneath ppath pupper)
theorem ok_is_beneath {f : Addr} {fd : FuncData} (F : Fun K "is_beneath" "is_beneath" s_is_beneath f fd) (z : Bt mg)  : FnOk P w K mg base CX0 1 f fd ["path", "upper"] (sp_is_beneath K) := by
  refine F.ok (k := 0) sc_is_beneath (fun ws H Q E h => ?_) (fun cdv A outer s H ws Q E hr h => ?_)
  · obtain ⟨_, ⟨_, _, rfl, _⟩, _⟩ := h
    rfl
  · obtain ⟨_, ⟨ppath, pupper, rfl, hpre, rfl⟩, k0⟩ := h
    obtain ⟨tk_MOST_PARTS, z_g_MOST_PARTS⟩ := z.g_MOST_PARTS
    obtain ⟨tk_MOST_SIGNS, z_g_MOST_SIGNS⟩ := z.g_MOST_SIGNS
    obtain ⟨tk_SIGNS, z_g_SIGNS⟩ := z.g_SIGNS
    have L_lSl := len_lSl
    refine ⟨_, (pss_one (ps_ret (pe_startsT (pv 0) (pe_op op_addT (pv 1) pe_str)))), ?_⟩
    exact s_ret (e_starts (ev_var rfl) (e_addT (ev_var rfl) (ev_is (w := vs lSl) e_lit rfl) (by walk_at "vside"))) fun H1 e1a => (RetV.go k0 (Ex.trans (Ex.refl H) e1a))
def sp_is_blocked (K : PySem.W.Frag) : Sp := spP fun ws H v => ∃ (aptree : Addr) (ptree : List (Tx × Tx)) (ppath : Tx), ws = [.ref aptree, vs ppath] ∧ Rd H aptree (.dK (kd vs ptree)) ∧ (ppath.length ≤ 900 ∧ ptree.length ≤ 1000 ∧ ∀ k ∈ dkeys ptree, k.length ≤ 900) ∧ v = V.bl (m_is_blocked ptree ppath)
theorem ok_is_blocked {f : Addr} {fd : FuncData} (F : Fun K "is_blocked" "is_blocked" s_is_blocked f fd) (z : Bt mg) (C_above : Cal P w K mg base 1 "above" ["path"] (sp_above K)) (C_is_beneath : Cal P w K mg base 1 "is_beneath" ["path", "upper"] (sp_is_beneath K)) : FnOk P w K mg base CX0 2 f fd ["tree", "path"] (sp_is_blocked K) := by
  refine F.ok (k := 1) sc_is_blocked (fun ws H Q E h => ?_) (fun cdv A outer s H ws Q E hr h => ?_)
  · obtain ⟨_, ⟨_, _, _, rfl, _⟩, _⟩ := h
    rfl
  · obtain ⟨_, ⟨aptree, ptree, ppath, rfl, hSptree, hpre, rfl⟩, k0⟩ := h
    obtain ⟨tk_MOST_PARTS, z_g_MOST_PARTS⟩ := z.g_MOST_PARTS
    obtain ⟨tk_MOST_SIGNS, z_g_MOST_SIGNS⟩ := z.g_MOST_SIGNS
    obtain ⟨tk_SIGNS, z_g_SIGNS⟩ := z.g_SIGNS
    have hp1 := hpre.1
    have hp2 := hpre.2.1
    have hpc := above_cnt ppath
    refine ⟨_, (pss_cons (ps_if (pt_val (pe_callB (cr_anyK K rfl) (by rfl) z.z_any (by decide +kernel) (pa_cons (pe_lc (own := [("upper", 3)]) (g := gName 3) (tt := tYes) rfl sc_is_blocked.nd (pi_listK K (pe_cal C_above (hr.mono (by decide)) (by rfl) (pa_cons (pv 1) pa_nil))) (blkOk_by (own := [("upper", 3)]) (N := ["tree", "path", "name", "upper"]) (sc := defScope s_is_blocked) (by decide +kernel)) (fun _ _ _ _ _ => pg_name (i := 3) sc_is_blocked.nd rfl (Or.inl rfl)) (fun _ _ _ _ _ => pts_nil) (fun _ _ _ _ _ => (pe_cmp (pc_din (hu_of hr) (pv 3) (pv 0)) rfl))) pa_nil))) (pss_one (ps_ret pe_bl)) pss_nil)
      (pss_one (ps_ret (pe_callB (cr_anyK K rfl) (by rfl) z.z_any (by decide +kernel) (pa_cons (pe_may (pe_lc (own := [("name", 2)]) (g := gName 2) (tt := tYes) rfl sc_is_blocked.nd (pi_keys (pv 0)) (blkOk_by (own := [("name", 2)]) (N := ["tree", "path", "name", "upper"]) (sc := defScope s_is_blocked) (by decide +kernel)) (fun _ _ _ _ _ => pg_name (i := 2) sc_is_blocked.nd rfl (Or.inl rfl)) (fun _ _ _ _ _ => pts_nil) (fun _ _ _ _ _ => (pe_cal C_is_beneath (hr.mono (by decide)) (by rfl) (pa_cons (pv 2) (pa_cons (pv 1) pa_nil)))))) pa_nil))))), ?_⟩
    refine q_when (b := (((m_above ppath).map (fun k0 : Tx => (dhas ptree k0))).any id)) (et_B (e_any (m := ((m_above ppath).map (fun k0 : Tx => (dhas ptree k0)))) (l_mapN (K := K) (f := vs) (m := (m_above ppath)) (f2 := V.bl) (fun k0 : Tx => (dhas ptree k0)) [] (el_call (ea_cons (ev_var rfl) ea_nil) (sl_of fun HC eC => ⟨_, rfl, (by walk_at "vside"), rfl⟩)) (by walk_at "vside") (fun k0 hm => (e_inD (f := vs) (l := ptree) (k := k0) (ev_var rfl) (ev_var rfl) ((RX.refl H) _ _ hSptree)))))) (fun hb1 H1 e1a => ?_) (fun hb1 H1 e1a => ?_)
    · have e1 := Ex.trans (Ex.refl H) e1a
      have r1 := rx_of e1
      have k1a := ret_T k0 hb1
      exact s_ret ev_c fun H2 e2a => (RetV.go k1a (Ex.trans e1 e2a))
    · have e1 := Ex.trans (Ex.refl H) e1a
      have r1 := rx_of e1
      have k2b := ret_F k0 hb1
      exact s_ret (e_any (m := ((dkeys ptree).map (fun k0 : Tx => (m_is_beneath k0 ppath)))) (l_mapK (f := vs) (l := ptree) (f2 := V.bl) (fun k0 : Tx => (m_is_beneath k0 ppath)) rfl (r1 _ _ hSptree) (by walk_at "vside") (fun k0 hm HLk0 lkk0 => have gk := hpre.2.2 k0 hm; (ev_call (ea_cons (ev_var rfl) (ea_cons (ev_var rfl) ea_nil)) (sv_of fun HC eC => ⟨_, _, rfl, (by walk_at "vside"), rfl⟩))))) fun H3 e3a => (RetV.go k2b (Ex.trans e1 e3a))
def rp_done : List (Tx × Tx) → Hp → VK → Prop := fun a H Q => RetK (kd vs a) H Q
def R_done (K : PySem.W.Frag) : List V → Hp → Res (List (Tx × Tx)) → Prop := fun ws H r => ∃ (aptree : Addr) (ptree : List (Tx × Tx)) (apdeed : Addr) (pdeed : List Tx), ws = [.ref aptree, .ref apdeed] ∧ Rd H aptree (.dK (kd vs ptree)) ∧ SqT K H apdeed (List.map vs pdeed) ∧ (okDeed pdeed ∧ Good ptree ∧ ptree.length ≤ 1000) ∧ r = (m_done ptree pdeed)
def sp_done (K : PySem.W.Frag) (Cs : Nat → Addr) : Sp := spX Cs rp_done (R_done K)
theorem ok_done {f : Addr} {fd : FuncData} {Cs : Nat → Addr} (G : ErrG mg Cs) (F : Fun K "done" "done" s_done f fd) (z : Bt mg) (C_is_path : Cal P w K mg base 2 "is_path" ["text"] (sp_is_path K)) (C_is_blocked : Cal P w K mg base 2 "is_blocked" ["tree", "path"] (sp_is_blocked K)) (R1 : ErrR K Cs 1) (R2 : ErrR K Cs 2) (R3 : ErrR K Cs 3) : FnOk P w K mg base (L2N.CX P w) 3 f fd ["tree", "deed"] (sp_done K Cs) := by
  refine okN F (k := 2) sc_done (fun ws H Q E h => ?_) (fun cdv A outer s H ws Q E hr h => ?_)
  · obtain ⟨_, ⟨_, _, _, _, rfl, _⟩, _⟩ := h
    rfl
  · obtain ⟨_, ⟨aptree, ptree, apdeed, pdeed, rfl, hSptree, hSpdeed, hpre, rfl⟩, k0⟩ := h
    obtain ⟨tk_MOST_PARTS, z_g_MOST_PARTS⟩ := z.g_MOST_PARTS
    obtain ⟨tk_MOST_SIGNS, z_g_MOST_SIGNS⟩ := z.g_MOST_SIGNS
    obtain ⟨tk_SIGNS, z_g_SIGNS⟩ := z.g_SIGNS
    have L_lCut := len_lCut
    have hd := hpre.1
    have hg := hpre.2.1
    have hl := hpre.2.2
    have hd2 := deed_two hd
    refine ⟨_, (pss_cons (ps_set (i := 2) sc_done.nd rfl (Or.inl rfl) (pe_ix (ix_tupK K) (pv 1) pe_int (fun _ _ => rfl)))
      (pss_cons (ps_if (pt_not (pt_val (pe_cal C_is_path (hr.mono (by decide)) (by rfl) (pa_cons (pv 2) pa_nil)))) (pss_one (L2N.ps_raise rfl (L2N.takes_of rfl rfl rfl rfl) (pmk_any PySem.F.excBase_ValueError R1.x G.g1 R1.kp (raises_own R1.b R1.t) (by exact rfl) (pe_joined (PJ.cons pe_str (PJ.cons (pe_fmt (pv 2)) PJ.nil)))))) pss_nil)
      (pss_cons (ps_set (i := 3) sc_done.nd rfl (Or.inl rfl) (pe_callTy call_dictD (by rfl) z.z_dict (by decide +kernel) (pa_cons (pv 0) pa_nil)))
      (pss_cons (ps_if (pt_cmpR op_eq (pe_ix (ix_tupK K) (pv 1) pe_int (fun _ _ => rfl)) pe_str (nomark _)) (pss_cons (ps_if (pt_cmp (pc_dnotin (hu_of hr) (pv 2) (pv 3))) (pss_one (L2N.ps_raise rfl (L2N.takes_of rfl rfl rfl rfl) (pmk_any PySem.F.excBase_ValueError R2.x G.g2 R2.kp (raises_own R2.b R2.t) (by exact rfl) (pe_joined (PJ.cons pe_str (PJ.cons (pe_fmt (pv 2)) PJ.nil)))))) pss_nil)
      (pss_one (ps_ddel (pv 3) (pv 2)))) (pss_cons (ps_if (pt_val (pe_cal C_is_blocked (hr.mono (by decide)) (by rfl) (pa_cons (pv 0) (pa_cons (pv 2) pa_nil)))) (pss_one (L2N.ps_raise rfl (L2N.takes_of rfl rfl rfl rfl) (pmk_any PySem.F.excBase_ValueError R3.x G.g3 R3.kp (raises_own R3.b R3.t) (by exact rfl) (pe_joined (PJ.cons pe_str (PJ.cons (pe_fmt (pv 2)) PJ.nil)))))) pss_nil)
      (pss_one (ps_dput (hu_of hr) (pv 3) (pv 2) (pe_ix (ix_tupK K) (pv 1) pe_int (fun _ _ => rfl)) rfl))))
      (pss_one (ps_ret (pv 3))))))), ?_⟩
    refine q_asg (v := vs (m_done_v1 pdeed)) (ev_is (e_ixU (f := vs) (l := pdeed) [] (ev_var rfl) (rx_t (RX.refl H) hSpdeed) ev_c (by walk_at "vside")) rfl) fun H1 e1a => ?_
    have e1 := Ex.trans (Ex.refl H) e1a
    have r1 := rx_of e1
    have fm_done_v1 : List.length (m_done_v1 pdeed) = List.length ((pdeed.getD (1 : Int).toNat [])) := rfl
    have g1 := deed_path hd
    have gw : (m_done_v1 pdeed).length ≤ 900 ∧ ptree.length ≤ 1000 ∧ ∀ k ∈ dkeys ptree, k.length ≤ 900 := ⟨g1, hl, hg.le9⟩
    refine q_when (b := (!(m_is_path (m_done_v1 pdeed)))) (et_not (et_B (ev_call (ea_cons (ev_var rfl) ea_nil) (sv_of fun HC eC => ⟨_, rfl, (by walk_at "vside"), rfl⟩)))) (fun hb2 H2 e2a => ?_) (fun hb2 H2 e2a => ?_)
    · have e2 := Ex.trans e1 e2a
      have r2 := rx_of e2
      have k1a := retX_T k0 hb2
      exact x_msg (s := "no path: ") (p := (m_done_v1 pdeed)) (ev_var rfl) (by rw [show (tx "no path: ").length = 9 by decide +kernel]; walk_at "vside") fun HX eX => PX.exc k1a (Ex.trans e2 eX)
    · have e2 := Ex.trans e1 e2a
      have r2 := rx_of e2
      have k2b := retX_F k0 hb2
      refine q_asgK (kvs := kd vs (m_done_v2 ptree)) (ek_is (k_copy (f := vs) (l := ptree) (ev_var rfl) (r2 _ _ hSptree)) rfl) fun p3_iles H3 n3a e3a h3_iles => ?_
      have n3 := fresh_back e2 n3a
      have e3 := Ex.trans e2 e3a
      have r3 := rx_of e3
      have g2 : (m_done_v2 ptree).length = ptree.length := rfl
      refine q_if (b := (decide ((pdeed.getD (0 : Int).toNat []) = lCut))) (et_test (e_eqT (e_ixU (f := vs) (l := pdeed) [] (ev_var rfl) (rx_t r3 hSpdeed) ev_c (by walk_at "vside")) (ev_is (w := vs lCut) e_lit rfl))) (fun hb4 H4 e4a => ?_) (fun hb4 H4 e4a => ?_)
      · have e4 := Ex.trans e3 e4a
        have r4 := rx_of e4
        have h3_iles := e4a _ _ h3_iles
        have k3a := retX_T k2b hb4
        refine q_when (b := (!dhas (m_done_v2 ptree) (m_done_v1 pdeed))) (et_B (e_niD (f := vs) (l := (m_done_v2 ptree)) (k := (m_done_v1 pdeed)) (ev_var rfl) (ev_var rfl) (Or.inl h3_iles))) (fun hb5 H5 e5a => ?_) (fun hb5 H5 e5a => ?_)
        · have e5 := Ex.trans e4 e5a
          have r5 := rx_of e5
          have h3_iles := e5a _ _ h3_iles
          have k4a := retX_T k3a hb5
          exact x_msg (s := "no file: ") (p := (m_done_v1 pdeed)) (ev_var rfl) (by rw [show (tx "no file: ").length = 9 by decide +kernel]; walk_at "vside") fun HX eX => PX.exc k4a (Ex.trans e5 eX)
        · have e5 := Ex.trans e4 e5a
          have r5 := rx_of e5
          have h3_iles := e5a _ _ h3_iles
          have gin := has_of_not hb5
          have k5b := retX_F k3a hb5
          refine s_delD (f := vs) (l := (m_done_v2 ptree)) (k := (m_done_v1 pdeed)) (ev_var rfl) (ev_var rfl) h3_iles (by walk_at "vside") fun H6 m6 => ?_
          have e6 := Mu.ex m6 e5 n3
          have r6 := rx_of e6
          have h3_iles : H6 p3_iles = some (.dK (kd vs (m_done_v3 ptree pdeed))) := Mu.at m6
          exact s_ret (ev_var rfl) fun H7 e7a => (PX.ret k5b) _ _ n3 (Ex.trans e6 e7a) (e7a _ _ h3_iles)
      · have e4 := Ex.trans e3 e4a
        have r4 := rx_of e4
        have h3_iles := e4a _ _ h3_iles
        have g3 := deed_three hd hb4
        have k6b := retX_F k2b hb4
        refine q_when (b := (m_is_blocked ptree (m_done_v1 pdeed))) (et_B (ev_call (ea_cons (ev_var rfl) (ea_cons (ev_var rfl) ea_nil)) (sv_of fun HC eC => ⟨_, _, _, rfl, ex_rd eC (r4 _ _ hSptree), (by walk_at "vside"), rfl⟩))) (fun hb8 H8 e8a => ?_) (fun hb8 H8 e8a => ?_)
        · have e8 := Ex.trans e4 e8a
          have r8 := rx_of e8
          have h3_iles := e8a _ _ h3_iles
          have k7a := retX_T k6b hb8
          exact x_msg (s := "a file is in the way of ") (p := (m_done_v1 pdeed)) (ev_var rfl) (by rw [show (tx "a file is in the way of ").length = 24 by decide +kernel]; walk_at "vside") fun HX eX => PX.exc k7a (Ex.trans e8 eX)
        · have e8 := Ex.trans e4 e8a
          have r8 := rx_of e8
          have h3_iles := e8a _ _ h3_iles
          have k8b := retX_F k6b hb8
          refine s_putD (f := vs) (l := (m_done_v2 ptree)) (k := (m_done_v1 pdeed)) (v := (pdeed.getD (2 : Int).toNat [])) (e_ixU (f := vs) (l := pdeed) [] (ev_var rfl) (rx_t r8 hSpdeed) ev_c (by walk_at "vside")) (ev_var rfl) (ev_var rfl) h3_iles (by walk_at "vside") fun H9 m9 => ?_
          have e9 := Mu.ex m9 e8 n3
          have r9 := rx_of e9
          have h3_iles : H9 p3_iles = some (.dK (kd vs (m_done_v4 ptree pdeed))) := Mu.at m9
          exact s_ret (ev_var rfl) fun H10 e10a => (PX.ret k8b) _ _ n3 (Ex.trans e9 e10a) (e10a _ _ h3_iles)
def sp_law_cell_at (K : PySem.W.Frag) : Sp := spP fun ws H v => ∃ (ap_script : Addr) (p_script : List Int) (p_k : Int), ws = [.ref ap_script, V.int p_k] ∧ SqL K H ap_script (List.map V.int p_script) ∧ (0 ≤ p_k) ∧ v = V.int (m_law_cell_at p_script p_k)
theorem ok_law_cell_at {f : Addr} {fd : FuncData} (F : Fun K "_law_cell_at" "_law_cell_at" s_law_cell_at f fd) (z : Bt mg)  : FnOk P w K mg base CX0 1 f fd ["_law_script", "_law_k"] (sp_law_cell_at K) := by
  refine F.ok (k := 0) sc_law_cell_at (fun ws H Q E h => ?_) (fun cdv A outer s H ws Q E hr h => ?_)
  · obtain ⟨_, ⟨_, _, _, rfl, _⟩, _⟩ := h
    rfl
  · obtain ⟨_, ⟨ap_script, p_script, p_k, rfl, hSp_script, hpre, rfl⟩, k0⟩ := h
    obtain ⟨tk_MOST_PARTS, z_g_MOST_PARTS⟩ := z.g_MOST_PARTS
    obtain ⟨tk_MOST_SIGNS, z_g_MOST_SIGNS⟩ := z.g_MOST_SIGNS
    obtain ⟨tk_SIGNS, z_g_SIGNS⟩ := z.g_SIGNS
    refine ⟨_, (pss_cons (ps_if (pt_cmpR op_lt (pv 1) (pe_callB (call_lenK K) (by rfl) z.z_len PySem.boot_len (pa_cons (pv 0) pa_nil)) (nomark _)) (pss_one (ps_ret (pe_ix (ix_listK K) (pv 0) (pv 1) (fun _ _ => rfl)))) pss_nil)
      (pss_one (ps_ret pe_int))), ?_⟩
    refine q_when (b := (decide (p_k < (p_script.length : Int)))) (et_test (e_lt (ev_var rfl) (e_lenL (f := V.int) (l := p_script) (ev_var rfl) (rx_l (RX.refl H) hSp_script)))) (fun hb1 H1 e1a => ?_) (fun hb1 H1 e1a => ?_)
    · have e1 := Ex.trans (Ex.refl H) e1a
      have r1 := rx_of e1
      have k1a := ret_T k0 hb1
      exact s_ret (e_ixL (f := V.int) (l := p_script) 0 (ev_var rfl) (rx_l r1 hSp_script) (ev_var rfl) (by walk_at "vside")) fun H2 e2a => (RetV.go k1a (Ex.trans e1 e2a))
    · have e1 := Ex.trans (Ex.refl H) e1a
      have r1 := rx_of e1
      have k2b := ret_F k0 hb1
      exact s_ret ev_c fun H3 e3a => (RetV.go k2b (Ex.trans e1 e3a))
def sp_law_sign_by (K : PySem.W.Frag) : Sp := spP fun ws H v => ∃ (p_k : Int), ws = [V.int p_k] ∧ v = vs (m_law_sign_by p_k)
theorem ok_law_sign_by {f : Addr} {fd : FuncData} (F : Fun K "_law_sign_by" "_law_sign_by" s_law_sign_by f fd) (z : Bt mg)  : FnOk P w K mg base CX0 1 f fd ["_law_k"] (sp_law_sign_by K) := by
  refine F.ok (k := 0) sc_law_sign_by (fun ws H Q E h => ?_) (fun cdv A outer s H ws Q E hr h => ?_)
  · obtain ⟨_, ⟨_, rfl, _⟩, _⟩ := h
    rfl
  · obtain ⟨_, ⟨p_k, rfl, rfl⟩, k0⟩ := h
    obtain ⟨tk_MOST_PARTS, z_g_MOST_PARTS⟩ := z.g_MOST_PARTS
    obtain ⟨tk_MOST_SIGNS, z_g_MOST_SIGNS⟩ := z.g_MOST_SIGNS
    obtain ⟨tk_SIGNS, z_g_SIGNS⟩ := z.g_SIGNS
    have L_lSigns := len_lSigns
    refine ⟨_, (pss_one (ps_ret (pe_ix ix_str pe_str (pe_op op_mod (pv 0) pe_int) (fun _ _ => rfl)))), ?_⟩
    exact s_ret (e_ixS (ev_is (w := vs lSigns) e_lit rfl) (e_mod (ev_var rfl) ev_c (by walk_at "vside")) (by walk_at "vside")) fun H1 e1a => (RetV.go k0 (Ex.trans (Ex.refl H) e1a))
def sp_law_name_by (K : PySem.W.Frag) : Sp := spP fun ws H v => ∃ (p_k : Int) (p_shift : Int), ws = [V.int p_k, V.int p_shift] ∧ v = vs (m_law_name_by p_k p_shift)
theorem ok_law_name_by {f : Addr} {fd : FuncData} (F : Fun K "_law_name_by" "_law_name_by" s_law_name_by f fd) (z : Bt mg) (C_law_sign_by : Cal P w K mg base 1 "_law_sign_by" ["_law_k"] (sp_law_sign_by K)) : FnOk P w K mg base CX0 2 f fd ["_law_k", "_law_shift"] (sp_law_name_by K) := by
  refine F.ok (k := 1) sc_law_name_by (fun ws H Q E h => ?_) (fun cdv A outer s H ws Q E hr h => ?_)
  · obtain ⟨_, ⟨_, _, rfl, _⟩, _⟩ := h
    rfl
  · obtain ⟨_, ⟨p_k, p_shift, rfl, rfl⟩, k0⟩ := h
    obtain ⟨tk_MOST_PARTS, z_g_MOST_PARTS⟩ := z.g_MOST_PARTS
    obtain ⟨tk_MOST_SIGNS, z_g_MOST_SIGNS⟩ := z.g_MOST_SIGNS
    obtain ⟨tk_SIGNS, z_g_SIGNS⟩ := z.g_SIGNS
    have L_lNil := len_lNil
    have L_lDot := len_lDot
    have L_lDots := len_lDots
    have L_l0x := len_l0x
    have i0 := b01 (decide ((m_law_name_by_v3 p_shift) = (0 : Int)))
    have i1 := b01 (decide ((m_law_name_by_v3 p_shift) = (1 : Int)))
    have i3 := b01 (decide ((m_law_name_by_v3 p_shift) = (3 : Int)))
    have i26 := g26 ((if (decide ((m_law_name_by_v3 p_shift) = (3 : Int))) = true then (1 : Int) else 0).toNat)
    refine ⟨_, (pss_cons (ps_set (i := 2) sc_law_name_by.nd rfl (Or.inl rfl) pe_int)
      (pss_cons (ps_if (pt_cmpR op_eq (pe_op op_mod (pe_op op_fdiv (pv 1) pe_int) pe_int) pe_int (nomark _)) (pss_one (ps_set (i := 2) sc_law_name_by.nd rfl (Or.inl rfl) (pe_op op_add pe_int (pe_op op_mod (pe_op op_fdiv (pv 1) pe_int) pe_int)))) pss_nil)
      (pss_cons (ps_set (i := 3) sc_law_name_by.nd rfl (Or.inr rfl) (pe_op op_mod (pe_op op_fdiv (pv 1) pe_int) pe_int))
      (pss_cons (ps_setLc (i := 4) (own := [("_law_j", 8)]) (g := gName 8) (tt := tYes) rfl sc_law_name_by.nd rfl rfl (sw_true rfl rfl rfl (by decide +kernel)) (pi_range1 (by rfl) z.z_range (pa_cons pe_int pa_nil)) (blkOk_by (own := [("_law_j", 8)]) (N := ["_law_k", "_law_shift", "_law_size", "_law_way", "_law_rest", "_law_at", "_law_told_here", "_law_name", "_law_j"]) (sc := defScope s_law_name_by) (by decide +kernel)) (fun _ _ _ _ _ => pg_name (i := 8) sc_law_name_by.nd rfl (Or.inl rfl)) (fun _ _ _ _ _ => pts_nil) (fun _ _ _ _ _ => (pe_cal C_law_sign_by (hr.mono (by decide)) (by rfl) (pa_cons (pe_op op_add (pe_op op_add (pe_op op_fdiv (pv 1) pe_int) (pe_op op_mul pe_int (pv 8))) (pe_op op_mul (pv 0) (pe_callTy call_int1 (by rfl) z.z_int (by decide +kernel) (pa_cons (pe_cmpR op_eq (pv 3) pe_int (nomark _)) pa_nil)))) pa_nil))))
      (pss_cons (ps_set (i := 5) sc_law_name_by.nd rfl (Or.inl rfl) (pe_op op_mul (pe_op op_mod (pe_op op_fdiv (pv 1) pe_int) (pv 2)) (pe_callTy call_int1 (by rfl) z.z_int (by decide +kernel) (pa_cons (pe_cmpR op_eq (pv 3) pe_int (nomark _)) pa_nil))))
      (pss_cons (ps_set (i := 6) sc_law_name_by.nd rfl (Or.inl rfl) (pe_cal C_law_sign_by (hr.mono (by decide)) (by rfl) (pa_cons (pe_op op_add (pv 1) (pe_op op_mul (pv 0) (pe_ix (ix_listK K) (pe_lst (pa_cons pe_int (pa_cons pe_int pa_nil))) (pe_callTy call_int1 (by rfl) z.z_int (by decide +kernel) (pa_cons (pe_cmpR op_eq (pv 3) pe_int (nomark _)) pa_nil)) (fun _ _ => rfl)))) pa_nil)))
      (pss_cons (ps_set (i := 7) sc_law_name_by.nd rfl (Or.inl rfl) (pe_op op_addT (pe_op op_addT (pe_joinK K pe_str (pe_slice (sl_listK K) (pv 4) po_none (po_some (pv 5)))) (pv 6)) (pe_joinK K pe_str (pe_slice (sl_listK K) (pv 4) (po_some (pv 5)) (po_some (pe_op op_sub (pv 2) pe_int))))))
      (pss_cons (ps_if (pt_cmpR op_eq (pv 3) pe_int (nomark _)) (pss_one (ps_set (i := 7) sc_law_name_by.nd rfl (Or.inl rfl) (pe_joinK K pe_str (pe_slice (sl_listK K) (pv 4) po_none (po_some (pe_op op_add pe_int (pe_op op_mod (pe_op op_add (pe_op op_fdiv (pv 1) pe_int) (pv 0)) pe_int))))))) pss_nil)
      (pss_cons (ps_if (PW.pt (pw_or (pt_cmpR op_eq (pv 7) pe_str (nomark _)) (pw_or1 (pt_cmpR op_eq (pv 7) pe_str (nomark _))))) (pss_one (ps_ret pe_str)) pss_nil)
      (pss_one (ps_ret (pv 7)))))))))))), ?_⟩
    refine q_asg (v := V.int m_law_name_by_v1) (ev_is ev_c rfl) fun H1 e1a => ?_
    have e1 := Ex.trans (Ex.refl H) e1a
    have r1 := rx_of e1
    have fm_law_name_by_v1 : m_law_name_by_v1 = (1 : Int) := rfl
    refine q_ifSet (f := V.int) (z := (m_law_name_by_v2 p_shift)) (et_test (e_eqI (e_mod (e_div (ev_var rfl) ev_c (by walk_at "vside")) ev_c (by walk_at "vside")) ev_c)) (fun hc => (e_add ev_c (e_mod (e_div (ev_var rfl) ev_c (by walk_at "vside")) ev_c (by walk_at "vside")))) rfl rfl fun H2 e2a => ?_
    have e2 := Ex.trans e1 e2a
    have r2 := rx_of e2
    have fm_law_name_by_v2 : (m_law_name_by_v2 p_shift) = if (decide (((p_shift / (65 : Int)) % (3 : Int)) = (1 : Int))) = true then ((1 : Int) + ((p_shift / (195 : Int)) % (12 : Int))) else m_law_name_by_v1 := rfl
    have g2 := name_v2 p_shift
    refine q_asg (v := V.int (m_law_name_by_v3 p_shift)) (ev_is (e_mod (e_div (ev_var rfl) ev_c (by walk_at "vside")) ev_c (by walk_at "vside")) rfl) fun H3 e3a => ?_
    have e3 := Ex.trans e2 e3a
    have r3 := rx_of e3
    have fm_law_name_by_v3 : (m_law_name_by_v3 p_shift) = ((p_shift / (5 : Int)) % (4 : Int)) := rfl
    refine q_asgL (xs := List.map vs (m_law_name_by_v4 p_shift p_k)) (el_is (l_mapR (f := vs) (fun k0 : Nat => (m_law_sign_by (((p_shift / (195 : Int)) + ((7 : Int) * (k0 : Int))) + (p_k * (if (decide ((m_law_name_by_v3 p_shift) = (0 : Int))) = true then (1 : Int) else 0))))) (ea_cons ev_c ea_nil) (by walk_at "vside") (fun k0 hk => (ev_call (ea_cons (e_add (e_add (e_div (ev_var rfl) ev_c (by walk_at "vside")) (e_mul ev_c (ev_var rfl) (by first | exact Or.inl (by walk_at "vside") | exact Or.inr (by walk_at "vside")))) (e_mul (ev_var rfl) (e_intB (e_eqI (ev_var rfl) ev_c)) (by first | exact Or.inl (by walk_at "vside") | exact Or.inr (by walk_at "vside")))) ea_nil) (sv_of fun HC eC => ⟨_, rfl, rfl⟩)))) rfl) fun p4_rest H4 n4a e4a h4_rest => ?_
    have n4 := fresh_back e3 n4a
    have e4 := Ex.trans e3 e4a
    have r4 := rx_of e4
    have fm_law_name_by_v4 : List.length (m_law_name_by_v4 p_shift p_k) = List.length (((List.range (12 : Int).toNat).map (fun k0 : Nat => (m_law_sign_by (((p_shift / (195 : Int)) + ((7 : Int) * (k0 : Int))) + (p_k * (if (decide ((m_law_name_by_v3 p_shift) = (0 : Int))) = true then (1 : Int) else 0))))))) := rfl
    have g4 := name_v4 p_shift p_k
    have g4l : List.length (m_law_name_by_v4 p_shift p_k) = 12 := rfl
    refine q_asg (v := V.int (m_law_name_by_v5 p_shift)) (ev_is (e_mul (e_mod (e_div (ev_var rfl) ev_c (by walk_at "vside")) (ev_var rfl) (by walk_at "vside")) (e_intB (e_eqI (ev_var rfl) ev_c)) (by first | exact Or.inl (by walk_at "vside") | exact Or.inr (by walk_at "vside"))) rfl) fun H5 e5a => ?_
    have e5 := Ex.trans e4 e5a
    have r5 := rx_of e5
    have h4_rest := e5a _ _ h4_rest
    have fm_law_name_by_v5 : (m_law_name_by_v5 p_shift) = (((p_shift / (20 : Int)) % (m_law_name_by_v2 p_shift)) * (if (decide ((m_law_name_by_v3 p_shift) = (1 : Int))) = true then (1 : Int) else 0)) := rfl
    have g5 := name_v5 p_shift
    refine q_asg (v := vs (m_law_name_by_v6 p_shift p_k)) (ev_is (ev_call (ea_cons (e_add (ev_var rfl) (e_mul (ev_var rfl) (e_ixN (f := V.int) (l := [(1 : Int), (26 : Int)]) 0 (el_lst (ea_cons ev_c (ea_cons ev_c ea_nil)) (by simp)) (e_intB (e_eqI (ev_var rfl) ev_c)) (by walk_at "vside")) (by first | exact Or.inl (by walk_at "vside") | exact Or.inr (by walk_at "vside")))) ea_nil) (sv_of fun HC eC => ⟨_, rfl, rfl⟩)) rfl) fun H6 e6a => ?_
    have e6 := Ex.trans e5 e6a
    have r6 := rx_of e6
    have h4_rest := e6a _ _ h4_rest
    have fm_law_name_by_v6 : List.length (m_law_name_by_v6 p_shift p_k) = List.length ((m_law_sign_by (p_shift + (p_k * ([(1 : Int), (26 : Int)].getD (if (decide ((m_law_name_by_v3 p_shift) = (3 : Int))) = true then (1 : Int) else 0).toNat 0))))) := rfl
    have g6 : List.length (m_law_name_by_v6 p_shift p_k) = 1 := rfl
    have c1a := cut_sum (m_law_name_by_v4 p_shift p_k) none (some (m_law_name_by_v5 p_shift))
    have c1b := cut_len (m_law_name_by_v4 p_shift p_k) none (some (m_law_name_by_v5 p_shift))
    have c1c := jl0 (cutG (m_law_name_by_v4 p_shift p_k) none (some (m_law_name_by_v5 p_shift)))
    have c2a := cut_sum (m_law_name_by_v4 p_shift p_k) (some (m_law_name_by_v5 p_shift)) (some ((m_law_name_by_v2 p_shift) - (1 : Int)))
    have c2b := cut_len (m_law_name_by_v4 p_shift p_k) (some (m_law_name_by_v5 p_shift)) (some ((m_law_name_by_v2 p_shift) - (1 : Int)))
    have c2c := jl0 (cutG (m_law_name_by_v4 p_shift p_k) (some (m_law_name_by_v5 p_shift)) (some ((m_law_name_by_v2 p_shift) - (1 : Int))))
    refine q_asg (v := vs (m_law_name_by_v7 p_shift p_k)) (ev_is (e_addT (e_addT (e_joinN (l := (cutG (m_law_name_by_v4 p_shift p_k) none (some (m_law_name_by_v5 p_shift)))) (ev_is (w := vs lNil) e_lit rfl) (l_slR (f := vs) (l := (m_law_name_by_v4 p_shift p_k)) (ev_var rfl) (sq_of h4_rest) eo_none (eo_some (ev_var rfl))) (by walk_at "vside")) (ev_var rfl) (by walk_at "vside")) (e_joinN (l := (cutG (m_law_name_by_v4 p_shift p_k) (some (m_law_name_by_v5 p_shift)) (some ((m_law_name_by_v2 p_shift) - (1 : Int))))) (ev_is (w := vs lNil) e_lit rfl) (l_slR (f := vs) (l := (m_law_name_by_v4 p_shift p_k)) (ev_var rfl) (sq_of h4_rest) (eo_some (ev_var rfl)) (eo_some (e_sub (ev_var rfl) ev_c))) (by walk_at "vside")) (by walk_at "vside")) rfl) fun H7 e7a => ?_
    have e7 := Ex.trans e6 e7a
    have r7 := rx_of e7
    have h4_rest := e7a _ _ h4_rest
    have fm_law_name_by_v7 : List.length (m_law_name_by_v7 p_shift p_k) = List.length ((((joinL lNil (cutG (m_law_name_by_v4 p_shift p_k) none (some (m_law_name_by_v5 p_shift)))) ++ (m_law_name_by_v6 p_shift p_k)) ++ (joinL lNil (cutG (m_law_name_by_v4 p_shift p_k) (some (m_law_name_by_v5 p_shift)) (some ((m_law_name_by_v2 p_shift) - (1 : Int))))))) := rfl
    have c3a := cut_sum (m_law_name_by_v4 p_shift p_k) none (some ((1 : Int) + (((p_shift / (65 : Int)) + p_k) % (12 : Int))))
    have c3b := cut_len (m_law_name_by_v4 p_shift p_k) none (some ((1 : Int) + (((p_shift / (65 : Int)) + p_k) % (12 : Int))))
    have c3c := jl0 (cutG (m_law_name_by_v4 p_shift p_k) none (some ((1 : Int) + (((p_shift / (65 : Int)) + p_k) % (12 : Int)))))
    refine q_ifSet (f := vs) (z := (m_law_name_by_v8 p_shift p_k)) (et_test (e_eqI (ev_var rfl) ev_c)) (fun hc => (e_joinN (l := (cutG (m_law_name_by_v4 p_shift p_k) none (some ((1 : Int) + (((p_shift / (65 : Int)) + p_k) % (12 : Int)))))) (ev_is (w := vs lNil) e_lit rfl) (l_slR (f := vs) (l := (m_law_name_by_v4 p_shift p_k)) (ev_var rfl) (sq_of h4_rest) eo_none (eo_some (e_add ev_c (e_mod (e_add (e_div (ev_var rfl) ev_c (by walk_at "vside")) (ev_var rfl)) ev_c (by walk_at "vside"))))) (by walk_at "vside"))) rfl rfl fun H8 e8a => ?_
    have e8 := Ex.trans e7 e8a
    have r8 := rx_of e8
    have h4_rest := e8a _ _ h4_rest
    refine q_when (b := ((decide ((m_law_name_by_v8 p_shift p_k) = lDot)) || (decide ((m_law_name_by_v8 p_shift p_k) = lDots)))) (et_or (et_test (e_eqT (ev_var rfl) (ev_is (w := vs lDot) e_lit rfl))) (fun hc => (et_test (e_eqT (ev_var rfl) (ev_is (w := vs lDots) e_lit rfl))))) (fun hb9 H9 e9a => ?_) (fun hb9 H9 e9a => ?_)
    · have e9 := Ex.trans e8 e9a
      have r9 := rx_of e9
      have h4_rest := e9a _ _ h4_rest
      have k1a := ret_T k0 hb9
      exact s_ret (ev_is (w := vs l0x) e_lit rfl) fun H10 e10a => (RetV.go k1a (Ex.trans e9 e10a))
    · have e9 := Ex.trans e8 e9a
      have r9 := rx_of e9
      have h4_rest := e9a _ _ h4_rest
      have k2b := ret_F k0 hb9
      exact s_ret (ev_var rfl) fun H11 e11a => (RetV.go k2b (Ex.trans e9 e11a))
def sp_law_path_by (K : PySem.W.Frag) : Sp := spP fun ws H v => ∃ (p_cell : Int) (p_shift : Int), ws = [V.int p_cell, V.int p_shift] ∧ v = vs (m_law_path_by p_cell p_shift)
theorem ok_law_path_by {f : Addr} {fd : FuncData} (F : Fun K "_law_path_by" "_law_path_by" s_law_path_by f fd) (z : Bt mg) (C_law_name_by : Cal P w K mg base 2 "_law_name_by" ["_law_k", "_law_shift"] (sp_law_name_by K)) : FnOk P w K mg base CX0 3 f fd ["_law_cell", "_law_shift"] (sp_law_path_by K) := by
  refine F.ok (k := 2) sc_law_path_by (fun ws H Q E h => ?_) (fun cdv A outer s H ws Q E hr h => ?_)
  · obtain ⟨_, ⟨_, _, rfl, _⟩, _⟩ := h
    rfl
  · obtain ⟨_, ⟨p_cell, p_shift, rfl, rfl⟩, k0⟩ := h
    obtain ⟨tk_MOST_PARTS, z_g_MOST_PARTS⟩ := z.g_MOST_PARTS
    obtain ⟨tk_MOST_SIGNS, z_g_MOST_SIGNS⟩ := z.g_MOST_SIGNS
    obtain ⟨tk_SIGNS, z_g_SIGNS⟩ := z.g_SIGNS
    have L_lSl := len_lSl
    refine ⟨_, (pss_cons (ps_set (i := 2) sc_law_path_by.nd rfl (Or.inl rfl) (pe_ix (ix_listK K) (pe_lst (pa_cons pe_int (pa_cons pe_int (pa_cons pe_int (pa_cons pe_int (pa_cons pe_int pa_nil)))))) (pe_op op_mod (pv 0) pe_int) (fun _ _ => rfl)))
      (pss_cons (ps_setLc (i := 3) (own := [("_law_j", 5)]) (g := gName 5) (tt := tYes) rfl sc_law_path_by.nd rfl rfl (sw_true rfl rfl rfl (by decide +kernel)) (pi_range1 (by rfl) z.z_range (pa_cons (pv 2) pa_nil)) (blkOk_by (own := [("_law_j", 5)]) (N := ["_law_cell", "_law_shift", "_law_depth", "_law_parts", "_law_ahead", "_law_j"]) (sc := defScope s_law_path_by) (by decide +kernel)) (fun _ _ _ _ _ => pg_name (i := 5) sc_law_path_by.nd rfl (Or.inl rfl)) (fun _ _ _ _ _ => pts_nil) (fun _ _ _ _ _ => (pe_cal C_law_name_by (hr.mono (by decide)) (by rfl) (pa_cons (pe_op op_mod (pe_op op_fdiv (pe_op op_fdiv (pv 0) pe_int) (pe_ix (ix_listK K) (pe_lst (pa_cons pe_int (pa_cons pe_int (pa_cons pe_int pa_nil)))) (pv 5) (fun _ _ => rfl))) pe_int) (pa_cons (pv 1) pa_nil)))))
      (pss_cut (ps_if (pt_cmpR op_eq (pe_op op_mod (pv 1) pe_int) pe_int (nomark _)) (pss_cons (ps_setLc (i := 4) (own := [("_law_j", 5)]) (g := gName 5) (tt := tYes) rfl sc_law_path_by.nd rfl rfl (sw_true rfl rfl rfl (by decide +kernel)) (pi_range1 (by rfl) z.z_range (pa_cons (pe_op op_add pe_int (pe_op op_mod (pe_op op_fdiv (pv 1) pe_int) pe_int)) pa_nil)) (blkOk_by (own := [("_law_j", 5)]) (N := ["_law_cell", "_law_shift", "_law_depth", "_law_parts", "_law_ahead", "_law_j"]) (sc := defScope s_law_path_by) (by decide +kernel)) (fun _ _ _ _ _ => pg_name (i := 5) sc_law_path_by.nd rfl (Or.inl rfl)) (fun _ _ _ _ _ => pts_nil) (fun _ _ _ _ _ => (pe_cal C_law_name_by (hr.mono (by decide)) (by rfl) (pa_cons (pe_op op_add pe_int (pv 5)) (pa_cons (pv 1) pa_nil)))))
      (pss_cons (ps_set (i := 3) sc_law_path_by.nd rfl (Or.inl rfl) (pe_op op_cat (pv 4) (pv 3)))
      (pss_cut (ps_if (pt_cmpR op_eq (pe_op op_mod (pv 0) pe_int) pe_int (nomark _)) (pss_one (ps_set (i := 3) sc_law_path_by.nd rfl (Or.inl rfl) (pe_slice (sl_listK K) (pv 3) po_none (po_some (pe_op op_add pe_int (pe_op op_mod (pe_op op_fdiv (pv 0) pe_int) (pe_callB (call_lenK K) (by rfl) z.z_len PySem.boot_len (pa_cons (pv 3) pa_nil)))))))) pss_nil)
      pss_nil))) pss_nil)
      (pss_one (ps_ret (pe_joinK K pe_str (pv 3))))))), ?_⟩
    refine q_asg (v := V.int (m_law_path_by_v1 p_cell)) (ev_is (e_ixN (f := V.int) (l := [(1 : Int), (1 : Int), (2 : Int), (2 : Int), (3 : Int)]) 0 (el_lst (ea_cons ev_c (ea_cons ev_c (ea_cons ev_c (ea_cons ev_c (ea_cons ev_c ea_nil))))) (by simp)) (e_mod (ev_var rfl) ev_c (by walk_at "vside")) (by walk_at "vside")) rfl) fun H1 e1a => ?_
    have e1 := Ex.trans (Ex.refl H) e1a
    have r1 := rx_of e1
    have fm_law_path_by_v1 : (m_law_path_by_v1 p_cell) = ([(1 : Int), (1 : Int), (2 : Int), (2 : Int), (3 : Int)].getD (p_cell % (5 : Int)).toNat 0) := rfl
    have g1 := path_v1 p_cell
    refine q_asgL (xs := List.map vs (m_law_path_by_v2 p_cell p_shift)) (el_is (l_mapR (f := vs) (fun k0 : Nat => (m_law_name_by (((p_cell / (5 : Int)) / ([(1 : Int), (3 : Int), (9 : Int)].getD (k0 : Int).toNat 0)) % (3 : Int)) p_shift)) (ea_cons (ev_var rfl) ea_nil) (by walk_at "vside") (fun k0 hk => have := g139 (k0 : Int).toNat; (ev_call (ea_cons (e_mod (e_div (e_div (ev_var rfl) ev_c (by walk_at "vside")) (e_ixN (f := V.int) (l := [(1 : Int), (3 : Int), (9 : Int)]) 0 (el_lst (ea_cons ev_c (ea_cons ev_c (ea_cons ev_c ea_nil))) (by simp)) (ev_var rfl) (by walk_at "vside")) (by walk_at "vside")) ev_c (by walk_at "vside")) (ea_cons (ev_var rfl) ea_nil)) (sv_of fun HC eC => ⟨_, _, rfl, rfl⟩)))) rfl) fun p2_parts H2 n2a e2a h2_parts => ?_
    have n2 := fresh_back e1 n2a
    have e2 := Ex.trans e1 e2a
    have r2 := rx_of e2
    have fm_law_path_by_v2 : List.length (m_law_path_by_v2 p_cell p_shift) = List.length (((List.range (m_law_path_by_v1 p_cell).toNat).map (fun k0 : Nat => (m_law_name_by (((p_cell / (5 : Int)) / ([(1 : Int), (3 : Int), (9 : Int)].getD (k0 : Int).toNat 0)) % (3 : Int)) p_shift)))) := rfl
    have g2 := (path_v2 p_cell p_shift).1
    refine q_cut (M := (fun (σ3m : L2.St) (H3m : Hp) => ∃ (jm3_ahead : Option V) (p3m_arts : Addr), σ3m = [some (V.int p_cell), some (V.int p_shift), some (V.int (m_law_path_by_v1 p_cell)), some (.ref p3m_arts), jm3_ahead, none] ∧ Ex H H3m ∧ RX H H3m ∧ H3m p3m_arts = some (.lst (List.map vs (m_law_path_by_v7 p_shift p_cell))) ∧ H p3m_arts = none)) ?_ ?_
    · refine s_when (b := (decide ((p_shift % (7 : Int)) = (3 : Int)))) (et_test (e_eqI (e_mod (ev_var rfl) ev_c (by walk_at "vside")) ev_c)) (fun hb3 H3 e3a => ?_) (fun hb3 H3 e3a => ?_)
      · have e3 := Ex.trans e2 e3a
        have r3 := rx_of e3
        have h2_parts := e3a _ _ h2_parts
        refine q_asgL (xs := List.map vs (m_law_path_by_v3 p_shift)) (el_is (l_mapR (f := vs) (fun k0 : Nat => (m_law_name_by ((3 : Int) + (k0 : Int)) p_shift)) (ea_cons (e_add ev_c (e_mod (e_div (ev_var rfl) ev_c (by walk_at "vside")) ev_c (by walk_at "vside"))) ea_nil) (by walk_at "vside") (fun k0 hk => (ev_call (ea_cons (e_add ev_c (ev_var rfl)) (ea_cons (ev_var rfl) ea_nil)) (sv_of fun HC eC => ⟨_, _, rfl, rfl⟩)))) rfl) fun p4_ahead H4 n4a e4a h4_ahead => ?_
        have n4 := fresh_back e3 n4a
        have d_p2_parts_p4_ahead := ne_of_none h2_parts n4a
        have e4 := Ex.trans e3 e4a
        have r4 := rx_of e4
        have h2_parts := e4a _ _ h2_parts
        have fm_law_path_by_v3 : List.length (m_law_path_by_v3 p_shift) = List.length (((List.range ((1 : Int) + ((p_shift / (7 : Int)) % (5 : Int))).toNat).map (fun k0 : Nat => (m_law_name_by ((3 : Int) + (k0 : Int)) p_shift)))) := rfl
        have g3 := (path_v3 p_shift).1
        refine q_asgL (xs := List.map vs (m_law_path_by_v4 p_shift p_cell)) (el_is (l_catRR (g := vs) (m1 := (m_law_path_by_v3 p_shift)) (m2 := (m_law_path_by_v2 p_cell p_shift)) (ev_var rfl) h4_ahead (ev_var rfl) h2_parts (by walk_at "vside")) rfl) fun p5_parts H5 n5a e5a h5_parts => ?_
        have n5 := fresh_back e4 n5a
        have d_p4_ahead_p5_parts := ne_of_none h4_ahead n5a
        have e5 := Ex.trans e4 e5a
        have r5 := rx_of e5
        have h4_ahead := e5a _ _ h4_ahead
        have fm_law_path_by_v4 : List.length (m_law_path_by_v4 p_shift p_cell) = List.length (((m_law_path_by_v3 p_shift) ++ (m_law_path_by_v2 p_cell p_shift))) := rfl
        have g4 := (path_v4 p_shift p_cell).1
        refine q_cut (M := (fun (σ6m : L2.St) (H6m : Hp) => ∃ (p6m_arts : Addr), σ6m = [some (V.int p_cell), some (V.int p_shift), some (V.int (m_law_path_by_v1 p_cell)), some (.ref p6m_arts), some (.ref p4_ahead), none] ∧ Ex H H6m ∧ RX H H6m ∧ H6m p6m_arts = some (.lst (List.map vs (m_law_path_by_v6 p_cell p_shift))) ∧ H6m p4_ahead = some (.lst (List.map vs (m_law_path_by_v3 p_shift))) ∧ H p6m_arts = none ∧ p6m_arts ≠ p4_ahead)) ?_ ?_
        · refine s_when (b := (decide ((p_cell % (13 : Int)) = (6 : Int)))) (et_test (e_eqI (e_mod (ev_var rfl) ev_c (by walk_at "vside")) ev_c)) (fun hb6 H6 e6a => ?_) (fun hb6 H6 e6a => ?_)
          · have e6 := Ex.trans e5 e6a
            have r6 := rx_of e6
            have h4_ahead := e6a _ _ h4_ahead
            have h5_parts := e6a _ _ h5_parts
            refine s_asgL (xs := List.map vs (m_law_path_by_v5 p_shift p_cell)) (el_is (l_slR (f := vs) (l := (m_law_path_by_v4 p_shift p_cell)) (ev_var rfl) (sq_of h5_parts) eo_none (eo_some (e_add ev_c (e_mod (e_div (ev_var rfl) ev_c (by walk_at "vside")) (e_lenL (f := vs) (l := (m_law_path_by_v4 p_shift p_cell)) (ev_var rfl) (sq_of h5_parts)) (by walk_at "vside"))))) rfl) fun p7_parts H7 n7a e7a h7_parts => ?_
            have n7 := fresh_back e6 n7a
            have d_p4_ahead_p7_parts := ne_of_none h4_ahead n7a
            have e7 := Ex.trans e6 e7a
            have r7 := rx_of e7
            have h4_ahead := e7a _ _ h4_ahead
            have fm_law_path_by_v5 : List.length (m_law_path_by_v5 p_shift p_cell) = List.length ((cutG (m_law_path_by_v4 p_shift p_cell) none (some ((1 : Int) + ((p_cell / (13 : Int)) % ((m_law_path_by_v4 p_shift p_cell).length : Int)))))) := rfl
            have hV6_0 : (m_law_path_by_v6 p_cell p_shift) = (m_law_path_by_v5 p_shift p_cell) := if_pos hb6
            exact ⟨p7_parts, rfl, e7, r7, (by rw [hV6_0]; exact h7_parts), h4_ahead, n7, (by first | exact d_p7_parts_p4_ahead | exact Ne.symm d_p4_ahead_p7_parts)⟩
          · have e6 := Ex.trans e5 e6a
            have r6 := rx_of e6
            have h4_ahead := e6a _ _ h4_ahead
            have h5_parts := e6a _ _ h5_parts
            have hV6_0 : (m_law_path_by_v6 p_cell p_shift) = (m_law_path_by_v4 p_shift p_cell) := if_neg (by rw [hb6]; exact Bool.false_ne_true)
            exact ⟨p5_parts, rfl, e6, r6, (by rw [hV6_0]; exact h5_parts), h4_ahead, n5, (by first | exact d_p5_parts_p4_ahead | exact Ne.symm d_p4_ahead_p5_parts)⟩
        · intro σ6m H6m hq6m
          obtain ⟨p6m_arts, rfl, e6m, r6m, h6m_arts, h4_ahead, n6m_arts, d_p6m_arts_p4_ahead⟩ := hq6m
          have fm_law_path_by_v1 : (m_law_path_by_v1 p_cell) = ([(1 : Int), (1 : Int), (2 : Int), (2 : Int), (3 : Int)].getD (p_cell % (5 : Int)).toNat 0) := rfl
          have g1 := path_v1 p_cell
          have fm_law_path_by_v3 : List.length (m_law_path_by_v3 p_shift) = List.length (((List.range ((1 : Int) + ((p_shift / (7 : Int)) % (5 : Int))).toNat).map (fun k0 : Nat => (m_law_name_by ((3 : Int) + (k0 : Int)) p_shift)))) := rfl
          have g3 := (path_v3 p_shift).1
          have hV3_0 : (m_law_path_by_v7 p_shift p_cell) = (m_law_path_by_v6 p_cell p_shift) := if_pos hb3
          exact ⟨_, p6m_arts, rfl, e6m, r6m, (by rw [hV3_0]; exact h6m_arts), n6m_arts⟩
      · have e3 := Ex.trans e2 e3a
        have r3 := rx_of e3
        have h2_parts := e3a _ _ h2_parts
        have hV3_0 : (m_law_path_by_v7 p_shift p_cell) = (m_law_path_by_v2 p_cell p_shift) := if_neg (by rw [hb3]; exact Bool.false_ne_true)
        exact ⟨_, p2_parts, rfl, e3, r3, (by rw [hV3_0]; exact h2_parts), n2⟩
    · intro σ3m H3m hq3m
      obtain ⟨jm3_ahead, p3m_arts, rfl, e3m, r3m, h3m_arts, n3m_arts⟩ := hq3m
      have fm_law_path_by_v1 : (m_law_path_by_v1 p_cell) = ([(1 : Int), (1 : Int), (2 : Int), (2 : Int), (3 : Int)].getD (p_cell % (5 : Int)).toNat 0) := rfl
      have g1 := path_v1 p_cell
      have g7 := (path_v7 p_shift p_cell).1
      have g7s := (path_v7 p_shift p_cell).sum
      exact s_ret (e_joinR (l := (m_law_path_by_v7 p_shift p_cell)) (ev_is (w := vs lSl) e_lit rfl) (ev_var rfl) (sq_of h3m_arts) (by walk_at "vside")) fun H8 e8a => (RetV.go k0 (Ex.trans e3m e8a))
def sp_law_line_by (K : PySem.W.Frag) : Sp := spP fun ws H v => ∃ (p_k : Int) (p_shift : Int), ws = [V.int p_k, V.int p_shift] ∧ v = vs (m_law_line_by p_k p_shift)
theorem ok_law_line_by {f : Addr} {fd : FuncData} (F : Fun K "_law_line_by" "_law_line_by" s_law_line_by f fd) (z : Bt mg)  : FnOk P w K mg base CX0 1 f fd ["_law_k", "_law_shift"] (sp_law_line_by K) := by
  refine F.ok (k := 0) sc_law_line_by (fun ws H Q E h => ?_) (fun cdv A outer s H ws Q E hr h => ?_)
  · obtain ⟨_, ⟨_, _, rfl, _⟩, _⟩ := h
    rfl
  · obtain ⟨_, ⟨p_k, p_shift, rfl, rfl⟩, k0⟩ := h
    obtain ⟨tk_MOST_PARTS, z_g_MOST_PARTS⟩ := z.g_MOST_PARTS
    obtain ⟨tk_MOST_SIGNS, z_g_MOST_SIGNS⟩ := z.g_MOST_SIGNS
    obtain ⟨tk_SIGNS, z_g_SIGNS⟩ := z.g_SIGNS
    have L_lAny1 := len_lAny1
    have L_lAny2 := len_lAny2
    have L_lNil := len_lNil
    refine ⟨_, (pss_cons (ps_set (i := 2) sc_law_line_by.nd rfl (Or.inr rfl) pe_str)
      (pss_cons (ps_set (i := 2) sc_law_line_by.nd rfl (Or.inr rfl) (pe_op op_addT (pv 2) pe_str))
      (pss_cons (ps_set (i := 3) sc_law_line_by.nd rfl (Or.inl rfl) (pe_op op_add pe_int (pe_op op_mod (pv 1) pe_int)))
      (pss_cons (ps_if (pt_cmpR op_eq (pe_op op_mod (pe_op op_fdiv (pv 1) pe_int) pe_int) pe_int (nomark _)) (pss_one (ps_set (i := 3) sc_law_line_by.nd rfl (Or.inl rfl) (pe_op op_add pe_int (pe_op op_mod (pe_op op_fdiv (pv 1) pe_int) pe_int)))) pss_nil)
      (pss_one (ps_ret (pe_joinK K pe_str (pe_lc (own := [("_law_j", 4)]) (g := gName 4) (tt := tYes) rfl sc_law_line_by.nd (pi_range1 (by rfl) z.z_range (pa_cons (pe_ix (ix_listK K) (pe_lst (pa_cons pe_int (pa_cons pe_int (pa_cons pe_int (pa_cons (pv 3) pa_nil))))) (pe_op op_mod (pv 0) pe_int) (fun _ _ => rfl)) pa_nil)) (blkOk_by (own := [("_law_j", 4)]) (N := ["_law_k", "_law_shift", "_law_some", "_law_long", "_law_j"]) (sc := defScope s_law_line_by) (by decide +kernel)) (fun _ _ _ _ _ => pg_name (i := 4) sc_law_line_by.nd rfl (Or.inl rfl)) (fun _ _ _ _ _ => pts_nil) (fun _ _ _ _ _ => (pe_ix ix_str (pv 2) (pe_op op_mod (pe_op op_add (pe_op op_add (pv 1) (pe_op op_mul pe_int (pv 0))) (pv 4)) pe_int) (fun _ _ => rfl))))))))))), ?_⟩
    refine q_asg (v := vs m_law_line_by_v1) (ev_is (ev_is (w := vs lAny1) e_lit rfl) rfl) fun H1 e1a => ?_
    have e1 := Ex.trans (Ex.refl H) e1a
    have r1 := rx_of e1
    have fm_law_line_by_v1 : List.length m_law_line_by_v1 = List.length (lAny1) := rfl
    refine q_asg (v := vs m_law_line_by_v2) (ev_is (e_addT (ev_var rfl) (ev_is (w := vs lAny2) e_lit rfl) (by walk_at "vside")) rfl) fun H2 e2a => ?_
    have e2 := Ex.trans e1 e2a
    have r2 := rx_of e2
    have fm_law_line_by_v2 : List.length m_law_line_by_v2 = List.length ((m_law_line_by_v1 ++ lAny2)) := rfl
    have g2 : List.length m_law_line_by_v2 = 96 := by decide +kernel
    refine q_asg (v := V.int (m_law_line_by_v3 p_shift)) (ev_is (e_add ev_c (e_mod (ev_var rfl) ev_c (by walk_at "vside"))) rfl) fun H3 e3a => ?_
    have e3 := Ex.trans e2 e3a
    have r3 := rx_of e3
    have fm_law_line_by_v3 : (m_law_line_by_v3 p_shift) = ((3 : Int) + (p_shift % (60 : Int))) := rfl
    refine q_ifSet (f := V.int) (z := (m_law_line_by_v4 p_shift)) (et_test (e_eqI (e_mod (e_div (ev_var rfl) ev_c (by walk_at "vside")) ev_c (by walk_at "vside")) ev_c)) (fun hc => (e_add ev_c (e_mod (e_div (ev_var rfl) ev_c (by walk_at "vside")) ev_c (by walk_at "vside")))) rfl rfl fun H4 e4a => ?_
    have e4 := Ex.trans e3 e4a
    have r4 := rx_of e4
    have fm_law_line_by_v4 : (m_law_line_by_v4 p_shift) = if (decide (((p_shift / (60 : Int)) % (4 : Int)) = (3 : Int))) = true then ((3 : Int) + ((p_shift / (240 : Int)) % (600 : Int))) else (m_law_line_by_v3 p_shift) := rfl
    have g4 := line_v4 p_shift
    have g4s := line_size p_k p_shift
    have g4u := line_sum p_k p_shift
    exact s_ret (e_joinN (l := ((List.range ([(0 : Int), (1 : Int), (2 : Int), (m_law_line_by_v4 p_shift)].getD (p_k % (4 : Int)).toNat 0).toNat).map (fun k0 : Nat => [m_law_line_by_v2.getD (((p_shift + ((5 : Int) * p_k)) + (k0 : Int)) % (96 : Int)).toNat 0]))) (ev_is (w := vs lNil) e_lit rfl) (l_mapR (f := vs) (fun k0 : Nat => [m_law_line_by_v2.getD (((p_shift + ((5 : Int) * p_k)) + (k0 : Int)) % (96 : Int)).toNat 0]) (ea_cons (e_ixN (f := V.int) (l := [(0 : Int), (1 : Int), (2 : Int), (m_law_line_by_v4 p_shift)]) 0 (el_lst (ea_cons ev_c (ea_cons ev_c (ea_cons ev_c (ea_cons (ev_var rfl) ea_nil)))) (by simp)) (e_mod (ev_var rfl) ev_c (by walk_at "vside")) (by walk_at "vside")) ea_nil) (by walk_at "vside") (fun k0 hk => (e_ixS (ev_var rfl) (e_mod (e_add (e_add (ev_var rfl) (e_mul ev_c (ev_var rfl) (by first | exact Or.inl (by walk_at "vside") | exact Or.inr (by walk_at "vside")))) (ev_var rfl)) ev_c (by walk_at "vside")) (by walk_at "vside")))) (by walk_at "vside")) fun H5 e5a => (RetV.go k0 (Ex.trans e4 e5a))
def sp_law_is_free (K : PySem.W.Frag) : Sp := spP fun ws H v => ∃ (ap_tree : Addr) (p_tree : List (Tx × Tx)) (p_path : Tx), ws = [.ref ap_tree, vs p_path] ∧ Rd H ap_tree (.dK (kd vs p_tree)) ∧ (p_path.length ≤ 900 ∧ ∀ k ∈ dkeys p_tree, k.length ≤ 900) ∧ v = V.bl (m_law_is_free p_tree p_path)
theorem ok_law_is_free {f : Addr} {fd : FuncData} (F : Fun K "_law_is_free" "_law_is_free" s_law_is_free f fd) (z : Bt mg)  : FnOk P w K mg base CX0 1 f fd ["_law_tree", "_law_path"] (sp_law_is_free K) := by
  refine F.ok (k := 0) sc_law_is_free (fun ws H Q E h => ?_) (fun cdv A outer s H ws Q E hr h => ?_)
  · obtain ⟨_, ⟨_, _, _, rfl, _⟩, _⟩ := h
    rfl
  · obtain ⟨_, ⟨ap_tree, p_tree, p_path, rfl, hSp_tree, hpre, rfl⟩, k0⟩ := h
    obtain ⟨tk_MOST_PARTS, z_g_MOST_PARTS⟩ := z.g_MOST_PARTS
    obtain ⟨tk_MOST_SIGNS, z_g_MOST_SIGNS⟩ := z.g_MOST_SIGNS
    obtain ⟨tk_SIGNS, z_g_SIGNS⟩ := z.g_SIGNS
    have L_lSl := len_lSl
    refine ⟨_, (pss_cons (ps_may (ps_for PassesOwn.never rfl (pi_keys (pv 0)) (pg_name (i := 2) sc_law_is_free.nd rfl (Or.inl rfl))
      (pss_one (ps_if (PW.pt (pw_or (pt_val (pe_startsT (pv 2) (pe_op op_addT (pv 1) pe_str))) (pw_or1 (pt_val (pe_startsT (pv 1) (pe_op op_addT (pv 2) pe_str)))))) (pss_one (ps_ret pe_bl)) pss_nil))))
      (pss_one (ps_ret pe_bl))), ?_⟩
    refine q_loopK (R := (Bool)) (f := vs) (l := p_tree) (m_law_is_free_step1 p_path) () (fun U1 o1 => (fun (s1 : Unit) (σ1 : L2.St) (H1L : Hp) => ∃ (j1_0 : Option V), σ1 = [some (.ref ap_tree), some (vs p_path), j1_0] ∧ Ex H (unl [(ap_tree, U1)] H1L) ∧ RX H H1L ∧ H1L ap_tree = some (.frz o1 (.dK (kd vs p_tree))))) rfl ((RX.refl H) _ _ hSp_tree) (fun U1 o1 hU1 hUd1 => ?_) (fun U1 o1 s σ H hq => by obtain ⟨j1_0, rfl, e1L, r1L, hW1⟩ := hq; exact hW1) (fun U1 o1 Rt1 hU1 hUd1 hRt1 => ?_) (fun U1 o1 s1 σ1 H1L hU1 hUd1 hr1 hq1 => ?_)
    · exact ⟨_, rfl, unl_lock (ls := []) (Ex.refl H) hU1, rx_may (RX.refl H) hU1 hUd1, upd_same⟩
    · intro Nx1 Bk1 i1 s1 y1 σ1 H1L hy1 hrun1 hq1 hnx1 hbk1 hrt1
      obtain ⟨j1_0, rfl, e1L, r1L, hW1⟩ := hq1
      have hm1 := List.mem_of_getElem? hy1
      have hlt1 := (List.getElem?_eq_some_iff.mp hy1).1
      have gk := hpre.2 y1 hm1
      have gp := hpre.1
      have kq1_0 : (m_law_is_free_step1 p_path) s1 y1 = (if (((p_path ++ lSl).isPrefixOf y1) || ((y1 ++ lSl).isPrefixOf p_path)) = true then (Stp.ret false) else (Stp.go ())) := rfl
      refine s_when (b := (((p_path ++ lSl).isPrefixOf y1) || ((y1 ++ lSl).isPrefixOf p_path))) (et_or (et_B (e_starts (ev_var rfl) (e_addT (ev_var rfl) (ev_is (w := vs lSl) e_lit rfl) (by walk_at "vside")))) (fun hc => (et_B (e_starts (ev_var rfl) (e_addT (ev_var rfl) (ev_is (w := vs lSl) e_lit rfl) (by walk_at "vside")))))) (fun hb1 H1 e1a => ?_) (fun hb1 H1 e1a => ?_)
      · have e1 := unl_grow (ls := [(ap_tree, U1)]) e1L e1a
        have r1 := RX.trans r1L (rx_of e1a)
        have hW1 := e1a _ _ hW1
        have kq1_1 := kq_T kq1_0 hb1
        have kr1 := hrt1 _ kq1_1
        exact s_ret ev_c fun H2 e2a => (hRt1 _ _ (e2a _ _ hW1) (RetV.go (ret_run k0 kr1) (unl_grow (ls := [(ap_tree, U1)]) e1 e2a)))
      · have e1 := unl_grow (ls := [(ap_tree, U1)]) e1L e1a
        have r1 := RX.trans r1L (rx_of e1a)
        have hW1 := e1a _ _ hW1
        have kq1_2 := kq_F kq1_0 hb1
        exact hnx1 () _ _ kq1_2 ⟨_, rfl, e1, r1, hW1⟩
    · obtain ⟨j1_0, rfl, e1L, r1L, hW1⟩ := hq1
      have e1L := unl_open (ls := []) e1L
      have r1L := rx_of e1L
      have k2r := ret_go k0 hr1
      exact s_ret ev_c fun H5 e5a => (RetV.go k2r (Ex.trans e1L e5a))
def sp_law_tree_by (K : PySem.W.Frag) : Sp := spK fun ws H v => ∃ (ap_script : Addr) (p_script : List Int) (p_shift : Int), ws = [.ref ap_script, V.int p_shift] ∧ SqL K H ap_script (List.map V.int p_script) ∧ v = kd vs (m_law_tree_by p_script p_shift)
theorem ok_law_tree_by {f : Addr} {fd : FuncData} (F : Fun K "_law_tree_by" "_law_tree_by" s_law_tree_by f fd) (z : Bt mg) (C_law_cell_at : Cal P w K mg base 1 "_law_cell_at" ["_law_script", "_law_k"] (sp_law_cell_at K)) (C_law_path_by : Cal P w K mg base 3 "_law_path_by" ["_law_cell", "_law_shift"] (sp_law_path_by K)) (C_law_is_free : Cal P w K mg base 1 "_law_is_free" ["_law_tree", "_law_path"] (sp_law_is_free K)) (C_law_line_by : Cal P w K mg base 1 "_law_line_by" ["_law_k", "_law_shift"] (sp_law_line_by K)) : FnOk P w K mg base CX0 4 f fd ["_law_script", "_law_shift"] (sp_law_tree_by K) := by
  refine F.ok (k := 3) sc_law_tree_by (fun ws H Q E h => ?_) (fun cdv A outer s H ws Q E hr h => ?_)
  · obtain ⟨_, ⟨_, _, _, rfl, _⟩, _⟩ := h
    rfl
  · obtain ⟨_, ⟨ap_script, p_script, p_shift, rfl, hSp_script, rfl⟩, k0⟩ := h
    obtain ⟨tk_MOST_PARTS, z_g_MOST_PARTS⟩ := z.g_MOST_PARTS
    obtain ⟨tk_MOST_SIGNS, z_g_MOST_SIGNS⟩ := z.g_MOST_SIGNS
    obtain ⟨tk_SIGNS, z_g_SIGNS⟩ := z.g_SIGNS
    have L_lTops := len_lTops
    have L_lSlx := len_lSlx
    refine ⟨_, (pss_cons (ps_set (i := 2) sc_law_tree_by.nd rfl (Or.inl rfl) pe_dnewK)
      (pss_cons (ps_for PassesOwn.never rfl (pi_range1 (by rfl) z.z_range (pa_cons (pe_op op_mod (pe_cal C_law_cell_at (hr.mono (by decide)) (by rfl) (pa_cons (pv 0) (pa_cons pe_int pa_nil))) pe_int) pa_nil)) (pg_name (i := 3) sc_law_tree_by.nd rfl (Or.inl rfl))
      (pss_cons (ps_set (i := 7) sc_law_tree_by.nd rfl (Or.inl rfl) (pe_cal C_law_cell_at (hr.mono (by decide)) (by rfl) (pa_cons (pv 0) (pa_cons (pe_op op_add pe_int (pv 3)) pa_nil))))
      (pss_cons (ps_set (i := 8) sc_law_tree_by.nd rfl (Or.inl rfl) (pe_cal C_law_path_by (hr.mono (by decide)) (by rfl) (pa_cons (pv 7) (pa_cons (pv 1) pa_nil))))
      (pss_cut (ps_if (pt_val (pe_cal C_law_is_free (hr.mono (by decide)) (by rfl) (pa_cons (pv 2) (pa_cons (pv 8) pa_nil)))) (pss_one (ps_dput (hu_of hr) (pv 2) (pv 8) (pe_cal C_law_line_by (hr.mono (by decide)) (by rfl) (pa_cons (pe_op op_fdiv (pv 7) pe_int) (pa_cons (pv 1) pa_nil))) rfl)) pss_nil)
      pss_nil))))
      (pss_cons (ps_set (i := 4) sc_law_tree_by.nd rfl (Or.inl rfl) (pe_op op_mod (pe_op op_fdiv (pe_cal C_law_cell_at (hr.mono (by decide)) (by rfl) (pa_cons (pv 0) (pa_cons pe_int pa_nil))) pe_int) pe_int))
      (pss_cons (ps_set (i := 5) sc_law_tree_by.nd rfl (Or.inl rfl) pe_int)
      (pss_cons (ps_if (PW.pt (pw_or (pt_cmpR op_eq (pv 4) pe_int (nomark _)) (pw_or1 (pt_cmpR op_eq (pv 4) pe_int (nomark _))))) (pss_one (ps_set (i := 5) sc_law_tree_by.nd rfl (Or.inl rfl) pe_int)) pss_nil)
      (pss_cons (ps_if (pt_cmpR op_eq (pv 4) pe_int (nomark _)) (pss_one (ps_set (i := 5) sc_law_tree_by.nd rfl (Or.inl rfl) pe_int)) pss_nil)
      (pss_cons (ps_for PassesOwn.never rfl (pi_range1 (by rfl) z.z_range (pa_cons (pv 5) pa_nil)) (pg_name (i := 6) sc_law_tree_by.nd rfl (Or.inl rfl))
      (pss_cut (ps_if (pt_cmp (pc_dnotin (hu_of hr) (pe_op op_addT pe_str (pe_callTy call_str_int (by rfl) z.z_str (by decide +kernel) (pa_cons (pv 6) pa_nil))) (pv 2))) (pss_one (ps_dput (hu_of hr) (pv 2) (pe_op op_addT (pe_op op_addT pe_str (pe_callTy call_str_int (by rfl) z.z_str (by decide +kernel) (pa_cons (pv 6) pa_nil))) pe_str) (pe_cal C_law_line_by (hr.mono (by decide)) (by rfl) (pa_cons (pe_op op_mod (pv 6) pe_int) (pa_cons (pv 1) pa_nil))) rfl)) pss_nil)
      pss_nil))
      (pss_one (ps_ret (pv 2)))))))))), ?_⟩
    refine q_asgK (kvs := kd vs m_law_tree_by_v1) (ek_is k_new rfl) fun p1_tree H1 n1a e1a h1_tree => ?_
    have n1 := fresh_back (Ex.refl H) n1a
    have e1 := Ex.trans (Ex.refl H) e1a
    have r1 := rx_of e1
    refine q_loopR (R := Unit) (n := ((m_law_cell_at p_script (1 : Int)) % (8 : Int))) (m_law_tree_by_step1 p_script p_shift) m_law_tree_by_v1 (fun (s1 : List (Tx × Tx)) (σ1 : L2.St) (H1L : Hp) => ∃ (j1_0 j1_1 j1_2 : Option V), σ1 = [some (.ref ap_script), some (V.int p_shift), some (.ref p1_tree), j1_0, none, none, none, j1_1, j1_2] ∧ Ex H H1L ∧ RX H H1L ∧ H1L p1_tree = some (.dK (kd vs s1))) (ea_cons (e_mod (ev_call (ea_cons (ev_var rfl) (ea_cons ev_c ea_nil)) (sv_of fun HC eC => ⟨_, _, _, rfl, ex_l eC (rx_l r1 hSp_script), (by walk_at "vside"), rfl⟩)) ev_c (by walk_at "vside")) ea_nil) (by walk_at "vside") (fun H6 e6a => ⟨_, _, _, rfl, (Ex.trans e1 e6a), (rx_of (Ex.trans e1 e6a)), e6a _ _ h1_tree⟩) ?_ ?_
    · intro Nx1 Bk1 i1 s1 y1 σ1 H1L hy1 hrun1 hq1 hnx1 hbk1 hrt1
      obtain ⟨j1_0, j1_1, j1_2, rfl, e1L, r1L, h1_tree⟩ := hq1
      have hk1 := List.mem_range.mp (List.mem_of_getElem? hy1)
      have g1 := tree1 p_script p_shift hrun1 hy1
      have g1p := g1.2 (m_law_tree_by_v2 p_script y1)
      have kq1_0 : (m_law_tree_by_step1 p_script p_shift) s1 y1 = (Stp.go (m_law_tree_by_v5 s1 p_script y1 p_shift)) := rfl
      refine q_asg (v := V.int (m_law_tree_by_v2 p_script y1)) (ev_is (ev_call (ea_cons (ev_var rfl) (ea_cons (e_add ev_c (ev_var rfl)) ea_nil)) (sv_of fun HC eC => ⟨_, _, _, rfl, ex_l eC (rx_l r1L hSp_script), (by walk_at "vside"), rfl⟩)) rfl) fun H2 e2a => ?_
      have e2 := Ex.trans e1L e2a
      have r2 := rx_of e2
      have h1_tree := e2a _ _ h1_tree
      have fm_law_tree_by_v2 : (m_law_tree_by_v2 p_script y1) = (m_law_cell_at p_script ((4 : Int) + (y1 : Int))) := rfl
      refine q_asg (v := vs (m_law_tree_by_v3 p_script y1 p_shift)) (ev_is (ev_call (ea_cons (ev_var rfl) (ea_cons (ev_var rfl) ea_nil)) (sv_of fun HC eC => ⟨_, _, rfl, rfl⟩)) rfl) fun H3 e3a => ?_
      have e3 := Ex.trans e2 e3a
      have r3 := rx_of e3
      have h1_tree := e3a _ _ h1_tree
      have fm_law_tree_by_v3 : List.length (m_law_tree_by_v3 p_script y1 p_shift) = List.length ((m_law_path_by (m_law_tree_by_v2 p_script y1) p_shift)) := rfl
      refine q_cut (M := (fun (σ4m : L2.St) (H4m : Hp) => σ4m = [some (.ref ap_script), some (V.int p_shift), some (.ref p1_tree), some (V.int (y1 : Int)), none, none, none, some (V.int (m_law_tree_by_v2 p_script y1)), some (vs (m_law_tree_by_v3 p_script y1 p_shift))] ∧ Ex H H4m ∧ RX H H4m ∧ H4m p1_tree = some (.dK (kd vs (m_law_tree_by_v5 s1 p_script y1 p_shift))))) ?_ ?_
      · refine s_when (b := (m_law_is_free s1 (m_law_tree_by_v3 p_script y1 p_shift))) (et_B (ev_call (ea_cons (ev_var rfl) (ea_cons (ev_var rfl) ea_nil)) (sv_of fun HC eC => ⟨_, _, _, rfl, ex_rd eC (Or.inl h1_tree), (by walk_at "vside"), rfl⟩))) (fun hb4 H4 e4a => ?_) (fun hb4 H4 e4a => ?_)
        · have e4 := Ex.trans e3 e4a
          have r4 := rx_of e4
          have h1_tree := e4a _ _ h1_tree
          refine s_putD (f := vs) (l := s1) (k := (m_law_tree_by_v3 p_script y1 p_shift)) (v := (m_law_line_by ((m_law_tree_by_v2 p_script y1) / (135 : Int)) p_shift)) (ev_call (ea_cons (e_div (ev_var rfl) ev_c (by walk_at "vside")) (ea_cons (ev_var rfl) ea_nil)) (sv_of fun HC eC => ⟨_, _, rfl, rfl⟩)) (ev_var rfl) (ev_var rfl) h1_tree (by walk_at "vside") fun H5 m5 => ?_
          have e5 := Mu.ex m5 e4 n1
          have r5 := rx_of e5
          have h1_tree : H5 p1_tree = some (.dK (kd vs (m_law_tree_by_v4 s1 p_script y1 p_shift))) := Mu.at m5
          have hV4_0 : (m_law_tree_by_v5 s1 p_script y1 p_shift) = (m_law_tree_by_v4 s1 p_script y1 p_shift) := if_pos hb4
          exact ⟨rfl, e5, r5, (by rw [hV4_0]; exact h1_tree)⟩
        · have e4 := Ex.trans e3 e4a
          have r4 := rx_of e4
          have h1_tree := e4a _ _ h1_tree
          have hV4_0 : (m_law_tree_by_v5 s1 p_script y1 p_shift) = s1 := if_neg (by rw [hb4]; exact Bool.false_ne_true)
          exact ⟨rfl, e4, r4, (by rw [hV4_0]; exact h1_tree)⟩
      · intro σ4m H4m hq4m
        obtain ⟨rfl, e4m, r4m, h1_tree⟩ := hq4m
        have fm_law_tree_by_v2 : (m_law_tree_by_v2 p_script y1) = (m_law_cell_at p_script ((4 : Int) + (y1 : Int))) := rfl
        have fm_law_tree_by_v3 : List.length (m_law_tree_by_v3 p_script y1 p_shift) = List.length ((m_law_path_by (m_law_tree_by_v2 p_script y1) p_shift)) := rfl
        exact hnx1 (m_law_tree_by_v5 s1 p_script y1 p_shift) _ _ kq1_0 ⟨_, _, _, rfl, e4m, r4m, h1_tree⟩
    · intro s1 σ1 H1L hr1 hq1
      obtain ⟨j1_0, j1_1, j1_2, rfl, e1L, r1L, h1_tree⟩ := hq1
      obtain rfl : (m_law_tree_by_v6 p_script p_shift) = s1 := (outL_of hr1).symm
      have g6 := (tree_v6 p_script p_shift).1
      refine q_asg (v := V.int (m_law_tree_by_v7 p_script)) (ev_is (e_mod (e_div (ev_call (ea_cons (ev_var rfl) (ea_cons ev_c ea_nil)) (sv_of fun HC eC => ⟨_, _, _, rfl, ex_l eC (rx_l r1L hSp_script), (by walk_at "vside"), rfl⟩)) ev_c (by walk_at "vside")) ev_c (by walk_at "vside")) rfl) fun H8 e8a => ?_
      have e8 := Ex.trans e1L e8a
      have r8 := rx_of e8
      have h1_tree := e8a _ _ h1_tree
      have fm_law_tree_by_v7 : (m_law_tree_by_v7 p_script) = (((m_law_cell_at p_script (1 : Int)) / (8 : Int)) % (16 : Int)) := rfl
      refine q_asg (v := V.int m_law_tree_by_v8) (ev_is ev_c rfl) fun H9 e9a => ?_
      have e9 := Ex.trans e8 e9a
      have r9 := rx_of e9
      have h1_tree := e9a _ _ h1_tree
      have fm_law_tree_by_v8 : m_law_tree_by_v8 = (0 : Int) := rfl
      refine q_ifSet (f := V.int) (z := (m_law_tree_by_v9 p_script)) (et_or (et_test (e_eqI (ev_var rfl) ev_c)) (fun hc => (et_test (e_eqI (ev_var rfl) ev_c)))) (fun hc => ev_c) rfl rfl fun H10 e10a => ?_
      have e10 := Ex.trans e9 e10a
      have r10 := rx_of e10
      have h1_tree := e10a _ _ h1_tree
      have fm_law_tree_by_v9 : (m_law_tree_by_v9 p_script) = if ((decide ((m_law_tree_by_v7 p_script) = (1 : Int))) || (decide ((m_law_tree_by_v7 p_script) = (9 : Int)))) = true then (60 : Int) else m_law_tree_by_v8 := rfl
      refine q_ifSet (f := V.int) (z := (m_law_tree_by_v10 p_script)) (et_test (e_eqI (ev_var rfl) ev_c)) (fun hc => ev_c) rfl rfl fun H11 e11a => ?_
      have e11 := Ex.trans e10 e11a
      have r11 := rx_of e11
      have h1_tree := e11a _ _ h1_tree
      have fm_law_tree_by_v10 : (m_law_tree_by_v10 p_script) = if (decide ((m_law_tree_by_v7 p_script) = (4 : Int))) = true then (170 : Int) else (m_law_tree_by_v9 p_script) := rfl
      have g10 := tree_v10 p_script
      refine q_loopR (R := Unit) (n := (m_law_tree_by_v10 p_script)) (m_law_tree_by_step2 p_shift) (m_law_tree_by_v6 p_script p_shift) (fun (s2 : List (Tx × Tx)) (σ2 : L2.St) (H2L : Hp) => ∃ (j2_0 : Option V), σ2 = [some (.ref ap_script), some (V.int p_shift), some (.ref p1_tree), j1_0, some (V.int (m_law_tree_by_v7 p_script)), some (V.int (m_law_tree_by_v10 p_script)), j2_0, j1_1, j1_2] ∧ Ex H H2L ∧ RX H H2L ∧ H2L p1_tree = some (.dK (kd vs s2))) (ea_cons (ev_var rfl) ea_nil) (by walk_at "vside") (fun H14 e14a => ⟨_, rfl, (Ex.trans e11 e14a), (rx_of (Ex.trans e11 e14a)), e14a _ _ h1_tree⟩) ?_ ?_
      · intro Nx2 Bk2 i2 s2 y2 σ2 H2L hy2 hrun2 hq2 hnx2 hbk2 hrt2
        obtain ⟨j2_0, rfl, e2L, r2L, h1_tree⟩ := hq2
        have hk2 := List.mem_range.mp (List.mem_of_getElem? hy2)
        have g2 := tree2 p_script p_shift hrun2 hy2
        have gd2 := dec_len y2 (g2.2)
        have gl2 := small_log y2 (g2.2)
        have kq2_0 : (m_law_tree_by_step2 p_shift) s2 y2 = (Stp.go (m_law_tree_by_v12 y2 s2 p_shift)) := rfl
        refine q_cut (M := (fun (σ12m : L2.St) (H12m : Hp) => σ12m = [some (.ref ap_script), some (V.int p_shift), some (.ref p1_tree), j1_0, some (V.int (m_law_tree_by_v7 p_script)), some (V.int (m_law_tree_by_v10 p_script)), some (V.int (y2 : Int)), j1_1, j1_2] ∧ Ex H H12m ∧ RX H H12m ∧ H12m p1_tree = some (.dK (kd vs (m_law_tree_by_v12 y2 s2 p_shift))))) ?_ ?_
        · refine s_when (b := (!dhas s2 (lTops ++ (dec (y2 : Int))))) (et_B (e_niD (f := vs) (l := s2) (k := (lTops ++ (dec (y2 : Int)))) (e_addT (ev_is (w := vs lTops) e_lit rfl) (e_strI (ev_var rfl) (by walk_at "vside")) (by walk_at "vside")) (ev_var rfl) (Or.inl h1_tree))) (fun hb12 H12 e12a => ?_) (fun hb12 H12 e12a => ?_)
          · have e12 := Ex.trans e2L e12a
            have r12 := rx_of e12
            have h1_tree := e12a _ _ h1_tree
            refine s_putD (f := vs) (l := s2) (k := ((lTops ++ (dec (y2 : Int))) ++ lSlx)) (v := (m_law_line_by ((y2 : Int) % (3 : Int)) p_shift)) (ev_call (ea_cons (e_mod (ev_var rfl) ev_c (by walk_at "vside")) (ea_cons (ev_var rfl) ea_nil)) (sv_of fun HC eC => ⟨_, _, rfl, rfl⟩)) (ev_var rfl) (e_addT (e_addT (ev_is (w := vs lTops) e_lit rfl) (e_strI (ev_var rfl) (by walk_at "vside")) (by walk_at "vside")) (ev_is (w := vs lSlx) e_lit rfl) (by walk_at "vside")) h1_tree (by walk_at "vside") fun H13 m13 => ?_
            have e13 := Mu.ex m13 e12 n1
            have r13 := rx_of e13
            have h1_tree : H13 p1_tree = some (.dK (kd vs (m_law_tree_by_v11 s2 y2 p_shift))) := Mu.at m13
            have hV12_0 : (m_law_tree_by_v12 y2 s2 p_shift) = (m_law_tree_by_v11 s2 y2 p_shift) := if_pos hb12
            exact ⟨rfl, e13, r13, (by rw [hV12_0]; exact h1_tree)⟩
          · have e12 := Ex.trans e2L e12a
            have r12 := rx_of e12
            have h1_tree := e12a _ _ h1_tree
            have hV12_0 : (m_law_tree_by_v12 y2 s2 p_shift) = s2 := if_neg (by rw [hb12]; exact Bool.false_ne_true)
            exact ⟨rfl, e12, r12, (by rw [hV12_0]; exact h1_tree)⟩
        · intro σ12m H12m hq12m
          obtain ⟨rfl, e12m, r12m, h1_tree⟩ := hq12m
          have fm_law_tree_by_v7 : (m_law_tree_by_v7 p_script) = (((m_law_cell_at p_script (1 : Int)) / (8 : Int)) % (16 : Int)) := rfl
          have fm_law_tree_by_v10 : (m_law_tree_by_v10 p_script) = if (decide ((m_law_tree_by_v7 p_script) = (4 : Int))) = true then (170 : Int) else (m_law_tree_by_v9 p_script) := rfl
          have g10 := tree_v10 p_script
          exact hnx2 (m_law_tree_by_v12 y2 s2 p_shift) _ _ kq2_0 ⟨_, rfl, e12m, r12m, h1_tree⟩
      · intro s2 σ2 H2L hr2 hq2
        obtain ⟨j2_0, rfl, e2L, r2L, h1_tree⟩ := hq2
        obtain rfl : (m_law_tree_by_v13 p_shift p_script) = s2 := (outL_of hr2).symm
        exact s_ret (ev_var rfl) fun H16 e16a => k0 _ _ n1 (Ex.trans e2L e16a) (e16a _ _ h1_tree)
def row_told (k : Nat) : List (Tx × Bool) := [(word 1, decide (1 = 0 ∨ 1 = k)), (word 2, decide (2 = 0 ∨ 2 = k)), (word 3, decide (3 = 0 ∨ 3 = k)), (word 4, decide (4 = 0 ∨ 4 = k)), (word 5, decide (5 = 0 ∨ 5 = k)), (word 6, decide (6 = 0 ∨ 6 = k)), (word 7, decide (7 = 0 ∨ 7 = k))]
theorem row_fit : ∀ k < 8, 1 ≤ k → joinL [] (fit (row_told k)) = word k ∧ sumLen (fit (row_told k)) ≤ 1000 ∧ (fit (row_told k)).length ≤ 1000 := by decide +kernel
theorem len_told {ws : List V} {H : Hp} {r : Res (List (Tx × Tx))} (h : R_done K ws H r) : ∃ v0 v1, ws = [v0, v1] := by
  obtain ⟨_, _, _, _, rfl, _⟩ := h
  exact ⟨_, _, rfl⟩
theorem grow_told {ws : List V} {H H1 : Hp} {r : Res (List (Tx × Tx))} (e : Ex H H1) (h : R_done K ws H r) : R_done K ws H1 r := by
  obtain ⟨aptree, ptree, apdeed, pdeed, rfl, hSptree, hSpdeed, hpre, rfl⟩ := h
  exact ⟨_, _, _, _, rfl, ex_rd e hSptree, ex_t e hSpdeed, hpre, rfl⟩
theorem told_kinds {ws : List V} {H : Hp} {k : Nat} (h : R_done K ws H (.exc k)) : k = 1 ∨ k = 2 ∨ k = 3 := by
  obtain ⟨_, _, _, _, _, _, _, hpre, e⟩ := h
  exact kinds_done hpre.2.1 e.symm
def sp_law_told (K : PySem.W.Frag) : Sp := spTold (tx "made") word (R_done K)
theorem ok_law_told {f : Addr} {fd : FuncData} {Cs : Nat → Addr} (G : ErrG mg Cs) (F : Fun K "_law_told" "_law_told" s_law_told f fd) (z : Bt mg) (C_done : CalX P w K mg base 3 "done" ["tree", "deed"] (sp_done K Cs)) (E1 : ErrC K Cs 1) (E2 : ErrC K Cs 2) (E3 : ErrC K Cs 3) : FnOk P w K mg base CX0 4 f fd ["_law_tree", "_law_deed"] (sp_law_told K) := by
  refine F.ok (k := 3) sc_law_told (fun ws H Q E h => ?_) (fun cdv A outer s H ws Q E hr h => ?_)
  · obtain ⟨r, hR, _⟩ := h
    obtain ⟨v0, v1, rfl⟩ := len_told hR
    rfl
  · obtain ⟨r, hR, k0⟩ := h
    obtain ⟨v0, v1, rfl⟩ := len_told hR
    refine ⟨_, pss_one (L2N.ps_try_as (i := 3) rfl rfl sc_law_told.nd rfl rfl ⟨rfl, by decide, .inl G.g0⟩ takesN0 (fun W pn xe tk _ => pss_one (ps_ret (pe_tup (pa_cons pe_str (pa_cons (pe_calX C_done tk (hr.mono (by decide)) (by rfl) (pa_cons (pv 0) (pa_cons (pv 1) pa_nil))) pa_nil)))))
      (fun a oe cls d pn hz hf => (pss_cons (ps_set (i := 2) sc_law_told.nd rfl (Or.inl rfl) (pe_lst (pa_cons (pe_tup (pa_cons pe_str (pa_cons (pe_callB (call_isX K hz hf) (by rfl) z.z_isinstance (by decide +kernel) (pa_cons (pv 3) (pa_cons (pe_glob (v := .ref (Cs 1)) (by rfl) G.g1 rfl) pa_nil))) pa_nil))) (pa_cons (pe_tup (pa_cons pe_str (pa_cons (pe_callB (call_isX K hz hf) (by rfl) z.z_isinstance (by decide +kernel) (pa_cons (pv 3) (pa_cons (pe_glob (v := .ref (Cs 2)) (by rfl) G.g2 rfl) pa_nil))) pa_nil))) pa_nil))))
      (pss_cons (ps_set (i := 2) sc_law_told.nd rfl (Or.inl rfl) (pe_op op_cat (pv 2) (pe_lst (pa_cons (pe_tup (pa_cons pe_str (pa_cons (pe_callB (call_isX K hz hf) (by rfl) z.z_isinstance (by decide +kernel) (pa_cons (pv 3) (pa_cons (pe_glob (v := .ref (Cs 3)) (by rfl) G.g3 rfl) pa_nil))) pa_nil))) (pa_cons (pe_tup (pa_cons pe_str (pa_cons (pe_callB (call_isX K hz hf) (by rfl) z.z_isinstance (by decide +kernel) (pa_cons (pv 3) (pa_cons (pe_glob (v := .ref (Cs 4)) (by rfl) G.g4 rfl) pa_nil))) pa_nil))) pa_nil)))))
      (pss_cons (ps_set (i := 2) sc_law_told.nd rfl (Or.inl rfl) (pe_op op_cat (pv 2) (pe_lst (pa_cons (pe_tup (pa_cons pe_str (pa_cons (pe_callB (call_isX K hz hf) (by rfl) z.z_isinstance (by decide +kernel) (pa_cons (pv 3) (pa_cons (pe_glob (v := .ref (Cs 5)) (by rfl) G.g5 rfl) pa_nil))) pa_nil))) (pa_cons (pe_tup (pa_cons pe_str (pa_cons (pe_callB (call_isX K hz hf) (by rfl) z.z_isinstance (by decide +kernel) (pa_cons (pv 3) (pa_cons (pe_glob (v := .ref (Cs 6)) (by rfl) G.g6 rfl) pa_nil))) pa_nil))) pa_nil)))))
      (pss_cons (ps_set (i := 2) sc_law_told.nd rfl (Or.inl rfl) (pe_op op_cat (pv 2) (pe_lst (pa_cons (pe_tup (pa_cons pe_str (pa_cons (pe_callB (call_isX K hz hf) (by rfl) z.z_isinstance (by decide +kernel) (pa_cons (pv 3) (pa_cons (pe_glob (v := .ref (Cs 7)) (by rfl) G.g7 rfl) pa_nil))) pa_nil))) pa_nil))))
      (pss_one (ps_ret (pe_tup (pa_cons (pe_joinK K pe_str (pe_lcH K (p := (a, oe)) (own := [("_law_word", 5), ("_law_fits", 4)]) (g := gTup K 2 (gCons (gName 5) (gCons (gName 4) gNil))) (by exact hot_suite hz hf) (by exact List.mem_cons_self) sc_law_told.nd (pv 2) (blkOk_by (own := [("_law_word", 5), ("_law_fits", 4)]) (N := ["_law_tree", "_law_deed", "_law_some", "e", "_law_fits", "_law_word"]) (sc := defScope s_law_told) (by decide +kernel)) (fun _ _ _ _ _ => pg_tupHK K (by exact ⟨(a, oe), hot_suite hz hf, List.mem_cons_self⟩) (pgs_cons (pg_name (i := 5) sc_law_told.nd rfl (Or.inl rfl)) (pgs_cons (pg_name (i := 4) sc_law_told.nd rfl (Or.inl rfl)) pgs_nil))) (fun _ _ _ _ _ => pts_one (pt_val (pv 4))) (fun _ _ _ _ _ => pv 5))) (pa_cons (pe_callB (call_isX K hz hf) (by rfl) z.z_isinstance (by decide +kernel) (pa_cons (pv 3) (pa_cons (pe_bltn (v := .ty "ValueError") (by rfl) z.z_ValueError (by decide +kernel) rfl) pa_nil))) pa_nil))))))))))), ?_⟩
    refine x_call (r := r) (ea_cons (ev_var rfl) (ea_cons (ev_var rfl) ea_nil)) (fun H1 e1 => grow_told e1 hR) (fun kvs er H1 e1 => ?_) (fun k er H1 e1 => ?_)
    · intro p H2 np e2 hp
      refine ⟨sz_of (by simp), fun q nq => ?_⟩
      refine k0.1 kvs er q p _ (fresh_back (e1.trans e2) nq) (fresh_back e1 np) (fun z => ?_) ((e1.trans e2).trans (Ex.new nq)) upd_same (upd_keep (fun z => ?_) hp)
      · rw [z, hp] at nq
        cases nq
      · rw [← z, hp] at nq
        cases nq
    · subst er
      have hk : k = 1 ∨ k = 2 ∨ k = 3 := told_kinds hR
      have hE : ErrC K Cs k := by
        rcases hk with rfl | rfl | rfl
        · exact E1
        · exact E2
        · exact E3
      have k1 : 1 ≤ k := by omega
      have k8 : k < 8 := by omega
      refine ⟨true, hE.ex0, fun _ a na => ?_, fun z => nomatch z⟩
      have rw1 := row_fit k k8 k1
      refine q_asgU2 (K := K) (l := pb [(word 1, decide (1 = 0 ∨ 1 = k)), (word 2, decide (2 = 0 ∨ 2 = k))]) (eu2_is (u2_lst (er_cons (eu_tup (ea_cons (ev_is (w := vs (word 1)) e_lit rfl) (ea_cons (e_isX rfl rfl hE.ec (ev_var rfl) ev_c relv_ref (hE.is 1 (by decide))) ea_nil)) (by simp)) (er_cons (eu_tup (ea_cons (ev_is (w := vs (word 2)) e_lit rfl) (ea_cons (e_isX rfl rfl hE.ec (ev_var rfl) ev_c relv_ref (hE.is 2 (by decide))) ea_nil)) (by simp)) er_nil)) (by simp)) rfl) fun p2 H2 n2 e2 h2 => ?_
      refine q_asgU2 (K := K) (l := pb [(word 1, decide (1 = 0 ∨ 1 = k)), (word 2, decide (2 = 0 ∨ 2 = k)), (word 3, decide (3 = 0 ∨ 3 = k)), (word 4, decide (4 = 0 ∨ 4 = k))]) (eu2_is (u2_cat (ev_var rfl) h2 (u2_lst (er_cons (eu_tup (ea_cons (ev_is (w := vs (word 3)) e_lit rfl) (ea_cons (e_isX rfl rfl hE.ec (ev_var rfl) ev_c relv_ref (hE.is 3 (by decide))) ea_nil)) (by simp)) (er_cons (eu_tup (ea_cons (ev_is (w := vs (word 4)) e_lit rfl) (ea_cons (e_isX rfl rfl hE.ec (ev_var rfl) ev_c relv_ref (hE.is 4 (by decide))) ea_nil)) (by simp)) er_nil)) (by simp)) (by simp [pb])) rfl) fun p3 H3 n3 e3 h3 => ?_
      refine q_asgU2 (K := K) (l := pb [(word 1, decide (1 = 0 ∨ 1 = k)), (word 2, decide (2 = 0 ∨ 2 = k)), (word 3, decide (3 = 0 ∨ 3 = k)), (word 4, decide (4 = 0 ∨ 4 = k)), (word 5, decide (5 = 0 ∨ 5 = k)), (word 6, decide (6 = 0 ∨ 6 = k))]) (eu2_is (u2_cat (ev_var rfl) h3 (u2_lst (er_cons (eu_tup (ea_cons (ev_is (w := vs (word 5)) e_lit rfl) (ea_cons (e_isX rfl rfl hE.ec (ev_var rfl) ev_c relv_ref (hE.is 5 (by decide))) ea_nil)) (by simp)) (er_cons (eu_tup (ea_cons (ev_is (w := vs (word 6)) e_lit rfl) (ea_cons (e_isX rfl rfl hE.ec (ev_var rfl) ev_c relv_ref (hE.is 6 (by decide))) ea_nil)) (by simp)) er_nil)) (by simp)) (by simp [pb])) rfl) fun p4 H4 n4 e4 h4 => ?_
      refine q_asgU2 (K := K) (l := pb (row_told k)) (eu2_is (u2_cat (ev_var rfl) h4 (u2_lst (er_cons (eu_tup (ea_cons (ev_is (w := vs (word 7)) e_lit rfl) (ea_cons (e_isX rfl rfl hE.ec (ev_var rfl) ev_c relv_ref (hE.is 7 (by decide))) ea_nil)) (by simp)) er_nil) (by simp)) (by simp [pb])) rfl) fun p5 H5 n5 e5 h5 => ?_
      refine s_retU (xs := [vs (word k), .bl true]) (eu_tup (ea_cons (ev_is (e_joinN (l := fit (row_told k)) (ev_is (w := vs []) e_lit rfl) (l_fit (m := row_told k) (i := 5) (j := 4) (ev_var rfl) h5 (show 7 ≤ 40000 by decide) (fun _ _ => rfl) (fun _ _ => rfl) (fun _ _ => rfl)) ⟨by omega, rw1.2.2, by decide⟩) (by rw [rw1.1])) (ea_cons (e_isX rfl rfl hE.ec (ev_var rfl) ev_c relv_ty hE.ve) ea_nil)) (by simp)) fun p H6 np e6 hp => ?_
      exact k0.2 k rfl p H6 (fresh_back ((((e1.trans e2).trans e3).trans e4).trans e5) np) (((((e1.trans e2).trans e3).trans e4).trans e5).trans e6) hp
def sp_law_path_asked (K : PySem.W.Frag) : Sp := spP fun ws H v => ∃ (ap_script : Addr) (p_script : List Int) (p_shift : Int) (ap_tree : Addr) (p_tree : List (Tx × Tx)), ws = [.ref ap_script, V.int p_shift, .ref ap_tree] ∧ SqL K H ap_script (List.map V.int p_script) ∧ Rd H ap_tree (.dK (kd vs p_tree)) ∧ (Good p_tree ∧ p_tree.length ≤ 1000) ∧ v = vs (m_law_path_asked p_script p_shift p_tree)
theorem ok_law_path_asked {f : Addr} {fd : FuncData} (F : Fun K "_law_path_asked" "_law_path_asked" s_law_path_asked f fd) (z : Bt mg) (C_law_cell_at : Cal P w K mg base 1 "_law_cell_at" ["_law_script", "_law_k"] (sp_law_cell_at K)) (C_law_path_by : Cal P w K mg base 3 "_law_path_by" ["_law_cell", "_law_shift"] (sp_law_path_by K)) (C_law_name_by : Cal P w K mg base 2 "_law_name_by" ["_law_k", "_law_shift"] (sp_law_name_by K)) : FnOk P w K mg base CX0 4 f fd ["_law_script", "_law_shift", "_law_tree"] (sp_law_path_asked K) := by
  refine F.ok (k := 3) sc_law_path_asked (fun ws H Q E h => ?_) (fun cdv A outer s H ws Q E hr h => ?_)
  · obtain ⟨_, ⟨_, _, _, _, _, rfl, _⟩, _⟩ := h
    rfl
  · obtain ⟨_, ⟨ap_script, p_script, p_shift, ap_tree, p_tree, rfl, hSp_script, hSp_tree, hpre, rfl⟩, k0⟩ := h
    obtain ⟨tk_MOST_PARTS, z_g_MOST_PARTS⟩ := z.g_MOST_PARTS
    obtain ⟨tk_MOST_SIGNS, z_g_MOST_SIGNS⟩ := z.g_MOST_SIGNS
    obtain ⟨tk_SIGNS, z_g_SIGNS⟩ := z.g_SIGNS
    have L_lNil := len_lNil
    have L_lSl := len_lSl
    have L_l_cbc54eca := len_l_cbc54eca
    have L_l_56b05807 := len_l_56b05807
    have L_l_a979ef10 := len_l_a979ef10
    have L_l_2548023e := len_l_2548023e
    have L_l_25c8e1f6 := len_l_25c8e1f6
    have hg := hpre.1
    have hl := hpre.2
    have hdk := dkeys_len p_tree
    refine ⟨_, (pss_cons (ps_set (i := 3) sc_law_path_asked.nd rfl (Or.inl rfl) (pe_cal C_law_cell_at (hr.mono (by decide)) (by rfl) (pa_cons (pv 0) (pa_cons pe_int pa_nil))))
      (pss_cons (ps_set (i := 4) sc_law_path_asked.nd rfl (Or.inl rfl) (pe_cal C_law_path_by (hr.mono (by decide)) (by rfl) (pa_cons (pe_cal C_law_cell_at (hr.mono (by decide)) (by rfl) (pa_cons (pv 0) (pa_cons pe_int pa_nil))) (pa_cons (pv 1) pa_nil))))
      (pss_cons (ps_if (pt_cmpR op_eq (pe_op op_mod (pv 3) pe_int) pe_int (nomark _)) (pss_cons (ps_set (i := 5) sc_law_path_asked.nd rfl (Or.inl rfl) (pe_lst (pa_cons pe_str (pa_cons (pe_op op_addT pe_str (pv 4)) (pa_cons (pe_op op_addT (pv 4) pe_str) (pa_cons (pe_op op_addT (pv 4) pe_str) (pa_cons (pe_op op_addT (pv 4) pe_str) (pa_cons (pe_op op_addT (pv 4) pe_str) pa_nil))))))))
      (pss_one (ps_ret (pe_ix (ix_listK K) (pe_op op_cat (pv 5) (pe_lst (pa_cons (pe_op op_addT pe_str (pv 4)) pa_nil))) (pe_op op_mod (pe_op op_fdiv (pv 3) pe_int) pe_int) (fun _ _ => rfl))))) pss_nil)
      (pss_cut (ps_if (PW.pt (pw_and (pt_cmpR op_gt (pe_op op_mod (pv 3) pe_int) pe_int (nomark _)) (pw_and1 (pt_cmpR op_gt (pe_callB call_lenRd (by rfl) z.z_len PySem.boot_len (pa_cons (pv 2) pa_nil)) pe_int (nomark _))))) (pss_cons (ps_set (i := 4) sc_law_path_asked.nd rfl (Or.inl rfl) (pe_ix (ix_listK K) (pe_callTy (call_listDK rfl) (by rfl) z.z_list (by decide +kernel) (pa_cons (pv 2) pa_nil)) (pe_op op_mod (pe_op op_fdiv (pv 3) pe_int) (pe_callB call_lenRd (by rfl) z.z_len PySem.boot_len (pa_cons (pv 2) pa_nil))) (fun _ _ => rfl)))
      (pss_cons (ps_set (i := 6) sc_law_path_asked.nd rfl (Or.inl rfl) (pe_op op_add (pe_countT (pv 4) pe_str) pe_int))
      (pss_cons (ps_if (PW.pt (pw_and (pt_cmpR op_eq (pe_op op_mod (pv 3) pe_int) pe_int (nomark _)) (pw_and1 (pt_cmpR op_lt (pv 6) pe_int (nomark _))))) (pss_one (ps_set (i := 4) sc_law_path_asked.nd rfl (Or.inl rfl) (pe_op op_addT (pe_op op_addT (pe_op op_addT (pv 4) pe_str) (pe_cal C_law_name_by (hr.mono (by decide)) (by rfl) (pa_cons (pe_op op_fdiv (pv 3) pe_int) (pa_cons (pv 1) pa_nil)))) (pe_ix (ix_listK K) (pe_lst (pa_cons pe_str (pa_cons pe_str pa_nil))) (pe_op op_mod (pe_op op_fdiv (pv 3) pe_int) pe_int) (fun _ _ => rfl))))) pss_nil)
      (pss_one (ps_if (pt_cmpR op_eq (pe_op op_mod (pv 3) pe_int) pe_int (nomark _)) (pss_one (ps_set (i := 4) sc_law_path_asked.nd rfl (Or.inl rfl) (pe_joinK K pe_str (pe_slice (sl_listK K) (pe_splitT (pv 4) pe_str) po_none (po_some (pe_op op_add pe_int (pe_op op_mod (pe_op op_fdiv (pv 3) pe_int) (pv 6)))))))) pss_nil))))) pss_nil)
      (pss_one (ps_ret (pv 4))))))), ?_⟩
    refine q_asg (v := V.int (m_law_path_asked_v1 p_script)) (ev_is (ev_call (ea_cons (ev_var rfl) (ea_cons ev_c ea_nil)) (sv_of fun HC eC => ⟨_, _, _, rfl, ex_l eC (rx_l (RX.refl H) hSp_script), (by walk_at "vside"), rfl⟩)) rfl) fun H1 e1a => ?_
    have e1 := Ex.trans (Ex.refl H) e1a
    have r1 := rx_of e1
    have fm_law_path_asked_v1 : (m_law_path_asked_v1 p_script) = (m_law_cell_at p_script (2 : Int)) := rfl
    refine q_asg (v := vs (m_law_path_asked_v2 p_script p_shift)) (ev_is (ev_call (ea_cons (ev_call (ea_cons (ev_var rfl) (ea_cons ev_c ea_nil)) (sv_of fun HC eC => ⟨_, _, _, rfl, ex_l eC (rx_l r1 hSp_script), (by walk_at "vside"), rfl⟩)) (ea_cons (ev_var rfl) ea_nil)) (sv_of fun HC eC => ⟨_, _, rfl, rfl⟩)) rfl) fun H2 e2a => ?_
    have e2 := Ex.trans e1 e2a
    have r2 := rx_of e2
    have fm_law_path_asked_v2 : List.length (m_law_path_asked_v2 p_script p_shift) = List.length ((m_law_path_by (m_law_cell_at p_script (3 : Int)) p_shift)) := rfl
    have g2 := asked_v2 p_script p_shift
    refine q_when (b := (decide (((m_law_path_asked_v1 p_script) % (6 : Int)) = (1 : Int)))) (et_test (e_eqI (e_mod (ev_var rfl) ev_c (by walk_at "vside")) ev_c)) (fun hb3 H3 e3a => ?_) (fun hb3 H3 e3a => ?_)
    · have e3 := Ex.trans e2 e3a
      have r3 := rx_of e3
      have k1a := ret_T k0 hb3
      refine q_asgL (xs := List.map vs (m_law_path_asked_v3 p_script p_shift)) (el_is (el_lst (ea_cons (ev_is (w := vs lNil) e_lit rfl) (ea_cons (e_addT (ev_is (w := vs lSl) e_lit rfl) (ev_var rfl) (by walk_at "vside")) (ea_cons (e_addT (ev_var rfl) (ev_is (w := vs lSl) e_lit rfl) (by walk_at "vside")) (ea_cons (e_addT (ev_var rfl) (ev_is (w := vs l_cbc54eca) e_lit rfl) (by walk_at "vside")) (ea_cons (e_addT (ev_var rfl) (ev_is (w := vs l_56b05807) e_lit rfl) (by walk_at "vside")) (ea_cons (e_addT (ev_var rfl) (ev_is (w := vs l_a979ef10) e_lit rfl) (by walk_at "vside")) ea_nil)))))) (by simp)) rfl) fun p4_some H4 n4a e4a h4_some => ?_
      have n4 := fresh_back e3 n4a
      have e4 := Ex.trans e3 e4a
      have r4 := rx_of e4
      have fm_law_path_asked_v3 : List.length (m_law_path_asked_v3 p_script p_shift) = List.length ([lNil, (lSl ++ (m_law_path_asked_v2 p_script p_shift)), ((m_law_path_asked_v2 p_script p_shift) ++ lSl), ((m_law_path_asked_v2 p_script p_shift) ++ l_cbc54eca), ((m_law_path_asked_v2 p_script p_shift) ++ l_56b05807), ((m_law_path_asked_v2 p_script p_shift) ++ l_a979ef10)]) := rfl
      have g3 : List.length (m_law_path_asked_v3 p_script p_shift) = 6 := rfl
      exact s_ret (e_ixN (f := vs) (l := ((m_law_path_asked_v3 p_script p_shift) ++ [(l_2548023e ++ (m_law_path_asked_v2 p_script p_shift))])) [] (l_catRN (g := vs) (m1 := (m_law_path_asked_v3 p_script p_shift)) (m2 := [(l_2548023e ++ (m_law_path_asked_v2 p_script p_shift))]) (ev_var rfl) h4_some (el_lst (ea_cons (e_addT (ev_is (w := vs l_2548023e) e_lit rfl) (ev_var rfl) (by walk_at "vside")) ea_nil) (by simp)) (by walk_at "vside")) (e_mod (e_div (ev_var rfl) ev_c (by walk_at "vside")) ev_c (by walk_at "vside")) (by walk_at "vside")) fun H5 e5a => (RetV.go k1a (Ex.trans e4 e5a))
    · have e3 := Ex.trans e2 e3a
      have r3 := rx_of e3
      have k2b := ret_F k0 hb3
      refine q_cut (M := (fun (σ6m : L2.St) (H6m : Hp) => ∃ (jm6_many : Option V), σ6m = [some (.ref ap_script), some (V.int p_shift), some (.ref ap_tree), some (V.int (m_law_path_asked_v1 p_script)), some (vs (m_law_path_asked_v8 p_script p_tree p_shift)), none, jm6_many] ∧ Ex H H6m ∧ RX H H6m)) ?_ ?_
      · refine s_when (b := ((decide (((m_law_path_asked_v1 p_script) % (6 : Int)) > (1 : Int))) && (decide ((p_tree.length : Int) > (0 : Int))))) (et_and (et_test (e_gt (e_mod (ev_var rfl) ev_c (by walk_at "vside")) ev_c)) (fun hc => (et_test (e_gt (e_lenRd (f := vs) (l := p_tree) (ev_var rfl) (r3 _ _ hSp_tree)) ev_c)))) (fun hb6 H6 e6a => ?_) (fun hb6 H6 e6a => ?_)
        · have e6 := Ex.trans e3 e6a
          have r6 := rx_of e6
          have gpos := asked_pos hb6
          have gix := asked_ix p_script p_tree gpos
          refine q_asg (v := vs (m_law_path_asked_v4 p_tree p_script)) (ev_is (e_ixN (f := vs) (l := (dkeys p_tree)) [] (l_keysD (f := vs) (l := p_tree) (ev_var rfl) (r6 _ _ hSp_tree)) (e_mod (e_div (ev_var rfl) ev_c (by walk_at "vside")) (e_lenRd (f := vs) (l := p_tree) (ev_var rfl) (r6 _ _ hSp_tree)) (by walk_at "vside")) (by walk_at "vside")) rfl) fun H7 e7a => ?_
          have e7 := Ex.trans e6 e7a
          have r7 := rx_of e7
          have fm_law_path_asked_v4 : List.length (m_law_path_asked_v4 p_tree p_script) = List.length (((dkeys p_tree).getD (((m_law_path_asked_v1 p_script) / (6 : Int)) % (p_tree.length : Int)).toNat [])) := rfl
          have g4 := asked_v4 p_script p_tree hg gpos
          refine q_asg (v := V.int (m_law_path_asked_v5 p_tree p_script)) (ev_is (e_add (e_count (c := 47) (ev_var rfl) (ev_is (w := vs [47]) (ev_is (w := vs lSl) e_lit rfl) (by first | rfl | decide)) (by decide)) ev_c) rfl) fun H8 e8a => ?_
          have e8 := Ex.trans e7 e8a
          have r8 := rx_of e8
          have fm_law_path_asked_v5 : (m_law_path_asked_v5 p_tree p_script) = ((((cuts 47 (m_law_path_asked_v4 p_tree p_script)).length : Int) - 1) + (1 : Int)) := rfl
          have g5 := asked_v5 p_script p_tree hg gpos
          have gn5 := (name_part ((m_law_path_asked_v1 p_script) / (42 : Int)) p_shift).1
          have ge5 := asked_end ((m_law_path_asked_v1 p_script) / (84 : Int))
          refine q_ifSet (f := vs) (z := (m_law_path_asked_v6 p_script p_tree p_shift)) (et_and (et_test (e_eqI (e_mod (ev_var rfl) ev_c (by walk_at "vside")) ev_c)) (fun hc => (et_test (e_lt (ev_var rfl) ev_c)))) (fun hc => (e_addT (e_addT (e_addT (ev_var rfl) (ev_is (w := vs lSl) e_lit rfl) (by walk_at "vside")) (ev_call (ea_cons (e_div (ev_var rfl) ev_c (by walk_at "vside")) (ea_cons (ev_var rfl) ea_nil)) (sv_of fun HC eC => ⟨_, _, rfl, rfl⟩)) (by walk_at "vside")) (e_ixN (f := vs) (l := [lNil, l_25c8e1f6]) [] (el_lst (ea_cons (ev_is (w := vs lNil) e_lit rfl) (ea_cons (ev_is (w := vs l_25c8e1f6) e_lit rfl) ea_nil)) (by simp)) (e_mod (e_div (ev_var rfl) ev_c (by walk_at "vside")) ev_c (by walk_at "vside")) (by walk_at "vside")) (by walk_at "vside"))) rfl rfl fun H9 e9a => ?_
          have e9 := Ex.trans e8 e9a
          have r9 := rx_of e9
          have g6 := asked_v6 p_script p_tree p_shift hg gpos
          have g6m := asked_mod p_script p_tree hg gpos
          have g6c := cut_sum (cuts 47 (m_law_path_asked_v6 p_script p_tree p_shift)) none (some ((1 : Int) + (((m_law_path_asked_v1 p_script) / (42 : Int)) % (m_law_path_asked_v5 p_tree p_script))))
          have g6d := cut_len (cuts 47 (m_law_path_asked_v6 p_script p_tree p_shift)) none (some ((1 : Int) + (((m_law_path_asked_v1 p_script) / (42 : Int)) % (m_law_path_asked_v5 p_tree p_script))))
          have g6s := cuts_sum 47 (m_law_path_asked_v6 p_script p_tree p_shift)
          have g6l := cuts_len 47 (m_law_path_asked_v6 p_script p_tree p_shift)
          refine s_ifSet (f := vs) (z := (m_law_path_asked_v7 p_script p_tree p_shift)) (et_test (e_eqI (e_mod (ev_var rfl) ev_c (by walk_at "vside")) ev_c)) (fun hc => (e_joinN (l := (cutG (cuts 47 (m_law_path_asked_v6 p_script p_tree p_shift)) none (some ((1 : Int) + (((m_law_path_asked_v1 p_script) / (42 : Int)) % (m_law_path_asked_v5 p_tree p_script)))))) (ev_is (w := vs lSl) e_lit rfl) (l_slN (g := vs) (m := (cuts 47 (m_law_path_asked_v6 p_script p_tree p_shift))) (l_split (c := 47) (ev_var rfl) (ev_is (w := vs [47]) (ev_is (w := vs lSl) e_lit rfl) (by first | rfl | decide)) (by decide) (by walk_at "vside")) eo_none (eo_some (e_add ev_c (e_mod (e_div (ev_var rfl) ev_c (by walk_at "vside")) (ev_var rfl) (by walk_at "vside"))))) (by walk_at "vside"))) rfl rfl fun H10 e10a => ?_
          have e10 := Ex.trans e9 e10a
          have r10 := rx_of e10
          have hV6_0 : (m_law_path_asked_v8 p_script p_tree p_shift) = (m_law_path_asked_v7 p_script p_tree p_shift) := if_pos hb6
          exact ⟨_, (by rw [hV6_0]; rfl), e10, r10⟩
        · have e6 := Ex.trans e3 e6a
          have r6 := rx_of e6
          have hV6_0 : (m_law_path_asked_v8 p_script p_tree p_shift) = (m_law_path_asked_v2 p_script p_shift) := if_neg (by rw [hb6]; exact Bool.false_ne_true)
          exact ⟨_, (by rw [hV6_0]; rfl), e6, r6⟩
      · intro σ6m H6m hq6m
        obtain ⟨jm6_many, rfl, e6m, r6m⟩ := hq6m
        have fm_law_path_asked_v1 : (m_law_path_asked_v1 p_script) = (m_law_cell_at p_script (2 : Int)) := rfl
        exact s_ret (ev_var rfl) fun H11 e11a => (RetV.go k2b (Ex.trans e6m e11a))
def sp_law (K : PySem.W.Frag) : Sp := spP fun ws H v => ∃ (ap_script : Addr) (p_script : List Int), ws = [.ref ap_script] ∧ SqL K H ap_script (List.map V.int p_script) ∧ v = V.bl (m_law p_script)
theorem ok_law {f : Addr} {fd : FuncData} (F : Fun K "law" "law" s_law f fd) (z : Bt mg) (C_law_cell_at : Cal P w K mg base 1 "_law_cell_at" ["_law_script", "_law_k"] (sp_law_cell_at K)) (C_law_tree_by : Cal P w K mg base 4 "_law_tree_by" ["_law_script", "_law_shift"] (sp_law_tree_by K)) (C_law_path_asked : Cal P w K mg base 4 "_law_path_asked" ["_law_script", "_law_shift", "_law_tree"] (sp_law_path_asked K)) (C_law_line_by : Cal P w K mg base 1 "_law_line_by" ["_law_k", "_law_shift"] (sp_law_line_by K)) (C_law_is_free : Cal P w K mg base 1 "_law_is_free" ["_law_tree", "_law_path"] (sp_law_is_free K)) (C_law_told : Cal P w K mg base 4 "_law_told" ["_law_tree", "_law_deed"] (sp_law_told K)) : FnOk P w K mg base CX0 5 f fd ["_law_script"] (sp_law K) := by
  refine F.ok (k := 4) sc_law (fun ws H Q E h => ?_) (fun cdv A outer s H ws Q E hr h => ?_)
  · obtain ⟨_, ⟨_, _, rfl, _⟩, _⟩ := h
    rfl
  · obtain ⟨_, ⟨ap_script, p_script, rfl, hSp_script, rfl⟩, k0⟩ := h
    obtain ⟨tk_MOST_PARTS, z_g_MOST_PARTS⟩ := z.g_MOST_PARTS
    obtain ⟨tk_MOST_SIGNS, z_g_MOST_SIGNS⟩ := z.g_MOST_SIGNS
    obtain ⟨tk_SIGNS, z_g_SIGNS⟩ := z.g_SIGNS
    have L_lPut := len_lPut
    have L_lMade := len_lMade
    have L_lCut := len_lCut
    have L_l_a1dd7037 := len_l_a1dd7037
    have L_l_7c383fa6 := len_l_7c383fa6
    have L_l_4fe0b609 := len_l_4fe0b609
    have L_lX := len_lX
    have L_lY := len_lY
    refine ⟨_, (pss_cons (ps_set (i := 1) sc_law.nd rfl (Or.inl rfl) (pe_cal C_law_cell_at (hr.mono (by decide)) (by rfl) (pa_cons (pv 0) (pa_cons pe_int pa_nil))))
      (pss_cons (ps_set (i := 2) sc_law.nd rfl (Or.inl rfl) (pe_cal C_law_tree_by (hr.mono (by decide)) (by rfl) (pa_cons (pv 0) (pa_cons (pv 1) pa_nil))))
      (pss_cons (ps_set (i := 3) sc_law.nd rfl (Or.inl rfl) (pe_cal C_law_cell_at (hr.mono (by decide)) (by rfl) (pa_cons (pv 0) (pa_cons pe_int pa_nil))))
      (pss_cons (ps_set (i := 4) sc_law.nd rfl (Or.inl rfl) (pe_cal C_law_path_asked (hr.mono (by decide)) (by rfl) (pa_cons (pv 0) (pa_cons (pv 1) (pa_cons (pv 2) pa_nil)))))
      (pss_cons (ps_set (i := 5) sc_law.nd rfl (Or.inl rfl) (pe_cal C_law_line_by (hr.mono (by decide)) (by rfl) (pa_cons (pe_op op_fdiv (pv 3) pe_int) (pa_cons (pv 1) pa_nil))))
      (pss_cons (ps_set (i := 6) sc_law.nd rfl (Or.inl rfl) (pe_tup (pa_cons pe_str (pa_cons (pv 4) (pa_cons (pv 5) pa_nil)))))
      (pss_cons (ps_set (i := 7) sc_law.nd rfl (Or.inl rfl) pe_str)
      (pss_cons (ps_set (i := 8) sc_law.nd rfl (Or.inl rfl) (pe_callTy call_dictD (by rfl) z.z_dict (by decide +kernel) (pa_cons (pv 2) pa_nil)))
      (pss_cons (ps_dput (hu_of hr) (pv 8) (pv 4) (pv 5) rfl)
      (pss_cut (ps_if (pt_cmpR op_eq (pe_op op_mod (pe_op op_add (pv 3) (pe_op op_fdiv (pv 3) pe_int)) pe_int) pe_int (nomark _)) (pss_cons (ps_set (i := 6) sc_law.nd rfl (Or.inl rfl) (pe_tup (pa_cons pe_str (pa_cons (pv 4) pa_nil))))
      (pss_cons (ps_expr (pe_dpop1 (pv 8) (pv 4) ⟨rfl, rfl, rfl, rfl⟩))
      (pss_one (ps_if (pt_cmp (pc_dnotin (hu_of hr) (pv 4) (pv 2))) (pss_one (ps_set (i := 7) sc_law.nd rfl (Or.inl rfl) pe_str)) pss_nil)))) (pss_one (ps_if (pt_not (pt_val (pe_cal C_law_is_free (hr.mono (by decide)) (by rfl) (pa_cons (pv 2) (pa_cons (pv 4) pa_nil))))) (pss_one (ps_set (i := 7) sc_law.nd rfl (Or.inl rfl) pe_str)) pss_nil)))
      (pss_cons (ps_if (pt_cmpR op_eq (pe_op op_mod (pv 3) pe_int) pe_int (nomark _)) (pss_one (ps_set (i := 7) sc_law.nd rfl (Or.inl rfl) pe_str)) pss_nil)
      (pss_cons (ps_set (i := 9) sc_law.nd rfl (Or.inl rfl) (pe_callTy call_dictD (by rfl) z.z_dict (by decide +kernel) (pa_cons (pv 2) pa_nil)))
      (pss_cons (ps_set (i := 10) sc_law.nd rfl (Or.inl rfl) (pe_cal C_law_told (hr.mono (by decide)) (by rfl) (pa_cons (pv 2) (pa_cons (pv 6) pa_nil))))
      (pss_cons (ps_if (PW.pt (pw_or (pt_cmpR (op_ne_dictA hr.units0) (pv 2) (pv 9) (nomark _)) (pw_or1 (pt_cmpR op_ne (pe_ix (ix_tupK K) (pv 10) pe_int (fun _ _ => rfl)) (pv 7) (nomark _))))) (pss_one (ps_ret pe_bl)) pss_nil)
      (pss_cons (ps_if (pt_cmpR op_ne (pv 7) pe_str (nomark _)) (pss_one (ps_ret (pe_cmpR op_isBl (pe_ix (ix_tupK K) (pv 10) pe_int (fun _ _ => rfl)) pe_bl (nomark _)))) pss_nil)
      (pss_cons (ps_if (PW.pt (pw_or (pt_not (pt_val (pe_callB (call_isiK' K) (by rfl) z.z_isinstance (by decide +kernel) (pa_cons (pe_ix (ix_tupK K) (pv 10) pe_int (fun _ _ => rfl)) (pa_cons (pe_bltn (v := .ty "dict") (by rfl) z.z_dict (by decide +kernel) rfl) pa_nil))))) (pw_or1 (pt_cmpR (op_ne_dictA hr.units0) (pe_ix (ix_tupK K) (pv 10) pe_int (fun _ _ => rfl)) (pv 8) (nomark _))))) (pss_one (ps_ret pe_bl)) pss_nil)
      (pss_cons (ps_dput (hu_of hr) (pe_ix (ix_tupK K) (pv 10) pe_int (fun _ _ => rfl)) pe_str pe_str rfl)
      (pss_one (ps_ret (pe_cmpR (op_eq_dictA hr.units0) (pv 2) (pv 9) (nomark _))))))))))))))))))))), ?_⟩
    refine q_asg (v := V.int (m_law_v1 p_script)) (ev_is (ev_call (ea_cons (ev_var rfl) (ea_cons ev_c ea_nil)) (sv_of fun HC eC => ⟨_, _, _, rfl, ex_l eC (rx_l (RX.refl H) hSp_script), (by walk_at "vside"), rfl⟩)) rfl) fun H1 e1a => ?_
    have e1 := Ex.trans (Ex.refl H) e1a
    have r1 := rx_of e1
    have fm_law_v1 : (m_law_v1 p_script) = (m_law_cell_at p_script (0 : Int)) := rfl
    refine q_asgK (kvs := kd vs (m_law_v2 p_script)) (ek_is (ek_call (ea_cons (ev_var rfl) (ea_cons (ev_var rfl) ea_nil)) (sk_of fun HC eC => ⟨_, _, _, rfl, ex_l eC (rx_l r1 hSp_script), rfl⟩)) rfl) fun p2_tree H2 n2a e2a h2_tree => ?_
    have n2 := fresh_back e1 n2a
    have e2 := Ex.trans e1 e2a
    have r2 := rx_of e2
    have g2 := tree_pre p_script
    refine q_asg (v := V.int (m_law_v3 p_script)) (ev_is (ev_call (ea_cons (ev_var rfl) (ea_cons ev_c ea_nil)) (sv_of fun HC eC => ⟨_, _, _, rfl, ex_l eC (rx_l r2 hSp_script), (by walk_at "vside"), rfl⟩)) rfl) fun H3 e3a => ?_
    have e3 := Ex.trans e2 e3a
    have r3 := rx_of e3
    have h2_tree := e3a _ _ h2_tree
    have fm_law_v3 : (m_law_v3 p_script) = (m_law_cell_at p_script (2 : Int)) := rfl
    refine q_asg (v := vs (m_law_v4 p_script)) (ev_is (ev_call (ea_cons (ev_var rfl) (ea_cons (ev_var rfl) (ea_cons (ev_var rfl) ea_nil))) (sv_of fun HC eC => ⟨_, _, _, _, _, rfl, ex_l eC (rx_l r3 hSp_script), ex_rd eC (Or.inl h2_tree), (by walk_at "vside"), rfl⟩)) rfl) fun H4 e4a => ?_
    have e4 := Ex.trans e3 e4a
    have r4 := rx_of e4
    have h2_tree := e4a _ _ h2_tree
    have fm_law_v4 : List.length (m_law_v4 p_script) = List.length ((m_law_path_asked p_script (m_law_v1 p_script) (m_law_v2 p_script))) := rfl
    have g4 := path_pre p_script
    refine q_asg (v := vs (m_law_v5 p_script)) (ev_is (ev_call (ea_cons (e_div (ev_var rfl) ev_c (by walk_at "vside")) (ea_cons (ev_var rfl) ea_nil)) (sv_of fun HC eC => ⟨_, _, rfl, rfl⟩)) rfl) fun H5 e5a => ?_
    have e5 := Ex.trans e4 e5a
    have r5 := rx_of e5
    have h2_tree := e5a _ _ h2_tree
    have fm_law_v5 : List.length (m_law_v5 p_script) = List.length ((m_law_line_by ((m_law_v3 p_script) / (360 : Int)) (m_law_v1 p_script))) := rfl
    refine q_asgU (xs := List.map vs (m_law_v6 p_script)) (eu_is (eu_tup (ea_cons (ev_is (w := vs lPut) e_lit rfl) (ea_cons (ev_var rfl) (ea_cons (ev_var rfl) ea_nil))) (by simp)) rfl) fun p6_deed H6 n6a e6a h6_deed => ?_
    have n6 := fresh_back e5 n6a
    have d_p2_tree_p6_deed := ne_of_none h2_tree n6a
    have e6 := Ex.trans e5 e6a
    have r6 := rx_of e6
    have h2_tree := e6a _ _ h2_tree
    refine q_asg (v := vs m_law_v7) (ev_is (ev_is (w := vs lMade) e_lit rfl) rfl) fun H7 e7a => ?_
    have e7 := Ex.trans e6 e7a
    have r7 := rx_of e7
    have h2_tree := e7a _ _ h2_tree
    have h6_deed := e7a _ _ h6_deed
    have fm_law_v7 : List.length m_law_v7 = List.length (lMade) := rfl
    refine q_asgK (kvs := kd vs (m_law_v8 p_script)) (ek_is (k_copy (f := vs) (l := (m_law_v2 p_script)) (ev_var rfl) (Or.inl h2_tree)) rfl) fun p8_due H8 n8a e8a h8_due => ?_
    have n8 := fresh_back e7 n8a
    have d_p2_tree_p8_due := ne_of_none h2_tree n8a
    have d_p6_deed_p8_due := ne_of_none h6_deed n8a
    have e8 := Ex.trans e7 e8a
    have r8 := rx_of e8
    have h2_tree := e8a _ _ h2_tree
    have h6_deed := e8a _ _ h6_deed
    have g8 : (m_law_v8 p_script).length ≤ 177 := (tree_ok p_script _).1
    refine q_putD (f := vs) (l := (m_law_v8 p_script)) (k := (m_law_v4 p_script)) (v := (m_law_v5 p_script)) (ev_var rfl) (ev_var rfl) (ev_var rfl) h8_due (by walk_at "vside") fun H9 m9 => ?_
    have e9 := Mu.ex m9 e8 n8
    have r9 := rx_of e9
    have h2_tree := Mu.keep m9 (by first | exact d_p2_tree_p8_due | exact Ne.symm d_p8_due_p2_tree) h2_tree
    have h6_deed := Mu.keep m9 (by first | exact d_p6_deed_p8_due | exact Ne.symm d_p8_due_p6_deed) h6_deed
    have h8_due : H9 p8_due = some (.dK (kd vs (m_law_v9 p_script))) := Mu.at m9
    have g9 : dhas (m_law_v9 p_script) (m_law_v4 p_script) = true := (has_iff _ _).mpr (mem_keys_put.mpr (Or.inl rfl))
    refine q_cut (M := (fun (σ10m : L2.St) (H10m : Hp) => ∃ (p10m_deed : Addr), σ10m = [some (.ref ap_script), some (V.int (m_law_v1 p_script)), some (.ref p2_tree), some (V.int (m_law_v3 p_script)), some (vs (m_law_v4 p_script)), some (vs (m_law_v5 p_script)), some (.ref p10m_deed), some (vs (m_law_v15 p_script)), some (.ref p8_due), none, none] ∧ Ex H H10m ∧ RX H H10m ∧ H10m p2_tree = some (.dK (kd vs (m_law_v2 p_script))) ∧ H10m p10m_deed = some (.tup (List.map vs (m_law_v14 p_script))) ∧ H10m p8_due = some (.dK (kd vs (m_law_v16 p_script))) ∧ H p10m_deed = none ∧ p10m_deed ≠ p2_tree ∧ p10m_deed ≠ p8_due)) ?_ ?_
    · refine s_if (b := (decide ((((m_law_v3 p_script) + ((m_law_v3 p_script) / (42 : Int))) % (2 : Int)) = (0 : Int)))) (et_test (e_eqI (e_mod (e_add (ev_var rfl) (e_div (ev_var rfl) ev_c (by walk_at "vside"))) ev_c (by walk_at "vside")) ev_c)) (fun hb10 H10 e10a => ?_) (fun hb10 H10 e10a => ?_)
      · have e10 := Ex.trans e9 e10a
        have r10 := rx_of e10
        have h2_tree := e10a _ _ h2_tree
        have h6_deed := e10a _ _ h6_deed
        have h8_due := e10a _ _ h8_due
        refine q_asgU (xs := List.map vs (m_law_v10 p_script)) (eu_is (eu_tup (ea_cons (ev_is (w := vs lCut) e_lit rfl) (ea_cons (ev_var rfl) ea_nil)) (by simp)) rfl) fun p11_deed H11 n11a e11a h11_deed => ?_
        have n11 := fresh_back e10 n11a
        have d_p2_tree_p11_deed := ne_of_none h2_tree n11a
        have d_p8_due_p11_deed := ne_of_none h8_due n11a
        have e11 := Ex.trans e10 e11a
        have r11 := rx_of e11
        have h2_tree := e11a _ _ h2_tree
        have h8_due := e11a _ _ h8_due
        refine q_popD (f := vs) (l := (m_law_v9 p_script)) (k := (m_law_v4 p_script)) [] (ev_var rfl) (ev_var rfl) h8_due (by walk_at "vside") fun H12 m12 => ?_
        have e12 := Mu.ex m12 e11 n8
        have r12 := rx_of e12
        have h2_tree := Mu.keep m12 (by first | exact d_p2_tree_p8_due | exact Ne.symm d_p8_due_p2_tree) h2_tree
        have h11_deed := Mu.keep m12 (by first | exact d_p11_deed_p8_due | exact Ne.symm d_p8_due_p11_deed) h11_deed
        have h8_due : H12 p8_due = some (.dK (kd vs (m_law_v11 p_script))) := Mu.at m12
        refine s_ifSet (f := vs) (z := (m_law_v12 p_script)) (et_B (e_niD (f := vs) (l := (m_law_v2 p_script)) (k := (m_law_v4 p_script)) (ev_var rfl) (ev_var rfl) (Or.inl h2_tree))) (fun hc => (ev_is (w := vs l_a1dd7037) e_lit rfl)) rfl rfl fun H13 e13a => ?_
        have e13 := Ex.trans e12 e13a
        have r13 := rx_of e13
        have h2_tree := e13a _ _ h2_tree
        have h8_due := e13a _ _ h8_due
        have h11_deed := e13a _ _ h11_deed
        have hV10_0 : (m_law_v15 p_script) = (m_law_v12 p_script) := if_pos hb10
        have hV10_1 : (m_law_v14 p_script) = (m_law_v10 p_script) := if_pos hb10
        have hV10_2 : (m_law_v16 p_script) = (m_law_v11 p_script) := if_pos hb10
        exact ⟨p11_deed, (by rw [hV10_0]; rfl), e13, r13, h2_tree, (by rw [hV10_1]; exact h11_deed), (by rw [hV10_2]; exact h8_due), n11, (by first | exact d_p11_deed_p2_tree | exact Ne.symm d_p2_tree_p11_deed), (by first | exact d_p11_deed_p8_due | exact Ne.symm d_p8_due_p11_deed)⟩
      · have e10 := Ex.trans e9 e10a
        have r10 := rx_of e10
        have h2_tree := e10a _ _ h2_tree
        have h6_deed := e10a _ _ h6_deed
        have h8_due := e10a _ _ h8_due
        refine s_ifSet (f := vs) (z := (m_law_v13 p_script)) (et_not (et_B (ev_call (ea_cons (ev_var rfl) (ea_cons (ev_var rfl) ea_nil)) (sv_of fun HC eC => ⟨_, _, _, rfl, ex_rd eC (Or.inl h2_tree), (by walk_at "vside"), rfl⟩)))) (fun hc => (ev_is (w := vs l_7c383fa6) e_lit rfl)) rfl rfl fun H14 e14a => ?_
        have e14 := Ex.trans e10 e14a
        have r14 := rx_of e14
        have h2_tree := e14a _ _ h2_tree
        have h6_deed := e14a _ _ h6_deed
        have h8_due := e14a _ _ h8_due
        have hV10_0 : (m_law_v15 p_script) = (m_law_v13 p_script) := if_neg (by rw [hb10]; exact Bool.false_ne_true)
        have hV10_1 : (m_law_v14 p_script) = (m_law_v6 p_script) := if_neg (by rw [hb10]; exact Bool.false_ne_true)
        have hV10_2 : (m_law_v16 p_script) = (m_law_v9 p_script) := if_neg (by rw [hb10]; exact Bool.false_ne_true)
        exact ⟨p6_deed, (by rw [hV10_0]; rfl), e14, r14, h2_tree, (by rw [hV10_1]; exact h6_deed), (by rw [hV10_2]; exact h8_due), n6, (by first | exact d_p6_deed_p2_tree | exact Ne.symm d_p2_tree_p6_deed), (by first | exact d_p6_deed_p8_due | exact Ne.symm d_p8_due_p6_deed)⟩
    · intro σ10m H10m hq10m
      obtain ⟨p10m_deed, rfl, e10m, r10m, h2_tree, h10m_deed, h8_due, n10m_deed, d_p10m_deed_p2_tree, d_p10m_deed_p8_due⟩ := hq10m
      have fm_law_v1 : (m_law_v1 p_script) = (m_law_cell_at p_script (0 : Int)) := rfl
      have g2 := tree_pre p_script
      have fm_law_v3 : (m_law_v3 p_script) = (m_law_cell_at p_script (2 : Int)) := rfl
      have fm_law_v4 : List.length (m_law_v4 p_script) = List.length ((m_law_path_asked p_script (m_law_v1 p_script) (m_law_v2 p_script))) := rfl
      have g4 := path_pre p_script
      have fm_law_v5 : List.length (m_law_v5 p_script) = List.length ((m_law_line_by ((m_law_v3 p_script) / (360 : Int)) (m_law_v1 p_script))) := rfl
      have g14 := deed_pre p_script
      refine q_ifSet (f := vs) (z := (m_law_v17 p_script)) (et_test (e_eqI (e_mod (ev_var rfl) ev_c (by walk_at "vside")) ev_c)) (fun hc => (ev_is (w := vs l_4fe0b609) e_lit rfl)) rfl rfl fun H15 e15a => ?_
      have e15 := Ex.trans e10m e15a
      have r15 := rx_of e15
      have h2_tree := e15a _ _ h2_tree
      have h10m_deed := e15a _ _ h10m_deed
      have h8_due := e15a _ _ h8_due
      refine q_asgK (kvs := kd vs (m_law_v18 p_script)) (ek_is (k_copy (f := vs) (l := (m_law_v2 p_script)) (ev_var rfl) (Or.inl h2_tree)) rfl) fun p16_kept H16 n16a e16a h16_kept => ?_
      have n16 := fresh_back e15 n16a
      have d_p2_tree_p16_kept := ne_of_none h2_tree n16a
      have d_p10m_deed_p16_kept := ne_of_none h10m_deed n16a
      have d_p8_due_p16_kept := ne_of_none h8_due n16a
      have e16 := Ex.trans e15 e16a
      have r16 := rx_of e16
      have h2_tree := e16a _ _ h2_tree
      have h10m_deed := e16a _ _ h10m_deed
      have h8_due := e16a _ _ h8_due
      have g18 : dsame (m_law_v2 p_script) (m_law_v18 p_script) := dsame_refl (tree_ok p_script _).2.nd
      refine q_told (r := (m_law_told (m_law_v2 p_script) (m_law_v14 p_script))) (ea_cons (ev_var rfl) (ea_cons (ev_var rfl) ea_nil)) (fun HC eC => ⟨_, _, _, _, rfl, ex_rd eC (Or.inl h2_tree), ex_t eC (st_of h10m_deed), (by walk_at "vside"), rfl⟩) (fun lT17 hT17 p17_found p17_found1 H17 n17a n17b d17 e17a h17_found h17_found1 => ?_) (fun kT17 hT17 p17_found H17 n17a e17a h17_found => ?_)
      · have n17 := fresh_back e16 n17a
        have n171 := fresh_back e16 n17b
        have d_p17_found_p17_found1 := d17
        have d_p2_tree_p17_found := ne_of_none h2_tree n17a
        have d_p2_tree_p17_found1 := ne_of_none h2_tree n17b
        have d_p10m_deed_p17_found := ne_of_none h10m_deed n17a
        have d_p10m_deed_p17_found1 := ne_of_none h10m_deed n17b
        have d_p8_due_p17_found := ne_of_none h8_due n17a
        have d_p8_due_p17_found1 := ne_of_none h8_due n17b
        have d_p16_kept_p17_found := ne_of_none h16_kept n17a
        have d_p16_kept_p17_found1 := ne_of_none h16_kept n17b
        have e17 := Ex.trans e16 e17a
        have r17 := rx_of e17
        have h2_tree := e17a _ _ h2_tree
        have h10m_deed := e17a _ _ h10m_deed
        have h8_due := e17a _ _ h8_due
        have h16_kept := e17a _ _ h16_kept
        have k1ok := ret_ok (f := V.bl) k0 hT17
        have hw := told_made p_script hT17
        have hsm := told_same p_script hT17
        have hsl := told_len p_script hT17
        refine q_when (b := (false || (!decide (lMade = (m_law_v17 p_script))))) (et_or (et_test (e_neDD (l := (m_law_v2 p_script)) (m := (m_law_v18 p_script)) (ev_var rfl) (ev_var rfl) h2_tree h16_kept (by walk_at "vside"))) (fun hc => (et_test (e_neT (e_ixV (ev_var rfl) h17_found ev_c (by rfl)) (ev_var rfl))))) (fun hb18 H18 e18a => ?_) (fun hb18 H18 e18a => ?_)
        · have e18 := Ex.trans e17 e18a
          have r18 := rx_of e18
          have h2_tree := e18a _ _ h2_tree
          have h10m_deed := e18a _ _ h10m_deed
          have h8_due := e18a _ _ h8_due
          have h16_kept := e18a _ _ h16_kept
          have h17_found := e18a _ _ h17_found
          have h17_found1 := e18a _ _ h17_found1
          have k2a := ret_T k1ok hb18
          exact s_ret ev_c fun H19 e19a => (RetV.go k2a (Ex.trans e18 e19a))
        · have e18 := Ex.trans e17 e18a
          have r18 := rx_of e18
          have h2_tree := e18a _ _ h2_tree
          have h10m_deed := e18a _ _ h10m_deed
          have h8_due := e18a _ _ h8_due
          have h16_kept := e18a _ _ h16_kept
          have h17_found := e18a _ _ h17_found
          have h17_found1 := e18a _ _ h17_found1
          have k3b := ret_F k1ok hb18
          refine q_when (b := (!decide ((m_law_v17 p_script) = lMade))) (et_test (e_neT (ev_var rfl) (ev_is (w := vs lMade) e_lit rfl))) (fun hb20 H20 e20a => ?_) (fun hb20 H20 e20a => ?_)
          · have e20 := Ex.trans e18 e20a
            have r20 := rx_of e20
            have h2_tree := e20a _ _ h2_tree
            have h10m_deed := e20a _ _ h10m_deed
            have h8_due := e20a _ _ h8_due
            have h16_kept := e20a _ _ h16_kept
            have h17_found := e20a _ _ h17_found
            have h17_found1 := e20a _ _ h17_found1
            have k4a := ret_T k3b hb20
            exact absurd hb20 (by rw [hw]; decide)
          · have e20 := Ex.trans e18 e20a
            have r20 := rx_of e20
            have h2_tree := e20a _ _ h2_tree
            have h10m_deed := e20a _ _ h10m_deed
            have h8_due := e20a _ _ h8_due
            have h16_kept := e20a _ _ h16_kept
            have h17_found := e20a _ _ h17_found
            have h17_found1 := e20a _ _ h17_found1
            have k5b := ret_F k3b hb20
            refine q_when (b := ((!true) || false)) (et_or (et_not (et_B (e_isi (e_ixV (ev_var rfl) h17_found ev_c (by rfl)) ev_c (.ty _) (fun _ eT => tyx_dct (ex_rd eT (Or.inl h17_found1))) (kit_ty (by decide +kernel))))) (fun hc => (et_test (e_neDD (l := lT17) (m := (m_law_v16 p_script)) (e_ixV (ev_var rfl) h17_found ev_c (by rfl)) (ev_var rfl) h17_found1 h8_due (by walk_at "vside"))))) (fun hb21 H21 e21a => ?_) (fun hb21 H21 e21a => ?_)
            · have e21 := Ex.trans e20 e21a
              have r21 := rx_of e21
              have h2_tree := e21a _ _ h2_tree
              have h10m_deed := e21a _ _ h10m_deed
              have h8_due := e21a _ _ h8_due
              have h16_kept := e21a _ _ h16_kept
              have h17_found := e21a _ _ h17_found
              have h17_found1 := e21a _ _ h17_found1
              have k6a := ret_T k5b hb21
              exact s_ret ev_c fun H22 e22a => (RetV.go k6a (Ex.trans e21 e22a))
            · have e21 := Ex.trans e20 e21a
              have r21 := rx_of e21
              have h2_tree := e21a _ _ h2_tree
              have h10m_deed := e21a _ _ h10m_deed
              have h8_due := e21a _ _ h8_due
              have h16_kept := e21a _ _ h16_kept
              have h17_found := e21a _ _ h17_found
              have h17_found1 := e21a _ _ h17_found1
              have k7b := ret_F k5b hb21
              refine q_putD (f := vs) (l := lT17) (k := lX) (v := lY) (ev_is (w := vs lY) e_lit rfl) (e_ixV (ev_var rfl) h17_found ev_c (by rfl)) (ev_is (w := vs lX) e_lit rfl) h17_found1 (by walk_at "vside") fun H23 m23 => ?_
              have e23 := Mu.ex m23 e21 n171
              have r23 := rx_of e23
              have h2_tree := Mu.keep m23 (by first | exact d_p2_tree_p17_found1 | exact Ne.symm d_p17_found1_p2_tree) h2_tree
              have h10m_deed := Mu.keep m23 (by first | exact d_p10m_deed_p17_found1 | exact Ne.symm d_p17_found1_p10m_deed) h10m_deed
              have h8_due := Mu.keep m23 (by first | exact d_p8_due_p17_found1 | exact Ne.symm d_p17_found1_p8_due) h8_due
              have h16_kept := Mu.keep m23 (by first | exact d_p16_kept_p17_found1 | exact Ne.symm d_p17_found1_p16_kept) h16_kept
              have h17_found := Mu.keep m23 (by first | exact d_p17_found_p17_found1 | exact Ne.symm d_p17_found1_p17_found) h17_found
              have h17_found1 : H23 p17_found1 = some (.dK (kd vs (m_law_v19 lT17))) := Mu.at m23
              exact s_ret (e_eqDD (l := (m_law_v2 p_script)) (m := (m_law_v18 p_script)) (ev_var rfl) (ev_var rfl) h2_tree h16_kept (by walk_at "vside")) fun H24 e24a => (RetV.go k7b (Ex.trans e23 e24a))
      · have n17 := fresh_back e16 n17a
        have d_p2_tree_p17_found := ne_of_none h2_tree n17a
        have d_p10m_deed_p17_found := ne_of_none h10m_deed n17a
        have d_p8_due_p17_found := ne_of_none h8_due n17a
        have d_p16_kept_p17_found := ne_of_none h16_kept n17a
        have e17 := Ex.trans e16 e17a
        have r17 := rx_of e17
        have h2_tree := e17a _ _ h2_tree
        have h10m_deed := e17a _ _ h10m_deed
        have h8_due := e17a _ _ h8_due
        have h16_kept := e17a _ _ h16_kept
        have k8exc := ret_exc (f := V.bl) k0 hT17
        have hw := told_word p_script hT17
        have hk := kinds_done (tree_pre p_script).1 hT17
        refine q_when (b := (false || (!decide ((word kT17) = (m_law_v17 p_script))))) (et_or (et_test (e_neDD (l := (m_law_v2 p_script)) (m := (m_law_v18 p_script)) (ev_var rfl) (ev_var rfl) h2_tree h16_kept (by walk_at "vside"))) (fun hc => (et_test (e_neT (e_ixV (ev_var rfl) h17_found ev_c (by rfl)) (ev_var rfl))))) (fun hb25 H25 e25a => ?_) (fun hb25 H25 e25a => ?_)
        · have e25 := Ex.trans e17 e25a
          have r25 := rx_of e25
          have h2_tree := e25a _ _ h2_tree
          have h10m_deed := e25a _ _ h10m_deed
          have h8_due := e25a _ _ h8_due
          have h16_kept := e25a _ _ h16_kept
          have h17_found := e25a _ _ h17_found
          have k9a := ret_T k8exc hb25
          exact s_ret ev_c fun H26 e26a => (RetV.go k9a (Ex.trans e25 e26a))
        · have e25 := Ex.trans e17 e25a
          have r25 := rx_of e25
          have h2_tree := e25a _ _ h2_tree
          have h10m_deed := e25a _ _ h10m_deed
          have h8_due := e25a _ _ h8_due
          have h16_kept := e25a _ _ h16_kept
          have h17_found := e25a _ _ h17_found
          have k10b := ret_F k8exc hb25
          refine q_when (b := (!decide ((m_law_v17 p_script) = lMade))) (et_test (e_neT (ev_var rfl) (ev_is (w := vs lMade) e_lit rfl))) (fun hb27 H27 e27a => ?_) (fun hb27 H27 e27a => ?_)
          · have e27 := Ex.trans e25 e27a
            have r27 := rx_of e27
            have h2_tree := e27a _ _ h2_tree
            have h10m_deed := e27a _ _ h10m_deed
            have h8_due := e27a _ _ h8_due
            have h16_kept := e27a _ _ h16_kept
            have h17_found := e27a _ _ h17_found
            have k11a := ret_T k10b hb27
            exact s_ret (e_isB (e_ixV (ev_var rfl) h17_found ev_c (by rfl)) ev_c) fun H28 e28a => (RetV.go k11a (Ex.trans e27 e28a))
          · have e27 := Ex.trans e25 e27a
            have r27 := rx_of e27
            have h2_tree := e27a _ _ h2_tree
            have h10m_deed := e27a _ _ h10m_deed
            have h8_due := e27a _ _ h8_due
            have h16_kept := e27a _ _ h16_kept
            have h17_found := e27a _ _ h17_found
            have k12b := ret_F k10b hb27
            exact absurd hb27 (by rw [hw, word_ne hk]; decide)
end
/-! ## what the top has written -/
theorem all_mk {l : PySem.W.OpenLaw} {w : World} {K : PySem.W.Frag} {h : Heap} {mg : Str → Option Value} {fa : Addr} (X : K.In h) (G : h.Ns mainGlobals mg) (hfa : mg "law" = some (.ref fa))
    {f0 : Addr} {od0 an0 : Option Addr} {sl0 : Array (Option Value)} {oc0 kV0 dc0 pm0 cd0 ct0 : Value}
    (a0 : PySem.W.nsIn K mainGlobals "is_part" = some (some (.ref f0))) (l0 : K.lookup f0 = some ⟨oc0, od0, .func (PySem.W.fnOf "is_part" "is_part" (defArgs s_is_part) (defBody s_is_part) (defScope s_is_part) .none kV0 dc0 pm0 an0 cd0 ct0), sl0⟩) (c0 : PySem.W.codeIn K cd0 "is_part" = true) (k0 : PySem.W.keepIn K (.ref f0) = true)
    {f1 : Addr} {od1 an1 : Option Addr} {sl1 : Array (Option Value)} {oc1 kV1 dc1 pm1 cd1 ct1 : Value}
    (a1 : PySem.W.nsIn K mainGlobals "is_path" = some (some (.ref f1))) (l1 : K.lookup f1 = some ⟨oc1, od1, .func (PySem.W.fnOf "is_path" "is_path" (defArgs s_is_path) (defBody s_is_path) (defScope s_is_path) .none kV1 dc1 pm1 an1 cd1 ct1), sl1⟩) (c1 : PySem.W.codeIn K cd1 "is_path" = true) (k1 : PySem.W.keepIn K (.ref f1) = true)
    {f2 : Addr} {od2 an2 : Option Addr} {sl2 : Array (Option Value)} {oc2 kV2 dc2 pm2 cd2 ct2 : Value}
    (a2 : PySem.W.nsIn K mainGlobals "above" = some (some (.ref f2))) (l2 : K.lookup f2 = some ⟨oc2, od2, .func (PySem.W.fnOf "above" "above" (defArgs s_above) (defBody s_above) (defScope s_above) .none kV2 dc2 pm2 an2 cd2 ct2), sl2⟩) (c2 : PySem.W.codeIn K cd2 "above" = true) (k2 : PySem.W.keepIn K (.ref f2) = true)
    {f3 : Addr} {od3 an3 : Option Addr} {sl3 : Array (Option Value)} {oc3 kV3 dc3 pm3 cd3 ct3 : Value}
    (a3 : PySem.W.nsIn K mainGlobals "is_beneath" = some (some (.ref f3))) (l3 : K.lookup f3 = some ⟨oc3, od3, .func (PySem.W.fnOf "is_beneath" "is_beneath" (defArgs s_is_beneath) (defBody s_is_beneath) (defScope s_is_beneath) .none kV3 dc3 pm3 an3 cd3 ct3), sl3⟩) (c3 : PySem.W.codeIn K cd3 "is_beneath" = true) (k3 : PySem.W.keepIn K (.ref f3) = true)
    {f4 : Addr} {od4 an4 : Option Addr} {sl4 : Array (Option Value)} {oc4 kV4 dc4 pm4 cd4 ct4 : Value}
    (a4 : PySem.W.nsIn K mainGlobals "is_blocked" = some (some (.ref f4))) (l4 : K.lookup f4 = some ⟨oc4, od4, .func (PySem.W.fnOf "is_blocked" "is_blocked" (defArgs s_is_blocked) (defBody s_is_blocked) (defScope s_is_blocked) .none kV4 dc4 pm4 an4 cd4 ct4), sl4⟩) (c4 : PySem.W.codeIn K cd4 "is_blocked" = true) (k4 : PySem.W.keepIn K (.ref f4) = true)
    {f5 : Addr} {od5 an5 : Option Addr} {sl5 : Array (Option Value)} {oc5 kV5 dc5 pm5 cd5 ct5 : Value}
    (a5 : PySem.W.nsIn K mainGlobals "done" = some (some (.ref f5))) (l5 : K.lookup f5 = some ⟨oc5, od5, .func (PySem.W.fnOf "done" "done" (defArgs s_done) (defBody s_done) (defScope s_done) .none kV5 dc5 pm5 an5 cd5 ct5), sl5⟩) (c5 : PySem.W.codeIn K cd5 "done" = true) (k5 : PySem.W.keepIn K (.ref f5) = true)
    {f6 : Addr} {od6 an6 : Option Addr} {sl6 : Array (Option Value)} {oc6 kV6 dc6 pm6 cd6 ct6 : Value}
    (a6 : PySem.W.nsIn K mainGlobals "_law_cell_at" = some (some (.ref f6))) (l6 : K.lookup f6 = some ⟨oc6, od6, .func (PySem.W.fnOf "_law_cell_at" "_law_cell_at" (defArgs s_law_cell_at) (defBody s_law_cell_at) (defScope s_law_cell_at) .none kV6 dc6 pm6 an6 cd6 ct6), sl6⟩) (c6 : PySem.W.codeIn K cd6 "_law_cell_at" = true) (k6 : PySem.W.keepIn K (.ref f6) = true)
    {f7 : Addr} {od7 an7 : Option Addr} {sl7 : Array (Option Value)} {oc7 kV7 dc7 pm7 cd7 ct7 : Value}
    (a7 : PySem.W.nsIn K mainGlobals "_law_sign_by" = some (some (.ref f7))) (l7 : K.lookup f7 = some ⟨oc7, od7, .func (PySem.W.fnOf "_law_sign_by" "_law_sign_by" (defArgs s_law_sign_by) (defBody s_law_sign_by) (defScope s_law_sign_by) .none kV7 dc7 pm7 an7 cd7 ct7), sl7⟩) (c7 : PySem.W.codeIn K cd7 "_law_sign_by" = true) (k7 : PySem.W.keepIn K (.ref f7) = true)
    {f8 : Addr} {od8 an8 : Option Addr} {sl8 : Array (Option Value)} {oc8 kV8 dc8 pm8 cd8 ct8 : Value}
    (a8 : PySem.W.nsIn K mainGlobals "_law_name_by" = some (some (.ref f8))) (l8 : K.lookup f8 = some ⟨oc8, od8, .func (PySem.W.fnOf "_law_name_by" "_law_name_by" (defArgs s_law_name_by) (defBody s_law_name_by) (defScope s_law_name_by) .none kV8 dc8 pm8 an8 cd8 ct8), sl8⟩) (c8 : PySem.W.codeIn K cd8 "_law_name_by" = true) (k8 : PySem.W.keepIn K (.ref f8) = true)
    {f9 : Addr} {od9 an9 : Option Addr} {sl9 : Array (Option Value)} {oc9 kV9 dc9 pm9 cd9 ct9 : Value}
    (a9 : PySem.W.nsIn K mainGlobals "_law_path_by" = some (some (.ref f9))) (l9 : K.lookup f9 = some ⟨oc9, od9, .func (PySem.W.fnOf "_law_path_by" "_law_path_by" (defArgs s_law_path_by) (defBody s_law_path_by) (defScope s_law_path_by) .none kV9 dc9 pm9 an9 cd9 ct9), sl9⟩) (c9 : PySem.W.codeIn K cd9 "_law_path_by" = true) (k9 : PySem.W.keepIn K (.ref f9) = true)
    {f10 : Addr} {od10 an10 : Option Addr} {sl10 : Array (Option Value)} {oc10 kV10 dc10 pm10 cd10 ct10 : Value}
    (a10 : PySem.W.nsIn K mainGlobals "_law_line_by" = some (some (.ref f10))) (l10 : K.lookup f10 = some ⟨oc10, od10, .func (PySem.W.fnOf "_law_line_by" "_law_line_by" (defArgs s_law_line_by) (defBody s_law_line_by) (defScope s_law_line_by) .none kV10 dc10 pm10 an10 cd10 ct10), sl10⟩) (c10 : PySem.W.codeIn K cd10 "_law_line_by" = true) (k10 : PySem.W.keepIn K (.ref f10) = true)
    {f11 : Addr} {od11 an11 : Option Addr} {sl11 : Array (Option Value)} {oc11 kV11 dc11 pm11 cd11 ct11 : Value}
    (a11 : PySem.W.nsIn K mainGlobals "_law_is_free" = some (some (.ref f11))) (l11 : K.lookup f11 = some ⟨oc11, od11, .func (PySem.W.fnOf "_law_is_free" "_law_is_free" (defArgs s_law_is_free) (defBody s_law_is_free) (defScope s_law_is_free) .none kV11 dc11 pm11 an11 cd11 ct11), sl11⟩) (c11 : PySem.W.codeIn K cd11 "_law_is_free" = true) (k11 : PySem.W.keepIn K (.ref f11) = true)
    {f12 : Addr} {od12 an12 : Option Addr} {sl12 : Array (Option Value)} {oc12 kV12 dc12 pm12 cd12 ct12 : Value}
    (a12 : PySem.W.nsIn K mainGlobals "_law_tree_by" = some (some (.ref f12))) (l12 : K.lookup f12 = some ⟨oc12, od12, .func (PySem.W.fnOf "_law_tree_by" "_law_tree_by" (defArgs s_law_tree_by) (defBody s_law_tree_by) (defScope s_law_tree_by) .none kV12 dc12 pm12 an12 cd12 ct12), sl12⟩) (c12 : PySem.W.codeIn K cd12 "_law_tree_by" = true) (k12 : PySem.W.keepIn K (.ref f12) = true)
    {f13 : Addr} {od13 an13 : Option Addr} {sl13 : Array (Option Value)} {oc13 kV13 dc13 pm13 cd13 ct13 : Value}
    (a13 : PySem.W.nsIn K mainGlobals "_law_told" = some (some (.ref f13))) (l13 : K.lookup f13 = some ⟨oc13, od13, .func (PySem.W.fnOf "_law_told" "_law_told" (defArgs s_law_told) (defBody s_law_told) (defScope s_law_told) .none kV13 dc13 pm13 an13 cd13 ct13), sl13⟩) (c13 : PySem.W.codeIn K cd13 "_law_told" = true) (k13 : PySem.W.keepIn K (.ref f13) = true)
    {f14 : Addr} {od14 an14 : Option Addr} {sl14 : Array (Option Value)} {oc14 kV14 dc14 pm14 cd14 ct14 : Value}
    (a14 : PySem.W.nsIn K mainGlobals "_law_path_asked" = some (some (.ref f14))) (l14 : K.lookup f14 = some ⟨oc14, od14, .func (PySem.W.fnOf "_law_path_asked" "_law_path_asked" (defArgs s_law_path_asked) (defBody s_law_path_asked) (defScope s_law_path_asked) .none kV14 dc14 pm14 an14 cd14 ct14), sl14⟩) (c14 : PySem.W.codeIn K cd14 "_law_path_asked" = true) (k14 : PySem.W.keepIn K (.ref f14) = true)
    {f15 : Addr} {od15 an15 : Option Addr} {sl15 : Array (Option Value)} {oc15 kV15 dc15 pm15 cd15 ct15 : Value}
    (a15 : PySem.W.nsIn K mainGlobals "law" = some (some (.ref f15))) (l15 : K.lookup f15 = some ⟨oc15, od15, .func (PySem.W.fnOf "law" "law" (defArgs s_law) (defBody s_law) (defScope s_law) .none kV15 dc15 pm15 an15 cd15 ct15), sl15⟩) (c15 : PySem.W.codeIn K cd15 "law" = true) (k15 : PySem.W.keepIn K (.ref f15) = true)
    (z_ValueError : PySem.W.nsIn K mainGlobals "ValueError" = some none)
    (z_all : PySem.W.nsIn K mainGlobals "all" = some none)
    (z_any : PySem.W.nsIn K mainGlobals "any" = some none)
    (z_dict : PySem.W.nsIn K mainGlobals "dict" = some none)
    (z_int : PySem.W.nsIn K mainGlobals "int" = some none)
    (z_isinstance : PySem.W.nsIn K mainGlobals "isinstance" = some none)
    (z_len : PySem.W.nsIn K mainGlobals "len" = some none)
    (z_list : PySem.W.nsIn K mainGlobals "list" = some none)
    (z_range : PySem.W.nsIn K mainGlobals "range" = some none)
    (z_str : PySem.W.nsIn K mainGlobals "str" = some none)
    {t_MOST_PARTS : Tok} (z_MOST_PARTS : PySem.W.nsIn K mainGlobals "MOST_PARTS" = some (some (.int 8 t_MOST_PARTS)))
    {t_MOST_SIGNS : Tok} (z_MOST_SIGNS : PySem.W.nsIn K mainGlobals "MOST_SIGNS" = some (some (.int 12 t_MOST_SIGNS)))
    {t_SIGNS : Tok} (z_SIGNS : PySem.W.nsIn K mainGlobals "SIGNS" = some (some (.str (Str.ofString "abcdefghijklmnopqrstuvwxyzABCDEFGHIJKLMNOPQRSTUVWXYZ0123456789.-_") t_SIGNS)))
    {C0 C1 C2 C3 C4 C5 C6 C7 : Addr} (eg0 : PySem.W.nsIn K mainGlobals "RoadError" = some (some (.ref C0))) (eg1 : PySem.W.nsIn K mainGlobals "NoPath" = some (some (.ref C1))) (eg2 : PySem.W.nsIn K mainGlobals "NoFile" = some (some (.ref C2))) (eg3 : PySem.W.nsIn K mainGlobals "InTheWay" = some (some (.ref C3))) (eg4 : PySem.W.nsIn K mainGlobals "NoClash" = some (some (.ref C4))) (eg5 : PySem.W.nsIn K mainGlobals "Clashed" = some (some (.ref C5))) (eg6 : PySem.W.nsIn K mainGlobals "NoVersion" = some (some (.ref C6))) (eg7 : PySem.W.nsIn K mainGlobals "SameVersion" = some (some (.ref C7)))
    (rx1 : PySem.W.excIn K C1 [.type "ValueError", .type "Exception", .type "BaseException", .type "object"] "ValueError.__new__" = true) (rk1 : PySem.W.keepIn K (.ref C1) = true) (rb1 : PySem.W.subIn K (.ref C1) (.type "BaseException") = some true) (rt1 : PySem.W.typeIn K (.ref C1) = some (.type "type"))
    (rx2 : PySem.W.excIn K C2 [.type "ValueError", .type "Exception", .type "BaseException", .type "object"] "ValueError.__new__" = true) (rk2 : PySem.W.keepIn K (.ref C2) = true) (rb2 : PySem.W.subIn K (.ref C2) (.type "BaseException") = some true) (rt2 : PySem.W.typeIn K (.ref C2) = some (.type "type"))
    (rx3 : PySem.W.excIn K C3 [.type "ValueError", .type "Exception", .type "BaseException", .type "object"] "ValueError.__new__" = true) (rk3 : PySem.W.keepIn K (.ref C3) = true) (rb3 : PySem.W.subIn K (.ref C3) (.type "BaseException") = some true) (rt3 : PySem.W.typeIn K (.ref C3) = some (.type "type"))
    (qcb : PySem.W.subIn K (.ref C0) (.type "BaseException") = some true) (qci0 : PySem.W.isClsIn K C0 = true) (qci1 : PySem.W.isClsIn K C1 = true) (qci2 : PySem.W.isClsIn K C2 = true) (qci3 : PySem.W.isClsIn K C3 = true) (qci4 : PySem.W.isClsIn K C4 = true) (qci5 : PySem.W.isClsIn K C5 = true) (qci6 : PySem.W.isClsIn K C6 = true) (qci7 : PySem.W.isClsIn K C7 = true) (qct0 : PySem.W.typeIn K (.ref C0) = some (.type "type")) (qct1 : PySem.W.typeIn K (.ref C1) = some (.type "type")) (qct2 : PySem.W.typeIn K (.ref C2) = some (.type "type")) (qct3 : PySem.W.typeIn K (.ref C3) = some (.type "type")) (qct4 : PySem.W.typeIn K (.ref C4) = some (.type "type")) (qct5 : PySem.W.typeIn K (.ref C5) = some (.type "type")) (qct6 : PySem.W.typeIn K (.ref C6) = some (.type "type")) (qct7 : PySem.W.typeIn K (.ref C7) = some (.type "type"))
    (t1hg : PySem.W.findIn K (.ref C1) "__getattribute__" = some (some (.builtin "BaseException.__getattribute__"))) (t1hk : PySem.W.findIn K (.ref C1) "__getattr__" = some none) (t1hs : PySem.W.subIn K (.ref C1) (.type "BaseException") = some true) (t1hd : PySem.W.hasDictIn K C1 = true) (t1ha : PySem.W.findIn K (.ref C1) "__class__" = some (some (.builtin "object.__class__"))) (t1hn : PySem.W.specialIn K (.builtin "object.__class__") "__get__" = some (some (.builtin "getset_descriptor.__get__"))) (t1ht : PySem.W.takesIn K (.builtin "object.__class__") = some true) (t1hm : PySem.W.mroIn K C1 (.type "object") = some true) (t1v : PySem.W.subIn K (.ref C1) (.type "ValueError") = some true) (t1i0 : PySem.W.subIn K (.ref C1) (.ref C0) = some true) (t1i1 : PySem.W.subIn K (.ref C1) (.ref C1) = some true) (t1i2 : PySem.W.subIn K (.ref C1) (.ref C2) = some false) (t1i3 : PySem.W.subIn K (.ref C1) (.ref C3) = some false) (t1i4 : PySem.W.subIn K (.ref C1) (.ref C4) = some false) (t1i5 : PySem.W.subIn K (.ref C1) (.ref C5) = some false) (t1i6 : PySem.W.subIn K (.ref C1) (.ref C6) = some false) (t1i7 : PySem.W.subIn K (.ref C1) (.ref C7) = some false)
    (t2hg : PySem.W.findIn K (.ref C2) "__getattribute__" = some (some (.builtin "BaseException.__getattribute__"))) (t2hk : PySem.W.findIn K (.ref C2) "__getattr__" = some none) (t2hs : PySem.W.subIn K (.ref C2) (.type "BaseException") = some true) (t2hd : PySem.W.hasDictIn K C2 = true) (t2ha : PySem.W.findIn K (.ref C2) "__class__" = some (some (.builtin "object.__class__"))) (t2hn : PySem.W.specialIn K (.builtin "object.__class__") "__get__" = some (some (.builtin "getset_descriptor.__get__"))) (t2ht : PySem.W.takesIn K (.builtin "object.__class__") = some true) (t2hm : PySem.W.mroIn K C2 (.type "object") = some true) (t2v : PySem.W.subIn K (.ref C2) (.type "ValueError") = some true) (t2i0 : PySem.W.subIn K (.ref C2) (.ref C0) = some true) (t2i1 : PySem.W.subIn K (.ref C2) (.ref C1) = some false) (t2i2 : PySem.W.subIn K (.ref C2) (.ref C2) = some true) (t2i3 : PySem.W.subIn K (.ref C2) (.ref C3) = some false) (t2i4 : PySem.W.subIn K (.ref C2) (.ref C4) = some false) (t2i5 : PySem.W.subIn K (.ref C2) (.ref C5) = some false) (t2i6 : PySem.W.subIn K (.ref C2) (.ref C6) = some false) (t2i7 : PySem.W.subIn K (.ref C2) (.ref C7) = some false)
    (t3hg : PySem.W.findIn K (.ref C3) "__getattribute__" = some (some (.builtin "BaseException.__getattribute__"))) (t3hk : PySem.W.findIn K (.ref C3) "__getattr__" = some none) (t3hs : PySem.W.subIn K (.ref C3) (.type "BaseException") = some true) (t3hd : PySem.W.hasDictIn K C3 = true) (t3ha : PySem.W.findIn K (.ref C3) "__class__" = some (some (.builtin "object.__class__"))) (t3hn : PySem.W.specialIn K (.builtin "object.__class__") "__get__" = some (some (.builtin "getset_descriptor.__get__"))) (t3ht : PySem.W.takesIn K (.builtin "object.__class__") = some true) (t3hm : PySem.W.mroIn K C3 (.type "object") = some true) (t3v : PySem.W.subIn K (.ref C3) (.type "ValueError") = some true) (t3i0 : PySem.W.subIn K (.ref C3) (.ref C0) = some true) (t3i1 : PySem.W.subIn K (.ref C3) (.ref C1) = some false) (t3i2 : PySem.W.subIn K (.ref C3) (.ref C2) = some false) (t3i3 : PySem.W.subIn K (.ref C3) (.ref C3) = some true) (t3i4 : PySem.W.subIn K (.ref C3) (.ref C4) = some false) (t3i5 : PySem.W.subIn K (.ref C3) (.ref C5) = some false) (t3i6 : PySem.W.subIn K (.ref C3) (.ref C6) = some false) (t3i7 : PySem.W.subIn K (.ref C3) (.ref C7) = some false)
    : ∃ fd : FuncData, (∀ (s : Shared) (v : Value), BindsTo s fd ⟨[v], []⟩ [("_law_script", v)]) ∧ ∀ base : Heap, K.In base → base.Ns mainGlobals mg → FnOk l.prog w K mg base CX0 5 fa fd ["_law_script"] (sp_law K) := by
  have z : Bt mg := ⟨PySem.W.mg_none_of X G z_ValueError, PySem.W.mg_none_of X G z_all, PySem.W.mg_none_of X G z_any, PySem.W.mg_none_of X G z_dict, PySem.W.mg_none_of X G z_int, PySem.W.mg_none_of X G z_isinstance, PySem.W.mg_none_of X G z_len, PySem.W.mg_none_of X G z_list, PySem.W.mg_none_of X G z_range, PySem.W.mg_none_of X G z_str, ⟨_, PySem.W.mg_of X G z_MOST_PARTS⟩, ⟨_, PySem.W.mg_of X G z_MOST_SIGNS⟩, ⟨_, PySem.W.mg_of X G z_SIGNS⟩⟩
  have EG : ErrG mg (cs8 C0 C1 C2 C3 C4 C5 C6 C7) := ⟨PySem.W.mg_of X G eg0, PySem.W.mg_of X G eg1, PySem.W.mg_of X G eg2, PySem.W.mg_of X G eg3, PySem.W.mg_of X G eg4, PySem.W.mg_of X G eg5, PySem.W.mg_of X G eg6, PySem.W.mg_of X G eg7⟩
  have R1 : ErrR K (cs8 C0 C1 C2 C3 C4 C5 C6 C7) 1 := ⟨rx1, rk1, rb1, rt1⟩
  have R2 : ErrR K (cs8 C0 C1 C2 C3 C4 C5 C6 C7) 2 := ⟨rx2, rk2, rb2, rt2⟩
  have R3 : ErrR K (cs8 C0 C1 C2 C3 C4 C5 C6 C7) 3 := ⟨rx3, rk3, rb3, rt3⟩
  have E1 : ErrC K (cs8 C0 C1 C2 C3 C4 C5 C6 C7) 1 := ⟨⟨t1hg, t1hk, t1hs, t1hd, t1ha, t1hn, t1ht, t1hm⟩, exm_t qcb qci0 qct0 t1i0, fun j hj => match j, hj with | 0, _ => kit_t qci0 qct0 t1i0 | 1, _ => kit_t qci1 qct1 t1i1 | 2, _ => kit_f qci2 qct2 t1i2 t1i1 | 3, _ => kit_f qci3 qct3 t1i3 t1i1 | 4, _ => kit_f qci4 qct4 t1i4 t1i1 | 5, _ => kit_f qci5 qct5 t1i5 t1i1 | 6, _ => kit_f qci6 qct6 t1i6 t1i1 | 7, _ => kit_f qci7 qct7 t1i7 t1i1, kit_ve t1v⟩
  have E2 : ErrC K (cs8 C0 C1 C2 C3 C4 C5 C6 C7) 2 := ⟨⟨t2hg, t2hk, t2hs, t2hd, t2ha, t2hn, t2ht, t2hm⟩, exm_t qcb qci0 qct0 t2i0, fun j hj => match j, hj with | 0, _ => kit_t qci0 qct0 t2i0 | 1, _ => kit_f qci1 qct1 t2i1 t2i2 | 2, _ => kit_t qci2 qct2 t2i2 | 3, _ => kit_f qci3 qct3 t2i3 t2i2 | 4, _ => kit_f qci4 qct4 t2i4 t2i2 | 5, _ => kit_f qci5 qct5 t2i5 t2i2 | 6, _ => kit_f qci6 qct6 t2i6 t2i2 | 7, _ => kit_f qci7 qct7 t2i7 t2i2, kit_ve t2v⟩
  have E3 : ErrC K (cs8 C0 C1 C2 C3 C4 C5 C6 C7) 3 := ⟨⟨t3hg, t3hk, t3hs, t3hd, t3ha, t3hn, t3ht, t3hm⟩, exm_t qcb qci0 qct0 t3i0, fun j hj => match j, hj with | 0, _ => kit_t qci0 qct0 t3i0 | 1, _ => kit_f qci1 qct1 t3i1 t3i3 | 2, _ => kit_f qci2 qct2 t3i2 t3i3 | 3, _ => kit_t qci3 qct3 t3i3 | 4, _ => kit_f qci4 qct4 t3i4 t3i3 | 5, _ => kit_f qci5 qct5 t3i5 t3i3 | 6, _ => kit_f qci6 qct6 t3i6 t3i3 | 7, _ => kit_f qci7 qct7 t3i7 t3i3, kit_ve t3v⟩
  have F0 := fun_mk (st := s_is_part) l0 c0 k0
  have b0 := F0.binds (ps := ["text"]) fun _ _ _ _ _ _ us hl => match us, hl with | [_], _ => rfl
  have F1 := fun_mk (st := s_is_path) l1 c1 k1
  have b1 := F1.binds (ps := ["text"]) fun _ _ _ _ _ _ us hl => match us, hl with | [_], _ => rfl
  have F2 := fun_mk (st := s_above) l2 c2 k2
  have b2 := F2.binds (ps := ["path"]) fun _ _ _ _ _ _ us hl => match us, hl with | [_], _ => rfl
  have F3 := fun_mk (st := s_is_beneath) l3 c3 k3
  have b3 := F3.binds (ps := ["path", "upper"]) fun _ _ _ _ _ _ us hl => match us, hl with | [_, _], _ => rfl
  have F4 := fun_mk (st := s_is_blocked) l4 c4 k4
  have b4 := F4.binds (ps := ["tree", "path"]) fun _ _ _ _ _ _ us hl => match us, hl with | [_, _], _ => rfl
  have F5 := fun_mk (st := s_done) l5 c5 k5
  have b5 := F5.binds (ps := ["tree", "deed"]) fun _ _ _ _ _ _ us hl => match us, hl with | [_, _], _ => rfl
  have F6 := fun_mk (st := s_law_cell_at) l6 c6 k6
  have b6 := F6.binds (ps := ["_law_script", "_law_k"]) fun _ _ _ _ _ _ us hl => match us, hl with | [_, _], _ => rfl
  have F7 := fun_mk (st := s_law_sign_by) l7 c7 k7
  have b7 := F7.binds (ps := ["_law_k"]) fun _ _ _ _ _ _ us hl => match us, hl with | [_], _ => rfl
  have F8 := fun_mk (st := s_law_name_by) l8 c8 k8
  have b8 := F8.binds (ps := ["_law_k", "_law_shift"]) fun _ _ _ _ _ _ us hl => match us, hl with | [_, _], _ => rfl
  have F9 := fun_mk (st := s_law_path_by) l9 c9 k9
  have b9 := F9.binds (ps := ["_law_cell", "_law_shift"]) fun _ _ _ _ _ _ us hl => match us, hl with | [_, _], _ => rfl
  have F10 := fun_mk (st := s_law_line_by) l10 c10 k10
  have b10 := F10.binds (ps := ["_law_k", "_law_shift"]) fun _ _ _ _ _ _ us hl => match us, hl with | [_, _], _ => rfl
  have F11 := fun_mk (st := s_law_is_free) l11 c11 k11
  have b11 := F11.binds (ps := ["_law_tree", "_law_path"]) fun _ _ _ _ _ _ us hl => match us, hl with | [_, _], _ => rfl
  have F12 := fun_mk (st := s_law_tree_by) l12 c12 k12
  have b12 := F12.binds (ps := ["_law_script", "_law_shift"]) fun _ _ _ _ _ _ us hl => match us, hl with | [_, _], _ => rfl
  have F13 := fun_mk (st := s_law_told) l13 c13 k13
  have b13 := F13.binds (ps := ["_law_tree", "_law_deed"]) fun _ _ _ _ _ _ us hl => match us, hl with | [_, _], _ => rfl
  have F14 := fun_mk (st := s_law_path_asked) l14 c14 k14
  have b14 := F14.binds (ps := ["_law_script", "_law_shift", "_law_tree"]) fun _ _ _ _ _ _ us hl => match us, hl with | [_, _, _], _ => rfl
  have F15 := fun_mk (st := s_law) l15 c15 k15
  have b15 := F15.binds (ps := ["_law_script"]) fun _ _ _ _ _ _ us hl => match us, hl with | [_], _ => rfl
  have e := hfa.symm.trans (PySem.W.mg_of X G a15)
  cases e
  refine ⟨PySem.W.fnOf "law" "law" (defArgs s_law) (defBody s_law) (defScope s_law) .none kV15 dc15 pm15 an15 cd15 ct15, fun s v => .of_eq rfl, fun base _ _ => ?_⟩
  have C_is_part : Cal l.prog w K mg base 1 "is_part" ["text"] (sp_is_part K) := cal_of (ok_is_part F0 z  ) (PySem.W.mg_of X G a0) F0.kp b0
  have C_is_path : Cal l.prog w K mg base 2 "is_path" ["text"] (sp_is_path K) := cal_of (ok_is_path F1 z C_is_part ) (PySem.W.mg_of X G a1) F1.kp b1
  have C_above : Cal l.prog w K mg base 1 "above" ["path"] (sp_above K) := cal_of (ok_above F2 z  ) (PySem.W.mg_of X G a2) F2.kp b2
  have C_is_beneath : Cal l.prog w K mg base 1 "is_beneath" ["path", "upper"] (sp_is_beneath K) := cal_of (ok_is_beneath F3 z  ) (PySem.W.mg_of X G a3) F3.kp b3
  have C_is_blocked : Cal l.prog w K mg base 2 "is_blocked" ["tree", "path"] (sp_is_blocked K) := cal_of (ok_is_blocked F4 z C_above C_is_beneath ) (PySem.W.mg_of X G a4) F4.kp b4
  have C_done : CalX l.prog w K mg base 3 "done" ["tree", "deed"] (sp_done K (cs8 C0 C1 C2 C3 C4 C5 C6 C7)) := calX_of (ok_done EG F5 z C_is_path C_is_blocked R1 R2 R3) (PySem.W.mg_of X G a5) F5.kp b5
  have C_law_cell_at : Cal l.prog w K mg base 1 "_law_cell_at" ["_law_script", "_law_k"] (sp_law_cell_at K) := cal_of (ok_law_cell_at F6 z  ) (PySem.W.mg_of X G a6) F6.kp b6
  have C_law_sign_by : Cal l.prog w K mg base 1 "_law_sign_by" ["_law_k"] (sp_law_sign_by K) := cal_of (ok_law_sign_by F7 z  ) (PySem.W.mg_of X G a7) F7.kp b7
  have C_law_name_by : Cal l.prog w K mg base 2 "_law_name_by" ["_law_k", "_law_shift"] (sp_law_name_by K) := cal_of (ok_law_name_by F8 z C_law_sign_by ) (PySem.W.mg_of X G a8) F8.kp b8
  have C_law_path_by : Cal l.prog w K mg base 3 "_law_path_by" ["_law_cell", "_law_shift"] (sp_law_path_by K) := cal_of (ok_law_path_by F9 z C_law_name_by ) (PySem.W.mg_of X G a9) F9.kp b9
  have C_law_line_by : Cal l.prog w K mg base 1 "_law_line_by" ["_law_k", "_law_shift"] (sp_law_line_by K) := cal_of (ok_law_line_by F10 z  ) (PySem.W.mg_of X G a10) F10.kp b10
  have C_law_is_free : Cal l.prog w K mg base 1 "_law_is_free" ["_law_tree", "_law_path"] (sp_law_is_free K) := cal_of (ok_law_is_free F11 z  ) (PySem.W.mg_of X G a11) F11.kp b11
  have C_law_tree_by : Cal l.prog w K mg base 4 "_law_tree_by" ["_law_script", "_law_shift"] (sp_law_tree_by K) := cal_of (ok_law_tree_by F12 z C_law_cell_at C_law_path_by C_law_is_free C_law_line_by ) (PySem.W.mg_of X G a12) F12.kp b12
  have C_law_told : Cal l.prog w K mg base 4 "_law_told" ["_law_tree", "_law_deed"] (sp_law_told K) := cal_of (ok_law_told EG F13 z C_done E1 E2 E3) (PySem.W.mg_of X G a13) F13.kp b13
  have C_law_path_asked : Cal l.prog w K mg base 4 "_law_path_asked" ["_law_script", "_law_shift", "_law_tree"] (sp_law_path_asked K) := cal_of (ok_law_path_asked F14 z C_law_cell_at C_law_path_by C_law_name_by ) (PySem.W.mg_of X G a14) F14.kp b14
  exact ok_law F15 z C_law_cell_at C_law_tree_by C_law_path_asked C_law_line_by C_law_is_free C_law_told
end K04


open PySem PySem.W PyProof.Rows
set_option maxHeartbeats 0 in
theorem PySem.Challenge.cw_threeroad_k04_a_deed_holds : PySem.Challenge.rw_threeroad_k04_a_deed.Holds := by
  w_on; o_law; k_head; (case hw => w_witness2)
  k_fill
  refine L2.walk_of (l := PySem.Challenge.rw_threeroad_k04_a_deed) (n := 63) (k := 5) (x := "_law_script") (CX := fun _ => L2.CX0) (sp := fun w => K04.sp_law _) rfl (by decide) rfl ⟨rfl, by decide, by decide⟩ (fun w h Y => PySem.W.kIn_of Y) ?F (fun _ _ a ns hl _ hS => ⟨_, ⟨a, ns, rfl, hS, rfl⟩, fun _ _ => congrArg L2.V.bl (K04.law_holds ns)⟩) (fun _ _ _ _ _ h => h)
  case F =>
    intro w mg fa h KX G hmg
    refine' K04.all_mk KX G hmg ?a0 ?l0 ?c0 ?k0 ?a1 ?l1 ?c1 ?k1 ?a2 ?l2 ?c2 ?k2 ?a3 ?l3 ?c3 ?k3 ?a4 ?l4 ?c4 ?k4 ?a5 ?l5 ?c5 ?k5 ?a6 ?l6 ?c6 ?k6 ?a7 ?l7 ?c7 ?k7 ?a8 ?l8 ?c8 ?k8 ?a9 ?l9 ?c9 ?k9 ?a10 ?l10 ?c10 ?k10 ?a11 ?l11 ?c11 ?k11 ?a12 ?l12 ?c12 ?k12 ?a13 ?l13 ?c13 ?k13 ?a14 ?l14 ?c14 ?k14 ?a15 ?l15 ?c15 ?k15 ?z_ValueError ?z_all ?z_any ?z_dict ?z_int ?z_isinstance ?z_len ?z_list ?z_range ?z_str ?z_MOST_PARTS ?z_MOST_SIGNS ?z_SIGNS ?eg0 ?eg1 ?eg2 ?eg3 ?eg4 ?eg5 ?eg6 ?eg7 ?rx1 ?rk1 ?rb1 ?rt1 ?rx2 ?rk2 ?rb2 ?rt2 ?rx3 ?rk3 ?rb3 ?rt3 ?qcb ?qci0 ?qci1 ?qci2 ?qci3 ?qci4 ?qci5 ?qci6 ?qci7 ?qct0 ?qct1 ?qct2 ?qct3 ?qct4 ?qct5 ?qct6 ?qct7 ?t1hg ?t1hk ?t1hs ?t1hd ?t1ha ?t1hn ?t1ht ?t1hm ?t1v ?t1i0 ?t1i1 ?t1i2 ?t1i3 ?t1i4 ?t1i5 ?t1i6 ?t1i7 ?t2hg ?t2hk ?t2hs ?t2hd ?t2ha ?t2hn ?t2ht ?t2hm ?t2v ?t2i0 ?t2i1 ?t2i2 ?t2i3 ?t2i4 ?t2i5 ?t2i6 ?t2i7 ?t3hg ?t3hk ?t3hs ?t3hd ?t3ha ?t3hn ?t3ht ?t3hm ?t3v ?t3i0 ?t3i1 ?t3i2 ?t3i3 ?t3i4 ?t3i5 ?t3i6 ?t3i7
    (case a0 => k_is)
    (case l0 => k_is)
    (case c0 => k_is)
    (case k0 => k_is)
    (case a1 => k_is)
    (case l1 => k_is)
    (case c1 => k_is)
    (case k1 => k_is)
    (case a2 => k_is)
    (case l2 => k_is)
    (case c2 => k_is)
    (case k2 => k_is)
    (case a3 => k_is)
    (case l3 => k_is)
    (case c3 => k_is)
    (case k3 => k_is)
    (case a4 => k_is)
    (case l4 => k_is)
    (case c4 => k_is)
    (case k4 => k_is)
    (case a5 => k_is)
    (case l5 => k_is)
    (case c5 => k_is)
    (case k5 => k_is)
    (case a6 => k_is)
    (case l6 => k_is)
    (case c6 => k_is)
    (case k6 => k_is)
    (case a7 => k_is)
    (case l7 => k_is)
    (case c7 => k_is)
    (case k7 => k_is)
    (case a8 => k_is)
    (case l8 => k_is)
    (case c8 => k_is)
    (case k8 => k_is)
    (case a9 => k_is)
    (case l9 => k_is)
    (case c9 => k_is)
    (case k9 => k_is)
    (case a10 => k_is)
    (case l10 => k_is)
    (case c10 => k_is)
    (case k10 => k_is)
    (case a11 => k_is)
    (case l11 => k_is)
    (case c11 => k_is)
    (case k11 => k_is)
    (case a12 => k_is)
    (case l12 => k_is)
    (case c12 => k_is)
    (case k12 => k_is)
    (case a13 => k_is)
    (case l13 => k_is)
    (case c13 => k_is)
    (case k13 => k_is)
    (case a14 => k_is)
    (case l14 => k_is)
    (case c14 => k_is)
    (case k14 => k_is)
    (case a15 => k_is)
    (case l15 => k_is)
    (case c15 => k_is)
    (case k15 => k_is)
    (case z_ValueError => k_is)
    (case z_all => k_is)
    (case z_any => k_is)
    (case z_dict => k_is)
    (case z_int => k_is)
    (case z_isinstance => k_is)
    (case z_len => k_is)
    (case z_list => k_is)
    (case z_range => k_is)
    (case z_str => k_is)
    (case z_MOST_PARTS => k_is)
    (case z_MOST_SIGNS => k_is)
    (case z_SIGNS => k_is)
    (case eg0 => k_is)
    (case eg1 => k_is)
    (case eg2 => k_is)
    (case eg3 => k_is)
    (case eg4 => k_is)
    (case eg5 => k_is)
    (case eg6 => k_is)
    (case eg7 => k_is)
    (case rx1 => k_exc)
    (case rk1 => k_is)
    (case rb1 => k_is)
    (case rt1 => k_is)
    (case rx2 => k_exc)
    (case rk2 => k_is)
    (case rb2 => k_is)
    (case rt2 => k_is)
    (case rx3 => k_exc)
    (case rk3 => k_is)
    (case rb3 => k_is)
    (case rt3 => k_is)
    (case qcb => k_is)
    (case qci0 => k_is)
    (case qci1 => k_is)
    (case qci2 => k_is)
    (case qci3 => k_is)
    (case qci4 => k_is)
    (case qci5 => k_is)
    (case qci6 => k_is)
    (case qci7 => k_is)
    (case qct0 => k_is)
    (case qct1 => k_is)
    (case qct2 => k_is)
    (case qct3 => k_is)
    (case qct4 => k_is)
    (case qct5 => k_is)
    (case qct6 => k_is)
    (case qct7 => k_is)
    (case t1hg => k_is)
    (case t1hk => k_is)
    (case t1hs => k_is)
    (case t1hd => k_is)
    (case t1ha => k_is)
    (case t1hn => k_is)
    (case t1ht => k_is)
    (case t1hm => k_is)
    (case t1v => k_is)
    (case t1i0 => k_is)
    (case t1i1 => k_is)
    (case t1i2 => k_is)
    (case t1i3 => k_is)
    (case t1i4 => k_is)
    (case t1i5 => k_is)
    (case t1i6 => k_is)
    (case t1i7 => k_is)
    (case t2hg => k_is)
    (case t2hk => k_is)
    (case t2hs => k_is)
    (case t2hd => k_is)
    (case t2ha => k_is)
    (case t2hn => k_is)
    (case t2ht => k_is)
    (case t2hm => k_is)
    (case t2v => k_is)
    (case t2i0 => k_is)
    (case t2i1 => k_is)
    (case t2i2 => k_is)
    (case t2i3 => k_is)
    (case t2i4 => k_is)
    (case t2i5 => k_is)
    (case t2i6 => k_is)
    (case t2i7 => k_is)
    (case t3hg => k_is)
    (case t3hk => k_is)
    (case t3hs => k_is)
    (case t3hd => k_is)
    (case t3ha => k_is)
    (case t3hn => k_is)
    (case t3ht => k_is)
    (case t3hm => k_is)
    (case t3v => k_is)
    (case t3i0 => k_is)
    (case t3i1 => k_is)
    (case t3i2 => k_is)
    (case t3i3 => k_is)
    (case t3i4 => k_is)
    (case t3i5 => k_is)
    (case t3i6 => k_is)
    (case t3i7 => k_is)

