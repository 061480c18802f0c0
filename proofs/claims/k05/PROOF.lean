import PyProof.Rows.All
import Wide.All
import OpenK.AllK
import Wide.FinOn
import HandS.ForMost
import HandS.Evl
import HandS.IsInst
import HandS.DeepEq
import HandS.ListItems
import HandS.HotCalls
import HandS.ExcCtx
import HandS.ExcIs
import HandS.ForExc
import HandS.DictComp
import HandS.Style
import HandS.FStr
import PyProof.Rows.SortShellAny
import PyProof.Rows.StrMeet
import HandS.ListEq
import PySem.Challenge.RW_threeroad_k05_rows_between
set_option Elab.async false
set_option linter.all false
set_option maxRecDepth 100000
set_option maxHeartbeats 40000000
set_option autoImplicit false
/-! Own layer: values of expressions over plain data (ints, texts as lists of signs, lists). -/
namespace Vf
open PySem PySem.Spec PyProof.Rows L2 TL Evl

/-! ## texts -/
abbrev Tx := List Nat
def mk (l : Tx) : Str := ⟨l.toArray⟩
def vs (l : Tx) : V := .str (mk l)
def tx (s : String) : Tx := s.toList.map Char.toNat
theorem tl_of (l : Tx) : tl (mk l) = l := rfl
theorem len_of (l : Tx) : (mk l).length = l.length := by rw [len_tl, tl_of]
theorem mk_of (x : Str) : mk (tl x) = x := ext_tl rfl
theorem app_of (a b : Tx) : mk a ++ mk b = mk (a ++ b) := ext_tl (by rw [tl_append, tl_of, tl_of, tl_of])
theorem mk_inj {a b : Tx} (h : mk a = mk b) : a = b := by rw [← tl_of a, h, tl_of]
theorem vs_inj {a b : Tx} (h : vs a = vs b) : a = b := mk_inj (V.str.inj h)
theorem lit_of (s : String) : Str.ofString s = mk (tx s) := ext_tl (tl_ofString s)
theorem vlit (s : String) : V.str (Str.ofString s) = vs (tx s) := congrArg V.str (lit_of s)
theorem dec_vs (a b : Tx) : decide (vs a = vs b) = decide (a = b) := by
  by_cases h : a = b
  · subst h
    rw [decide_eq_true rfl, decide_eq_true rfl]
  · rw [decide_eq_false h, decide_eq_false (fun e => h (vs_inj e))]
theorem dec_int (a b : Int) : decide (V.int a = V.int b) = decide (a = b) := by
  by_cases h : a = b
  · subst h
    rw [decide_eq_true rfl, decide_eq_true rfl]
  · rw [decide_eq_false h, decide_eq_false (fun e => h (V.int.inj e))]
theorem dec_bl (a b : Bool) : decide (V.bl a = V.bl b) = (a == b) := by
  cases a <;> cases b <;> decide

/-! ## places -/
theorem atI_get {α β : Type} (f : α → β) (l : List α) (d : α) {i : Int} (h0 : 0 ≤ i) (h1 : i < l.length) : atI (l.map f) i = some (f (l.getD i.toNat d)) := by
  have hj : i.toNat < l.length := by omega
  unfold atI ixN
  rw [if_pos h0, if_pos (by rw [List.length_map]; exact h1)]
  show (l.map f)[i.toNat]? = _
  rw [List.getElem?_map, List.getElem?_eq_getElem hj, List.getD_eq_getElem?_getD, List.getElem?_eq_getElem hj]
  rfl
theorem atI_getT (l : Tx) {i : Int} (h0 : 0 ≤ i) (h1 : i < l.length) : atI (mk l).cps.toList i = some (l.getD i.toNat 0) := by
  have h := atI_get (id : Nat → Nat) l 0 h0 h1
  rw [List.map_id] at h
  exact h
/-- slices, of anything -/
def cutG {α : Type} (l : List α) (lo hi : Option Int) : List α := (l.drop (HT.sIx l.length 0 lo)).take (HT.sIx l.length l.length hi - HT.sIx l.length 0 lo)
theorem cutV_map {α : Type} (f : α → V) (l : List α) (lo hi : Option Int) : cutV (l.map f) lo hi = (cutG l lo hi).map f := by
  unfold cutV cutG
  rw [List.length_map, List.map_take, List.map_drop]
theorem cutS_of (l : Tx) (lo hi : Option Int) : cutS (mk l) lo hi = mk (cutG l lo hi) := by
  unfold cutS cutG
  rw [len_of]
  rfl
theorem cutG_to {α : Type} (l : List α) (n : Nat) : cutG l none (some (n : Int)) = l.take n := by
  unfold cutG
  rw [HT.sIx_none, HT.sIx_nat, Nat.sub_zero, List.drop_zero]
  by_cases h : n ≤ l.length
  · rw [Nat.min_eq_left h]
  · rw [Nat.min_eq_right (by omega), List.take_length, List.take_of_length_le (by omega)]
theorem cutG_from {α : Type} (l : List α) (n : Nat) : cutG l (some (n : Int)) none = l.drop n := by
  unfold cutG
  rw [HT.sIx_none, HT.sIx_nat]
  by_cases h : n ≤ l.length
  · rw [Nat.min_eq_left h]
    exact List.take_of_length_le (by rw [List.length_drop]; omega)
  · rw [Nat.min_eq_right (by omega), Nat.sub_self, List.take_zero, List.drop_of_length_le (by omega)]

section
variable {K : PySem.W.Frag} {σ : L2.St} {H H' : Hp} {ta tb te tx' : TE} {t u : TT} {x y z v : V} {r : R2} {a b i j : Int} {p q : Tx}

/-! ## ints -/
theorem e_add (ha : Ev ta σ H (.int a)) (hb : Ev tb σ H (.int b)) : Ev (tOp (rI0 fun i j => .int (i + j)) ta tb) σ H (.int (a + b)) := ev_op ha hb rv_I0
theorem e_sub (ha : Ev ta σ H (.int a)) (hb : Ev tb σ H (.int b)) : Ev (tOp (rI0 fun i j => .int (i - j)) ta tb) σ H (.int (a - b)) := ev_op ha hb rv_I0
theorem e_mul (ha : Ev ta σ H (.int a)) (hb : Ev tb σ H (.int b)) (h : CMul a b) : Ev (tOp (rI CMul fun i j => .int (i * j)) ta tb) σ H (.int (a * b)) := ev_op ha hb (rv_I h)
theorem e_mod (ha : Ev ta σ H (.int a)) (hb : Ev tb σ H (.int b)) (h : 0 < b) : Ev (tOp (rI (fun _ j => 0 < j) fun i j => .int (i % j)) ta tb) σ H (.int (a % b)) := ev_op ha hb (rv_I (C := fun _ j => 0 < j) h)
theorem e_div (ha : Ev ta σ H (.int a)) (hb : Ev tb σ H (.int b)) (h : 0 < b ∧ b < 1073741824) : Ev (tOp (rI CDiv fun i j => .int (i / j)) ta tb) σ H (.int (a / b)) := ev_op ha hb (rv_I (C := CDiv) h)
theorem e_neg (ha : Ev ta σ H (.int a)) : Ev (tUn (rU fun i => .int (-i)) ta) σ H (.int (-a)) := ev_un ha ru_neg
theorem e_lt (ha : Ev ta σ H (.int a)) (hb : Ev tb σ H (.int b)) : Ev (tOp (rI0 fun i j => .bl (decide (i < j))) ta tb) σ H (.bl (decide (a < b))) := ev_op ha hb rv_I0
theorem e_le (ha : Ev ta σ H (.int a)) (hb : Ev tb σ H (.int b)) : Ev (tOp (rI0 fun i j => .bl (decide (i ≤ j))) ta tb) σ H (.bl (decide (a ≤ b))) := ev_op ha hb rv_I0
theorem e_gt (ha : Ev ta σ H (.int a)) (hb : Ev tb σ H (.int b)) : Ev (tOp (rI0 fun i j => .bl (decide (j < i))) ta tb) σ H (.bl (decide (b < a))) := ev_op ha hb rv_I0
theorem e_ge (ha : Ev ta σ H (.int a)) (hb : Ev tb σ H (.int b)) : Ev (tOp (rI0 fun i j => .bl (decide (j ≤ i))) ta tb) σ H (.bl (decide (b ≤ a))) := ev_op ha hb rv_I0
theorem e_eqI (ha : Ev ta σ H (.int a)) (hb : Ev tb σ H (.int b)) : Ev (tOp rEq ta tb) σ H (.bl (decide (a = b))) := dec_int a b ▸ ev_op ha hb (rv_eq rfl)
theorem e_neI (ha : Ev ta σ H (.int a)) (hb : Ev tb σ H (.int b)) : Ev (tOp rNe ta tb) σ H (.bl (!decide (a = b))) := dec_int a b ▸ ev_op ha hb (rv_ne rfl)
theorem e_eqT (ha : Ev ta σ H (vs p)) (hb : Ev tb σ H (vs q)) : Ev (tOp rEq ta tb) σ H (.bl (decide (p = q))) := dec_vs p q ▸ ev_op ha hb (rv_eq rfl)
theorem e_neT (ha : Ev ta σ H (vs p)) (hb : Ev tb σ H (vs q)) : Ev (tOp rNe ta tb) σ H (.bl (!decide (p = q))) := dec_vs p q ▸ ev_op ha hb (rv_ne rfl)
theorem e_eqB {c d : Bool} (ha : Ev ta σ H (.bl c)) (hb : Ev tb σ H (.bl d)) : Ev (tOp rEq ta tb) σ H (.bl (c == d)) := dec_bl c d ▸ ev_op ha hb (rv_eq rfl)
theorem e_neB {c d : Bool} (ha : Ev ta σ H (.bl c)) (hb : Ev tb σ H (.bl d)) : Ev (tOp rNe ta tb) σ H (.bl (!(c == d))) := dec_bl c d ▸ ev_op ha hb (rv_ne rfl)

/-! ## texts -/
theorem e_lit {s : String} : Ev (tC (.str (Str.ofString s))) σ H (vs (tx s)) := by
  rw [← vlit]
  exact ev_c
def rAddT : R2 := fun x y H Q => ∃ i j, x = .str i ∧ y = .str j ∧ i.length + j.length ≤ sizeLine ∧ Q (.str (i ++ j)) H
theorem op_addT {X : Cx} : OpR X (binaryOp .Add) rAddT := op_add_str
theorem rv_addT (h : p.length + q.length ≤ 100000) : RV rAddT (vs p) (vs q) H (vs (p ++ q)) := fun H1 _ Q k =>
  ⟨mk p, mk q, rfl, rfl, by rw [len_of, len_of]; exact sz_of h, by rw [app_of]; exact k H1 (Ex.refl H1)⟩
theorem e_addT (ha : Ev ta σ H (vs p)) (hb : Ev tb σ H (vs q)) (h : p.length + q.length ≤ 100000) : Ev (tOp rAddT ta tb) σ H (vs (p ++ q)) := ev_op ha hb (rv_addT h)
theorem e_ixS (ha : Ev ta σ H (vs p)) (hb : Ev tb σ H (.int i)) (h : 0 ≤ i ∧ i < p.length ∧ p.length ≤ 100000) : Ev (tOp rIxS ta tb) σ H (vs [p.getD i.toNat 0]) :=
  ev_op ha hb (rv_ixS (by rw [len_of]; exact h.2.2) (atI_getT p h.1 h.2.1))
theorem e_slS {tl' th : TO} {lo hi : Option Int} (h : Ev te σ H (vs p)) (h1 : EvO tl' σ H lo) (h2 : EvO th σ H hi) (hz : p.length ≤ 100000) : Ev (tSl rSlS te tl' th) σ H (vs (cutG p lo hi)) := fun H1 e Q k =>
  h H1 e _ fun H2 e2 => h1 H2 (e.trans e2) _ fun H3 e3 => h2 H3 ((e.trans e2).trans e3) _ fun H4 e4 =>
    ⟨mk p, rfl, by rw [len_of]; exact sz_of hz, by rw [cutS_of]; exact k H4 ((e2.trans e3).trans e4)⟩
def rLenT : List V → Hp → VK → Prop := fun xs H Q => ∃ z, xs = [.str z] ∧ z.length ≤ sizeLine ∧ Q (.int z.length) H
theorem call_lenT {X : Cx} : CallR X (.builtin "len") rLenT := call_len_str
theorem e_lenT (h : Ev te σ H (vs p)) (hz : p.length ≤ 100000) : Ev (tCB rLenT (tCons te tNil)) σ H (.int (p.length : Int)) := ev_cb (ea_cons h ea_nil) fun H1 _ Q k =>
  ⟨mk p, rfl, by rw [len_of]; exact sz_of hz, by rw [len_of]; exact k H1 (Ex.refl H1)⟩
/-- one sign in a text -/
def rInT : R2 := fun x y H Q => ∃ (c : Nat) (z : Str), x = .str ⟨#[c]⟩ ∧ y = .str z ∧ Q (.bl (decide (c ∈ z.cps.toList))) H
def rNiT : R2 := fun x y H Q => ∃ (c : Nat) (z : Str), x = .str ⟨#[c]⟩ ∧ y = .str z ∧ Q (.bl (!decide (c ∈ z.cps.toList))) H
theorem op_inT {X : Cx} : OpR X (compareOp .In) rInT := op_in_sign
theorem op_niT {X : Cx} : OpR X (compareOp .NotIn) rNiT := op_notIn_sign
theorem e_inT {c : Nat} (ha : Ev ta σ H (vs [c])) (hb : Ev tb σ H (vs p)) : Ev (tOp rInT ta tb) σ H (.bl (decide (c ∈ p))) := ev_op ha hb fun H1 _ Q k => ⟨c, mk p, rfl, rfl, k H1 (Ex.refl H1)⟩
theorem e_niT {c : Nat} (ha : Ev ta σ H (vs [c])) (hb : Ev tb σ H (vs p)) : Ev (tOp rNiT ta tb) σ H (.bl (!decide (c ∈ p))) := ev_op ha hb fun H1 _ Q k => ⟨c, mk p, rfl, rfl, k H1 (Ex.refl H1)⟩
/-- sep.join(list) -/
def rJoinT (K : PySem.W.Frag) : V → List V → Hp → VK → Prop := fun x xs H Q => ∃ a p, ∃ ys : List Str, x = .str a ∧ xs = [.ref p] ∧ (SqL K H p (ys.map V.str) ∨ SqT K H p (ys.map V.str)) ∧
  (ys.map (·.length)).sum + ys.length * a.length ≤ 16777216 ∧ Q (.str (Txt.join a ys)) H
theorem pe_joinT {X : Cx} {o e : Expr} {to te : TE} {apos pos : Pos} (ho : PE X o to) (he : PE X e te) (hs : starEach [e] X.env = [(false, eval e X.env)] := by rfl) (hbase : attributeBase o "join" X.env (eval o X.env) = eval o X.env := by rfl) (hline : (apos.endLine == pos.line) = true := by rfl) :
    PE X (.Call (.Attribute o "join" apos) [e] [] pos) (tM1 (rJoinT X.K) to te) := pe_join ho he hs hbase hline
def sumLen (l : List Tx) : Nat := (l.map List.length).sum
theorem map_vs (l : List Tx) : l.map vs = (l.map mk).map V.str := by rw [List.map_map]; rfl
theorem sum_mk (l : List Tx) : ((l.map mk).map (·.length)).sum = sumLen l := by
  unfold sumLen
  rw [List.map_map]
  congr 1
theorem join_of (s : Tx) (l : List Tx) : Txt.join (mk s) (l.map mk) = mk (joinL s l) := ext_tl (by
  rw [join_eq, tl_join, tl_of, tl_of, List.map_map]
  congr 1
  exact (List.map_congr_left fun x _ => tl_of x).trans (List.map_id l))
theorem jn_rule {s : Tx} {l : List Tx} {pl : Addr} {H1 : Hp} {Q : VK} (hS : SqL K H1 pl (l.map vs)) (hz : sumLen l + l.length * s.length ≤ 16777216) (k : Q (vs (joinL s l)) H1) : rJoinT K (vs s) [.ref pl] H1 Q :=
  ⟨mk s, pl, l.map mk, rfl, rfl, Or.inl (map_vs l ▸ hS), by rw [sum_mk, List.length_map, len_of]; exact hz, by rw [join_of]; exact k⟩
theorem jn_size {s : Tx} {l : List Tx} (hz : sumLen l ≤ 1000000 ∧ l.length ≤ 1000 ∧ s.length ≤ 1000) : sumLen l + l.length * s.length ≤ 16777216 := by
  have h := Nat.mul_le_mul hz.2.1 hz.2.2
  omega
theorem e_joinN {s : Tx} {l : List Tx} (h : Ev ta σ H (vs s)) (hl : EvL te σ H (l.map vs)) (hz : sumLen l ≤ 1000000 ∧ l.length ≤ 1000 ∧ s.length ≤ 1000) : Ev (tM1 (rJoinT K) ta te) σ H (vs (joinL s l)) := fun H1 e Q k =>
  h H1 e _ fun H2 e2 => ⟨⟨mk s, rfl⟩, hl H2 (e.trans e2) _ fun pl H3 _ e3 hp => jn_rule (sq_of hp) (jn_size hz) (k H3 (e2.trans e3))⟩
theorem e_joinR {s : Tx} {l : List Tx} {pl : Addr} (h : Ev ta σ H (vs s)) (hl : Ev te σ H (.ref pl)) (hS : SqL K H pl (l.map vs)) (hz : sumLen l ≤ 1000000 ∧ l.length ≤ 1000 ∧ s.length ≤ 1000) : Ev (tM1 (rJoinT K) ta te) σ H (vs (joinL s l)) := fun H1 e Q k =>
  h H1 e _ fun H2 e2 => ⟨⟨mk s, rfl⟩, hl H2 (e.trans e2) _ fun H3 e3 => jn_rule (ex_l ((e.trans e2).trans e3) hS) (jn_size hz) (k H3 (e2.trans e3))⟩
/-- x.split(one sign) -/
def rSplitT : V → List V → Hp → VK → Prop := fun x xs H Q => ∃ a b, x = .str a ∧ xs = [.str b] ∧ (b.length == 0) = false ∧ a.length + 2 ≤ sizeLine ∧ rNewStrs (Txt.split a b) H Q
theorem pe_splitT {X : Cx} {o e : Expr} {to te : TE} {apos pos : Pos} (ho : PE X o to) (he : PE X e te) (hs : starEach [e] X.env = [(false, eval e X.env)] := by rfl) (hbase : attributeBase o "split" X.env (eval o X.env) = eval o X.env := by rfl) (hline : (apos.endLine == pos.line) = true := by rfl) :
    PE X (.Call (.Attribute o "split" apos) [e] [] pos) (tM1 rSplitT to te) := pe_split ho he hs hbase hline
def cuts (c : Nat) (l : Tx) : List Tx := spl [c] 0 [] l
theorem split_of {c : Nat} (hc : c < 256) (l : Tx) : (Txt.split (mk l) (mk [c])).map V.str = (cuts c l).map vs := by
  have h := split_spl (mk l) (mk [c]) (by rw [tl_of]; simp) (kind_ok (by show (#[c] : Array Nat).all (· < 256) = true; simp [hc]))
  rw [tl_of, tl_of] at h
  show _ = (spl [c] 0 [] l).map vs
  rw [← h, List.map_map]
  exact List.map_congr_left fun y _ => by
    show V.str y = V.str (mk (tl y))
    rw [mk_of]
theorem l_split {c : Nat} (ha : Ev ta σ H (vs p)) (hb : Ev te σ H (vs [c])) (hc : c < 256) (hz : p.length ≤ 90000) : EvL (tM1 rSplitT ta te) σ H ((cuts c p).map vs) := fun H1 e Q k =>
  ha H1 e _ fun H2 e2 => ⟨⟨mk p, rfl⟩, hb H2 (e.trans e2) _ fun H3 e3 =>
    ⟨mk p, mk [c], rfl, rfl, by rw [len_of]; rfl, by rw [len_of]; exact sz_of (by omega), fun pl np => by
      have e4 := split_of hc p
      refine k pl _ (fresh_back (e2.trans e3) np) ((e2.trans e3).trans (Ex.new np)) ?_
      rw [upd_same, e4]⟩⟩
/-- startswith -/
theorem starts_of (p q : Tx) : Txt.startswith (mk p) (mk q) = q.isPrefixOf p := by
  show ((decide (0 + (mk q).length ≤ (mk p).length)) && Builtin.Str.subAt (mk p) (mk q) 0) = _
  rw [len_of, len_of, Nat.zero_add, PySem.StrLaws.subAt_eq, List.drop_zero, len_of]
  show (decide (q.length ≤ p.length) && (p.take q.length == q)) = q.isPrefixOf p
  cases h : q.isPrefixOf p with
  | true =>
    obtain ⟨r, rfl⟩ := List.isPrefixOf_iff_prefix.mp h
    simp
  | false =>
    have hn : ¬ q <+: p := fun z => by rw [List.isPrefixOf_iff_prefix.mpr z] at h; cases h
    have : ¬ p.take q.length = q := fun z => hn ⟨p.drop q.length, (congrArg (· ++ p.drop q.length) z).symm.trans (List.take_append_drop _ _)⟩
    rw [beq_eq_false_iff_ne.mpr this, Bool.and_false]
def rStartsT : V → List V → Hp → VK → Prop := fun x xs H Q => ∃ a b, x = .str a ∧ xs = [.str b] ∧ Q (.bl (Txt.startswith a b)) H
theorem pe_startsT {X : Cx} {o e : Expr} {to te : TE} {apos pos : Pos} (ho : PE X o to) (he : PE X e te) (hs : starEach [e] X.env = [(false, eval e X.env)] := by rfl) (hbase : attributeBase o "startswith" X.env (eval o X.env) = eval o X.env := by rfl) (hline : (apos.endLine == pos.line) = true := by rfl) :
    PE X (.Call (.Attribute o "startswith" apos) [e] [] pos) (tM1 rStartsT to te) := pe_m1 PySem.F.slot_str_startswith PySem.F.type_str_startswith mt_startswith ho he hs hbase hline
theorem e_starts (ha : Ev ta σ H (vs p)) (hb : Ev te σ H (vs q)) : Ev (tM1 rStartsT ta te) σ H (.bl (q.isPrefixOf p)) := fun H1 e Q k =>
  ha H1 e _ fun H2 e2 => ⟨⟨mk p, rfl⟩, hb H2 (e.trans e2) _ fun H3 e3 => ⟨mk p, mk q, rfl, rfl, by rw [starts_of]; exact k H3 (e2.trans e3)⟩⟩
/-! ## lists -/
theorem e_ixL {α : Type} {f : α → V} {l : List α} (d : α) {pl : Addr} (h : Ev ta σ H (.ref pl)) (hS : SqL K H pl (l.map f)) (hb : Ev tb σ H (.int i)) (hi : 0 ≤ i ∧ i < l.length) : Ev (tOp (rIxL K) ta tb) σ H (f (l.getD i.toNat d)) := ev_op h hb (rv_ixL hS (atI_get f l d hi.1 hi.2))
theorem e_ixN {α : Type} {f : α → V} {l : List α} (d : α) (h : EvL ta σ H (l.map f)) (hb : Ev tb σ H (.int i)) (hi : 0 ≤ i ∧ i < l.length) : Ev (tOp (rIxL K) ta tb) σ H (f (l.getD i.toNat d)) :=
  ev_opL1 h (fun _ e => hb.mono e) fun _ _ hp _ => rv_ixL (sq_of hp) (atI_get f l d hi.1 hi.2)
theorem e_lenL {α : Type} {f : α → V} {l : List α} {pl : Addr} (h : Ev ta σ H (.ref pl)) (hS : SqL K H pl (l.map f)) : Ev (tCB (rLenS K) (tCons ta tNil)) σ H (.int (l.length : Int)) := by
  have g := ev_len h hS
  rw [List.length_map] at g
  exact g
theorem e_lenN {α : Type} {f : α → V} {l : List α} (h : EvL ta σ H (l.map f)) : Ev (tCB (rLenS K) (tCons ta tNil)) σ H (.int (l.length : Int)) := by
  have g := ev_lenN (K := K) h
  rw [List.length_map] at g
  exact g
theorem call_lenQ {X : Cx} : CallR X (.builtin "len") (rLenS X.K) := call_len_seq
theorem l_slR {α : Type} {f : α → V} {l : List α} {tl' th : TO} {lo hi : Option Int} {pl : Addr} (h : Ev te σ H (.ref pl)) (hS : SqL K H pl (l.map f)) (h1 : EvO tl' σ H lo) (h2 : EvO th σ H hi) : EvL (tSl (rSlL K) te tl' th) σ H ((cutG l lo hi).map f) :=
  cutV_map f l lo hi ▸ el_sl h h1 h2 hS
theorem e_all {l : List Bool} (h : EvL ta σ H (l.map V.bl)) : Ev (tCB (rAll K) (tCons ta tNil)) σ H (.bl (l.all id)) := fun H1 e Q k =>
  h H1 e _ fun pl H2 _ e2 hp => ⟨pl, l, rfl, sq_of hp, k H2 e2⟩
theorem inV_vs (p : Tx) (l : List Tx) : inV (vs p) (l.map vs) = decide (p ∈ l) := by
  unfold inV
  rw [List.any_map]
  induction l with
  | nil => rfl
  | cons y r ih =>
    rw [List.any_cons, ih]
    show ((mk y == mk p) || _) = _
    by_cases h : y = p
    · subst h
      simp
    · have : (mk y == mk p) = false := beq_eq_false_iff_ne.mpr fun e => h (mk_inj e)
      rw [this]
      have h2 : ¬ p = y := fun e => h e.symm
      simp [h2]
theorem flat_vs (l : List Tx) : (l.map vs).all flatV = true := by
  rw [List.all_map]
  exact List.all_eq_true.mpr fun _ _ => rfl
theorem e_inN {l : List Tx} (ha : Ev ta σ H (vs p)) (hb : EvL tb σ H (l.map vs)) : Ev (tOp (rIn K false) ta tb) σ H (.bl (decide (p ∈ l))) := inV_vs p l ▸ ev_opL ha hb fun _ _ h _ => rv_isL (sq_of h) rfl (flat_vs l)
theorem e_inU {l : List Tx} (ha : Ev ta σ H (vs p)) (hb : EvU tb σ H (l.map vs)) : Ev (tOp (rIn K false) ta tb) σ H (.bl (decide (p ∈ l))) := inV_vs p l ▸ ev_inU ha hb rfl (flat_vs l)
theorem e_inR {l : List Tx} {pl : Addr} (ha : Ev ta σ H (vs p)) (hb : Ev tb σ H (.ref pl)) (hS : SqL K H pl (l.map vs)) : Ev (tOp (rIn K false) ta tb) σ H (.bl (decide (p ∈ l))) := inV_vs p l ▸ ev_op ha hb (rv_isL hS rfl (flat_vs l))

/-! ## comprehensions without ifs -/
theorem given_all (n : Nat) (g : Nat → V) : given n (fun _ => true) g = (List.range n).map g := by
  unfold given
  rw [List.filter_eq_self.mpr fun _ _ => rfl]
theorem l_mapR {α : Type} {f : α → V} {ta' : TA} {jx : Nat} {ws : List Nat} {n : Int} (g : Nat → α) (h : EvA ta' σ H [.int n]) (hn : 0 ≤ n ∧ n ≤ 40000) (he : ∀ k : Nat, (k : Int) < n → Ev te ((wipe σ ws).set jx (some (.int (k : Int)))) H (f (g k)))
    (hw : ∀ w, wipe ((wipe σ ws).set jx (some w)) ws = wipe σ ws := by exact fun _ => rfl) : EvL (tLc (iRng1 ta') (gName jx) tYes te ws) σ H (((List.range n.toNat).map g).map f) := by
  have q := el_lcR1 (t := tYes) (te := te) (fun _ => true) (fun k => f (g k)) h hn hw (fun _ _ _ _ => fun H1 _ Q k => k H1 (Ex.refl H1)) (fun k H1 e hk _ => (he k hk).mono e)
  rw [given_all] at q
  rw [List.map_map]
  exact q
theorem given_list {α β : Type} (f : β → V) (g : α → β) (l : List α) (d : α) : given l.length (fun _ => true) (fun k => f (g (l.getD k d))) = (l.map g).map f := by
  rw [given_all]
  apply List.ext_getElem
  · simp
  · intro k h1 h2
    simp only [List.getElem_map, List.getElem_range]
    rw [List.getD_eq_getElem?_getD, List.getElem?_eq_getElem (by simpa using h1)]
    rfl
theorem map_at {α : Type} {f : α → V} {l : List α} {k : Nat} {w : V} (d : α) (h : (l.map f)[k]? = some w) : l.getD k d ∈ l ∧ w = f (l.getD k d) := by
  rw [List.getElem?_map] at h
  cases e : l[k]? with
  | none => rw [e] at h; cases h
  | some y =>
    rw [e] at h
    have e2 : l.getD k d = y := by rw [List.getD_eq_getElem?_getD, e]; rfl
    rw [e2]
    exact ⟨List.mem_of_getElem? e, (Option.some.inj h).symm⟩
/-- over a list that stands -/
theorem l_mapL {α β : Type} {f : α → V} {f2 : β → V} {l : List α} {pl : Addr} {tl' : TE} {jx : Nat} {ws : List Nat} (d : α) (g : α → β) (h : Ev tl' σ H (.ref pl)) (hS : SqL K H pl (l.map f)) (hz : l.length ≤ 40000)
    (he : ∀ y ∈ l, Ev te ((wipe σ ws).set jx (some (f y))) H (f2 (g y))) (hw : ∀ w, wipe ((wipe σ ws).set jx (some w)) ws = wipe σ ws := by exact fun _ => rfl) : EvL (tLc (iList K tl') (gName jx) tYes te ws) σ H ((l.map g).map f2) := by
  have q := el_lcL (t := tYes) (te := te) (fun _ => true) (fun k => f2 (g (l.getD k d))) h hS (by rw [List.length_map]; exact hz) hw (fun _ _ _ _ _ => fun H1 _ Q k => k H1 (Ex.refl H1)) (fun k w H1 e hk _ => by
    obtain ⟨hm, ew⟩ := map_at d hk
    rw [ew]
    exact (he _ hm).mono e)
  rw [List.length_map, given_list] at q
  exact q
/-- over the signs of a text -/
theorem l_mapS {β : Type} {f2 : β → V} {tl' : TE} {jx : Nat} {ws : List Nat} (g : Nat → β) (h : Ev tl' σ H (vs p)) (hz : p.length ≤ 40000)
    (he : ∀ c ∈ p, Ev te ((wipe σ ws).set jx (some (vs [c]))) H (f2 (g c))) (hw : ∀ w, wipe ((wipe σ ws).set jx (some w)) ws = wipe σ ws := by exact fun _ => rfl) : EvL (tLc (iStr tl') (gName jx) tYes te ws) σ H ((p.map g).map f2) := fun H0 e0 Q q => h H0 e0 _ fun H1 e1 => ⟨mk p, rfl, fun D hD => by
  refine ⟨fun k m H2 => m = p.length - k ∧ k ≤ p.length ∧ Cw H1 (fun _ => true) (fun k => f2 (g (p.getD k 0))) D k H2, ⟨p.length, by simp, Nat.zero_le _, hD, Ex.new hD, upd_same⟩, fun k m H2 hW => ?_⟩
  obtain ⟨rfl, hk, hC⟩ := hW
  have hsz : (mk p).cps.size = p.length := by show p.toArray.size = _; simp
  by_cases hlt : k < p.length
  · refine Or.inr ⟨by show k < (mk p).cps.size; omega, fun H3 => Cw H1 (fun _ => true) (fun k => f2 (g (p.getD k 0))) D (k + 1) H3, fun H3 h3 => ⟨p.length - (k + 1), by omega, rfl, hlt, h3⟩, fun w H3 hy => ?_⟩
    obtain ⟨rfl, c, hc, rfl⟩ := hy
    have hc2 : p[k]? = some c := by
      have : (mk p).cps[k]? = p[k]? := by show p.toArray[k]? = _; simp
      rw [← this]; exact hc
    have hm : c ∈ p := List.mem_of_getElem? hc2
    have hd : p.getD k 0 = c := by rw [List.getD_eq_getElem?_getD, hc2]; rfl
    exact ⟨hw _, cw_turn hC (by omega) (fun H4 _ Q k => k H4 (Ex.refl H4)) (fun _ => by
      show Ev te _ H1 (f2 (g (p.getD k 0)))
      rw [hd]
      exact (he c hm).mono (e0.trans e1))⟩
  · have ek : k = p.length := by omega
    refine Or.inl ⟨by show (mk p).cps.size ≤ k; omega, ?_⟩
    subst ek
    have h3 := hC.2.2
    rw [given_list] at h3
    exact q D H2 (fresh_back e1 hC.1) (e1.trans hC.2.1) h3⟩

/-! ## displays -/
theorem a_one (h : Ev te σ H x) : EvA (tCons te tNil) σ H [x] := ea_cons h ea_nil
theorem a_two (h : Ev ta σ H x) (h2 : Ev tb σ H y) : EvA (tCons ta (tCons tb tNil)) σ H [x, y] := ea_cons h (a_one h2)
theorem tyx_lst {pl : Addr} {xs : List V} (h : SqL K H pl xs) : TyX K H (.ref pl) (.type "list") := by
  rcases h with (h | ⟨o, h⟩) | ⟨o, _, _, h, hc, _⟩
  · exact .base (.lst h)
  · exact .base (.frz h)
  · exact .kList h hc
/-! ## isinstance of plain values -/
theorem e_isi {w : V} {tw uw : Value} {c : V} {ok : Bool} (h : Ev ta σ H w) (hc : Ev tb σ H c) (k : ClsV c uw) (ty : ∀ H1, Ex H H1 → TyX K H1 w tw) (hk : PySem.W.kitOne K tw uw = some ok) : Ev (tCB (rIsi K) (tCons ta (tCons tb tNil))) σ H (.bl ok) :=
  ev_cb (a_two h hc) fun H1 e Q q => ⟨w, c, tw, uw, ok, rfl, k, ty H1 e, hk, q H1 (Ex.refl H1)⟩
end

/-! ## promises: a value, or a new list -/
/-- a pure def: called with such arguments it gives such a value, whatever else stands -/
def spP (R : List V → Hp → V → Prop) : Sp := fun vs' H Q _ => ∃ v, R vs' H v ∧ RetV v H Q
def spN (R : List V → Hp → List V → Prop) : Sp := fun vs' H Q _ => ∃ xs, R vs' H xs ∧ RetL xs H Q
theorem sv_of {R : List V → Hp → V → Prop} {ws : List V} {H : Hp} {v : V} (h : ∀ H1, Ex H H1 → R ws H1 v) : SpV (spP R) ws H v := fun H1 e Q q _ => ⟨v, h H1 e, q⟩
theorem sl_of {R : List V → Hp → List V → Prop} {ws : List V} {H : Hp} {xs : List V} (h : ∀ H1, Ex H H1 → R ws H1 xs) : SpL (spN R) ws H xs := fun H1 e Q q _ => ⟨xs, h H1 e, q⟩

/-! ## a def as its callers see it -/
structure Cal (P : Program) (w : World) (K : PySem.W.Frag) (mg : Str → Option Value) (base : Heap) (k : Nat) (x : Str) (ps : List Str) (sp : Sp) : Prop where
  ex : ∃ f fd, FnOk P w K mg base CX0 k f fd ps sp ∧ mg x = some (.ref f) ∧ PySem.W.keepIn K (.ref f) = true ∧ Binds K fd ps []
theorem pe_cal {X : Cx} {k : Nat} {x : Str} {ps : List Str} {sp : Sp} {e : Expr} {es : List Expr} {t : TA} {p pos : Pos} (C : Cal X.prog X.w X.K X.mg X.base k x ps sp) (hr : Room k X.A) (hg : Gl X x) (ha : PA X (e :: es) t)
    (hdb : (x == ("__debug__" : Str)) = false := by decide) (he : starEach (e :: es) X.env = (false, eval e X.env) :: starEach es X.env := by rfl) (hpl : (backTo pos (starEach es X.env)).any (·.1) = false := by rfl) :
    PE X (.Call (.Name x p) (e :: es) [] pos) (tCall sp [] E0 t) := by
  obtain ⟨f, fd, F, g, kp, b⟩ := C.ex
  exact pe_call (CX := CX0) (E := E0) F hr hg g kp b .nil pass0 ha hdb he hpl
/-- a def of the text, proved -/
theorem cal_of {P : Program} {w : World} {K : PySem.W.Frag} {mg : Str → Option Value} {base : Heap} {k : Nat} {x : Str} {ps : List Str} {sp : Sp} {f : Addr} {fd : FuncData} (F : FnOk P w K mg base CX0 k f fd ps sp) (g : mg x = some (.ref f)) (kp : PySem.W.keepIn K (.ref f) = true) (b : Binds K fd ps []) :
    Cal P w K mg base k x ps sp := ⟨f, fd, F, g, kp, b⟩
end Vf
namespace Vf
open PySem PySem.Spec PyProof.Rows L2 TL Evl

/-! ## loops as folds that may be left -/
inductive Stp (S R : Type) where
  | go (s : S) | brk (s : S) | ret (r : R)
def runL {α S R : Type} (f : S → α → Stp S R) : List α → S → Stp S R
  | [], s => .go s
  | x :: xs, s => match f s x with
    | .go s2 => runL f xs s2
    | .brk s2 => .brk s2
    | .ret r => .ret r
def aftL {S R : Type} (o : Stp S R) (g : S → R) : R := match o with
  | .go s => g s
  | .brk s => g s
  | .ret r => r
theorem runL_app {α S R : Type} (f : S → α → Stp S R) : ∀ (l m : List α) (s : S), runL f (l ++ m) s = match runL f l s with
    | .go s2 => runL f m s2
    | .brk s2 => .brk s2
    | .ret r => .ret r
  | [], m, s => rfl
  | x :: xs, m, s => by
    rw [List.cons_append]
    simp only [runL]
    cases h : f s x with
    | go s2 => exact runL_app f xs m s2
    | brk s2 => rfl
    | ret r => rfl
theorem runL_go {α S R : Type} {f : S → α → Stp S R} {y : α} {r : List α} {s s2 : S} (h : f s y = .go s2) : runL f (y :: r) s = runL f r s2 := by
  simp only [runL]
  rw [h]
theorem runL_ret {α S R : Type} {f : S → α → Stp S R} {y : α} {r : List α} {s : S} {q : R} (h : f s y = .ret q) : runL f (y :: r) s = .ret q := by
  simp only [runL]
  rw [h]
theorem runL_all {α S R : Type} (f : S → α → Stp S R) (g : S → α → S) (hf : ∀ s y, f s y = .go (g s y)) : ∀ (l : List α) (s : S), runL f l s = .go (l.foldl g s)
  | [], s => rfl
  | y :: r, s => by
    rw [runL_go (hf s y), runL_all f g hf r, List.foldl_cons]
theorem runL_next {α S R : Type} {f : S → α → Stp S R} {l : List α} {i : Nat} {y : α} {s0 s : S} (h : runL f (l.take i) s0 = .go s) (hy : l[i]? = some y) : runL f (l.take (i + 1)) s0 = f s y := by
  rw [List.take_add_one, hy, runL_app, h]
  show (match f s y with | .go s2 => runL f [] s2 | .brk s2 => .brk s2 | .ret r => .ret r) = _
  cases f s y <;> rfl
theorem runL_out {α S R : Type} {f : S → α → Stp S R} {l : List α} {i : Nat} {s0 : S} {o : Stp S R} (h : runL f (l.take i) s0 = o) (ho : ∀ s, o ≠ .go s) : runL f l s0 = o := by
  have e : l = l.take i ++ l.drop i := (List.take_append_drop i l).symm
  rw [e, runL_app, h]
  cases o with
  | go s => exact absurd rfl (ho s)
  | brk s => rfl
  | ret r => rfl

section
variable {K : PySem.W.Frag} {σ : L2.St} {H H' : Hp} {ta tb te tl' : TE} {D : Ends} {tu tw tz : TS} {α S R : Type}
/-- what a loop's body has to show -/
def BodyOk (tu : TS) (D : Ends) (j : Nat) (f : α → V) (step : S → α → Stp S R) (l : List α) (s0 : S) (Rep : S → L2.St → Hp → Prop) : Prop :=
  ∀ (Nx Bk : L2.St → Hp → Prop) (i : Nat) (s : S) (y : α) (σ1 : L2.St) (H1 : Hp), l[i]? = some y → runL step (l.take i) s0 = .go s → Rep s σ1 H1 → (∀ s2 σ2 H2, step s y = .go s2 → Rep s2 σ2 H2 → Nx σ2 H2) → (∀ s2 σ2 H2, step s y = .brk s2 → Rep s2 σ2 H2 → Bk σ2 H2) →
    (∀ r, step s y = .ret r → runL step l s0 = .ret r) → tu { D with nx := Nx, ct := Nx, bk := Bk } (σ1.set j (some (f y))) H1
def OutOk (tz : TS) (D : Ends) (step : S → α → Stp S R) (l : List α) (s0 : S) (Rep : S → L2.St → Hp → Prop) : Prop :=
  ∀ s σ1 H1, (runL step l s0 = .go s ∨ runL step l s0 = .brk s) → Rep s σ1 H1 → tz D σ1 H1
theorem loop_core {f : α → V} {l : List α} {step : S → α → Stp S R} {s0 : S} {Rep : S → L2.St → Hp → Prop} {j : Nat} (hb : BodyOk tu D j f step l s0 Rep) (ho : OutOk tz D step l s0 Rep) {i : Nat} {y : α} {σ1 : L2.St} {H1 : Hp} (hy : l[i]? = some y)
    (p : ∃ s, runL step (l.take i) s0 = .go s ∧ Rep s σ1 H1) : tu { D with nx := fun σ2 H2 => ∃ s, runL step (l.take (i + 1)) s0 = .go s ∧ Rep s σ2 H2, ct := fun σ2 H2 => ∃ s, runL step (l.take (i + 1)) s0 = .go s ∧ Rep s σ2 H2, bk := tz D } (σ1.set j (some (f y))) H1 := by
  obtain ⟨s, hr, hp⟩ := p
  have hn := runL_next hr hy
  exact hb _ _ i s y σ1 H1 hy hr hp (fun s2 σ2 H2 e q => ⟨s2, hn.trans e, q⟩) (fun s2 σ2 H2 e q => ho s2 σ2 H2 (Or.inr (runL_out (hn.trans e) (fun _ z => by cases z))) q) (fun r e => runL_out (hn.trans e) (fun _ z => by cases z))
theorem loop_end {l : List α} {step : S → α → Stp S R} {s0 : S} {Rep : S → L2.St → Hp → Prop} (ho : OutOk tz D step l s0 Rep) {n : Nat} (hn : n = l.length) {σ1 : L2.St} {H1 : Hp} (p : ∃ s, runL step (l.take n) s0 = .go s ∧ Rep s σ1 H1) : tz D σ1 H1 := by
  obtain ⟨s, hr, hp⟩ := p
  rw [hn, List.take_length] at hr
  exact ho s σ1 H1 (Or.inl hr) hp
/-- for x in a list that stands -/
theorem q_loopL {f : α → V} {l : List α} (step : S → α → Stp S R) (s0 : S) (Rep : S → L2.St → Hp → Prop) {j : Nat} {pl : Addr} (h : Ev tl' σ H (.ref pl)) (hS : SqL K H pl (l.map f)) (h0 : ∀ H1, Ex H H1 → Rep s0 σ H1) (hl : ∀ s σ1 H1, Rep s σ1 H1 → SqL K H1 pl (l.map f))
    (hb : BodyOk tu D j f step l s0 Rep) (ho : OutOk tz D step l s0 Rep) : tSeq (tFor (iList K tl') (gName j) tu) tz D σ H :=
  q_forLn h hS (fun i σ1 H1 => ∃ s, runL step (l.take i) s0 = .go s ∧ Rep s σ1 H1) (fun H1 e => ⟨s0, rfl, h0 H1 e⟩) (fun i σ1 H1 _ ⟨s, _, p⟩ => hl s σ1 H1 p) (fun i x σ1 H1 hx p => by
    rw [List.getElem?_map] at hx
    cases hy : l[i]? with
    | none => rw [hy] at hx; cases hx
    | some y =>
      rw [hy] at hx
      have ex : f y = x := Option.some.inj hx
      subst ex
      exact loop_core hb ho hy p) (fun σ1 H1 p => loop_end ho (List.length_map _ ) p)
/-- for x in a new list -/
theorem q_loopN {f : α → V} {l : List α} (step : S → α → Stp S R) (s0 : S) (Rep : Addr → S → L2.St → Hp → Prop) {j : Nat} (h : EvL tl' σ H (l.map f)) (h0 : ∀ p H1, H p = none → Ex H H1 → H1 p = some (.lst (l.map f)) → Rep p s0 σ H1) (hl : ∀ p s σ1 H1, Rep p s σ1 H1 → SqL K H1 p (l.map f))
    (hb : ∀ p, H p = none → BodyOk tu D j f step l s0 (Rep p)) (ho : ∀ p, H p = none → OutOk tz D step l s0 (Rep p)) : tSeq (tFor (iList K tl') (gName j) tu) tz D σ H :=
  q_forNLn h (fun p i σ1 H1 => ∃ s, runL step (l.take i) s0 = .go s ∧ H p = none ∧ Rep p s σ1 H1) (fun p H1 np e hp => ⟨s0, rfl, np, h0 p H1 np e hp⟩) (fun p i σ1 H1 _ ⟨s, _, _, q⟩ => hl p s σ1 H1 q) (fun p i x σ1 H1 hx q => by
    rw [List.getElem?_map] at hx
    cases hy : l[i]? with
    | none => rw [hy] at hx; cases hx
    | some y =>
      rw [hy] at hx
      have ex : f y = x := Option.some.inj hx
      subst ex
      obtain ⟨s, hr, np, hp⟩ := q
      have hn := runL_next hr hy
      exact hb p np _ _ i s y σ1 H1 hy hr hp (fun s2 σ2 H2 e q => ⟨s2, hn.trans e, np, q⟩) (fun s2 σ2 H2 e q => ho p np s2 σ2 H2 (Or.inr (runL_out (hn.trans e) (fun _ z => by cases z))) q) (fun r e => runL_out (hn.trans e) (fun _ z => by cases z))) (fun p σ1 H1 ⟨s, hr, np, q⟩ => loop_end (ho p np) (List.length_map _) ⟨s, hr, q⟩)
/-- for k in range(n) -/
theorem q_loopR {ta' : TA} {n : Int} (step : S → Nat → Stp S R) (s0 : S) (Rep : S → L2.St → Hp → Prop) {j : Nat} (h : EvA ta' σ H [.int n]) (hn : 0 ≤ n ∧ n ≤ 100000) (h0 : ∀ H1, Ex H H1 → Rep s0 σ H1)
    (hb : BodyOk tu D j (fun k : Nat => V.int (k : Int)) step (List.range n.toNat) s0 Rep) (ho : OutOk tz D step (List.range n.toNat) s0 Rep) : tSeq (tFor (iRng1 ta') (gName j) tu) tz D σ H :=
  q_forR1 h hn (fun i σ1 H1 => ∃ s, runL step ((List.range n.toNat).take i) s0 = .go s ∧ Rep s σ1 H1) (fun H1 e => ⟨s0, rfl, h0 H1 e⟩) (fun i σ1 H1 hi p => by
    have hy : (List.range n.toNat)[i]? = some i := by rw [List.getElem?_range (by omega)]
    exact loop_core (f := fun k : Nat => V.int (k : Int)) hb ho hy p) (fun σ1 H1 p => loop_end ho (by rw [List.length_range]) p)
/-- for k in range(a, b) -/
theorem q_loopR2 {ta' : TA} {lo n : Int} (step : S → Nat → Stp S R) (s0 : S) (Rep : S → L2.St → Hp → Prop) {j : Nat} (h : EvA ta' σ H [.int lo, .int n]) (hn : 0 ≤ lo ∧ lo ≤ 100000 ∧ -100000 ≤ n ∧ n ≤ 100000) (h0 : ∀ H1, Ex H H1 → Rep s0 σ H1)
    (hb : BodyOk tu D j (fun k : Nat => V.int (lo + (k : Int))) step (List.range (n - lo).toNat) s0 Rep) (ho : OutOk tz D step (List.range (n - lo).toNat) s0 Rep) : tSeq (tFor (iRng2 ta') (gName j) tu) tz D σ H :=
  q_forR2 h hn (fun i σ1 H1 => ∃ s, runL step ((List.range (n - lo).toNat).take i) s0 = .go s ∧ Rep s σ1 H1) (fun H1 e => ⟨s0, rfl, h0 H1 e⟩) (fun i σ1 H1 hi p => by
    have hy : (List.range (n - lo).toNat)[i]? = some i := by rw [List.getElem?_range (by omega)]
    exact loop_core (f := fun k : Nat => V.int (lo + (k : Int))) hb ho hy p) (fun σ1 H1 p => loop_end ho (by rw [List.length_range]) p)
/-- for c in a text -/
theorem q_loopS {p : Tx} (step : S → Nat → Stp S R) (s0 : S) (Rep : S → L2.St → Hp → Prop) {j : Nat} (h : Ev tl' σ H (vs p)) (h0 : ∀ H1, Ex H H1 → Rep s0 σ H1)
    (hb : BodyOk tu D j (fun c : Nat => vs [c]) step p s0 Rep) (ho : OutOk tz D step p s0 Rep) : tSeq (tFor (iStr tl') (gName j) tu) tz D σ H := h H (Ex.refl H) _ fun H1 e => ⟨mk p, rfl, by
  refine ⟨fun i m σ1 H2 => m = p.length - i ∧ i ≤ p.length ∧ ∃ s, runL step (p.take i) s0 = .go s ∧ Rep s σ1 H2, ⟨p.length, by simp, Nat.zero_le _, s0, rfl, h0 H1 e⟩, fun i m σ1 H2 hW => ?_⟩
  obtain ⟨rfl, hi, q⟩ := hW
  have hsz : (mk p).cps.size = p.length := by show p.toArray.size = _; simp
  by_cases hlt : i < p.length
  · refine Or.inr ⟨by show i < (mk p).cps.size; omega, fun σ2 H3 => ∃ s, runL step (p.take (i + 1)) s0 = .go s ∧ Rep s σ2 H3, fun σ2 H3 h3 => ⟨p.length - (i + 1), by omega, rfl, hlt, h3⟩, fun w H3 hy => ?_⟩
    obtain ⟨rfl, c, hc, rfl⟩ := hy
    have hc2 : p[i]? = some c := by
      have : (mk p).cps[i]? = p[i]? := by show p.toArray[i]? = _; simp
      rw [← this]; exact hc
    exact loop_core (f := fun c : Nat => vs [c]) hb ho hc2 q
  · have ei : i = p.length := by omega
    exact Or.inl ⟨by show (mk p).cps.size ≤ i; omega, loop_end ho ei q⟩⟩
/-! ## what is wanted, along the ways -/
theorem ret_T {β : Type} {f : β → V} {b : Bool} {x y : β} {Q : VK} (k : RetV (f (if b = true then x else y)) H Q) (hb : b = true) : RetV (f x) H Q := by
  rw [if_pos hb] at k
  exact k
theorem ret_F {β : Type} {f : β → V} {b : Bool} {x y : β} {Q : VK} (k : RetV (f (if b = true then x else y)) H Q) (hb : b = false) : RetV (f y) H Q := by
  rw [hb, if_neg Bool.false_ne_true] at k
  exact k
theorem retL_T {β : Type} {f : β → V} {b : Bool} {x y : List β} {Q : VK} (k : RetL ((if b = true then x else y).map f) H Q) (hb : b = true) : RetL (x.map f) H Q := by
  rw [if_pos hb] at k
  exact k
theorem retL_F {β : Type} {f : β → V} {b : Bool} {x y : List β} {Q : VK} (k : RetL ((if b = true then x else y).map f) H Q) (hb : b = false) : RetL (y.map f) H Q := by
  rw [hb, if_neg Bool.false_ne_true] at k
  exact k
theorem ret_run {β : Type} {f : β → V} {o : Stp S β} {g : S → β} {r : β} {Q : VK} (k : RetV (f (aftL o g)) H Q) (h : o = .ret r) : RetV (f r) H Q := by
  rw [h] at k
  exact k
theorem ret_go {β : Type} {f : β → V} {o : Stp S β} {g : S → β} {s : S} {Q : VK} (k : RetV (f (aftL o g)) H Q) (h : o = .go s ∨ o = .brk s) : RetV (f (g s)) H Q := by
  rcases h with h | h
  · rw [h] at k
    exact k
  · rw [h] at k
    exact k
theorem retL_run {β : Type} {f : β → V} {o : Stp S (List β)} {g : S → List β} {r : List β} {Q : VK} (k : RetL ((aftL o g).map f) H Q) (h : o = .ret r) : RetL (r.map f) H Q := by
  rw [h] at k
  exact k
theorem retL_go {β : Type} {f : β → V} {o : Stp S (List β)} {g : S → List β} {s : S} {Q : VK} (k : RetL ((aftL o g).map f) H Q) (h : o = .go s ∨ o = .brk s) : RetL ((g s).map f) H Q := by
  rcases h with h | h
  · rw [h] at k
    exact k
  · rw [h] at k
    exact k
/-! ## own lists that change -/
theorem q_appM {H0 : Hp} {pl : Addr} {f : α → V} {l : List α} {v : α} (e0 : Ex H0 H) (n0 : H0 pl = none) (hl : H pl = some (.lst (l.map f))) (ha : Ev ta σ H (.ref pl)) (h : Ev te σ H (f v)) (hz : l.length < 100000)
    (k : ∀ H1, Ex H0 H1 → H1 pl = some (.lst ((l ++ [v]).map f)) → (∀ q o, q ≠ pl → H q = some o → H1 q = some o) → tz D σ H1) : tSeq (tDrop (tBM K "list" rAppend ta (tCons te tNil))) tz D σ H :=
  q_app hl ha h (by rw [List.length_map]; exact hz) fun H1 e1 => k _ (Ex.mut (e0.trans e1) n0) (by rw [upd_same, List.map_append]; rfl) fun q o hq hh => by
    rw [upd_ne hq]
    exact e1 q o hh
theorem s_appM {H0 : Hp} {pl : Addr} {f : α → V} {l : List α} {v : α} (e0 : Ex H0 H) (n0 : H0 pl = none) (hl : H pl = some (.lst (l.map f))) (ha : Ev ta σ H (.ref pl)) (h : Ev te σ H (f v)) (hz : l.length < 100000)
    (k : ∀ H1, Ex H0 H1 → H1 pl = some (.lst ((l ++ [v]).map f)) → (∀ q o, q ≠ pl → H q = some o → H1 q = some o) → D.nx σ H1) : tDrop (tBM K "list" rAppend ta (tCons te tNil)) D σ H :=
  s_app hl ha h (by rw [List.length_map]; exact hz) fun H1 e1 => k _ (Ex.mut (e0.trans e1) n0) (by rw [upd_same, List.map_append]; rfl) fun q o hq hh => by
    rw [upd_ne hq]
    exact e1 q o hh
theorem ixN_at {n : Nat} {i : Int} {j : Nat} (h : (0 ≤ i ∧ i = j ∨ i < 0 ∧ i + n = j) ∧ j < n) : ixN n i = some j := by
  unfold ixN
  by_cases h0 : 0 ≤ i
  · rw [if_pos h0, if_pos (by omega)]
    congr 1
    omega
  · rw [if_neg h0, if_pos (by omega)]
    congr 1
    omega
theorem s_setM {H0 : Hp} {pl : Addr} {f : α → V} {l : List α} {v : α} {i : Int} (j : Nat) {tb' : TE} (e0 : Ex H0 H) (n0 : H0 pl = none) (hl : H pl = some (.lst (l.map f))) (h : Ev te σ H (f v)) (ha : Ev ta σ H (.ref pl)) (hi : Ev tb' σ H (.int i)) (hj : (0 ≤ i ∧ i = j ∨ i < 0 ∧ i + l.length = j) ∧ j < l.length)
    (k : ∀ H1, Ex H0 H1 → H1 pl = some (.lst ((l.set j v).map f)) → (∀ q o, q ≠ pl → H q = some o → H1 q = some o) → D.nx σ H1) : tAsg te (gSub ta tb' rSetL) D σ H := h H (Ex.refl H) _ fun H1 e1 => ha H1 e1 _ fun H2 e2 => hi H2 (e1.trans e2) _ fun H3 e3 =>
  ⟨pl, l.map f, i, j, rfl, rfl, ((e1.trans e2).trans e3) pl _ hl, ixN_at (by rw [List.length_map]; exact hj), k _ (Ex.mut (e0.trans ((e1.trans e2).trans e3)) n0) (by rw [upd_same, List.map_set]) fun q o hq hh => by
    rw [upd_ne hq]
    exact ((e1.trans e2).trans e3) q o hh⟩
theorem q_setM {H0 : Hp} {pl : Addr} {f : α → V} {l : List α} {v : α} {i : Int} (j : Nat) {tb' : TE} (e0 : Ex H0 H) (n0 : H0 pl = none) (hl : H pl = some (.lst (l.map f))) (h : Ev te σ H (f v)) (ha : Ev ta σ H (.ref pl)) (hi : Ev tb' σ H (.int i)) (hj : (0 ≤ i ∧ i = j ∨ i < 0 ∧ i + l.length = j) ∧ j < l.length)
    (k : ∀ H1, Ex H0 H1 → H1 pl = some (.lst ((l.set j v).map f)) → (∀ q o, q ≠ pl → H q = some o → H1 q = some o) → tz D σ H1) : tSeq (tAsg te (gSub ta tb' rSetL)) tz D σ H := s_setM (D := { D with nx := tz D }) j e0 n0 hl h ha hi hj k
/-! ## more -/
theorem el_is {xs ys : List V} (h : EvL te σ H xs) (e : xs = ys) : EvL te σ H ys := e ▸ h
def aftS {S S2 R : Type} (o : Stp S R) (g : S → Stp S2 R) : Stp S2 R := match o with
  | .go s => g s
  | .brk s => g s
  | .ret r => .ret r
theorem aftS_go {S2 : Type} {o : Stp S R} {g : S → Stp S2 R} {s : S} {q : Stp S2 R} (kq : q = aftS o g) (h : o = .go s ∨ o = .brk s) : q = g s := by
  rcases h with h | h
  · rw [h] at kq
    exact kq
  · rw [h] at kq
    exact kq
theorem aftS_ret {S2 : Type} {o : Stp S R} {g : S → Stp S2 R} {r : R} {q : Stp S2 R} (kq : q = aftS o g) (h : o = .ret r) : q = .ret r := by
  rw [h] at kq
  exact kq
theorem kq_T {β : Type} {b : Bool} {x y q : β} (kq : q = if b = true then x else y) (hb : b = true) : q = x := by
  rw [if_pos hb] at kq
  exact kq
theorem kq_F {β : Type} {b : Bool} {x y q : β} (kq : q = if b = true then x else y) (hb : b = false) : q = y := by
  rw [hb, if_neg Bool.false_ne_true] at kq
  exact kq
/-- if c: x = e -/
theorem set_same {β : Type} : ∀ {l : List (Option β)} {i : Nat} {y : β}, l[i]? = some (some y) → l.set i (some y) = l
  | [], _, _, h => by simp at h
  | a :: r, 0, y, h => by
    have e : a = some y := Option.some.inj h
    rw [e]
    rfl
  | a :: r, i + 1, y, h => by
    show a :: r.set i (some y) = a :: r
    rw [set_same (l := r) (i := i) h]
theorem q_ifSet {i : Nat} {b : Bool} {t : TT} {f : α → V} {x y z : α} (h : EvT t σ H b) (h1 : b = true → Ev te σ H (f x)) (h2 : σ[i]? = some (some (f y))) (hz : (if b = true then x else y) = z) (k : ∀ H1, Ex H H1 → tz D (σ.set i (some (f z))) H1) : tSeq (tIfS t (tAsg te (gName i)) tNext) tz D σ H := by
  subst hz
  exact q_ifAsg h (fun hb => by rw [if_pos hb]; exact h1 hb) (fun hb => by
    rw [hb, if_neg Bool.false_ne_true]
    exact set_same h2) k
theorem s_ifSet {i : Nat} {b : Bool} {t : TT} {f : α → V} {x y z : α} (h : EvT t σ H b) (h1 : b = true → Ev te σ H (f x)) (h2 : σ[i]? = some (some (f y))) (hz : (if b = true then x else y) = z) (k : ∀ H1, Ex H H1 → D.nx (σ.set i (some (f z))) H1) : tIfS t (tAsg te (gName i)) tNext D σ H := by
  subst hz
  exact s_ifAsg h (fun hb => by rw [if_pos hb]; exact h1 hb) (fun hb => by
    rw [hb, if_neg Bool.false_ne_true]
    exact set_same h2) k
theorem e_if {t : TT} {b : Bool} {f : α → V} {x y : α} (h : EvT t σ H b) (h1 : b = true → Ev ta σ H (f x)) (h2 : b = false → Ev tb σ H (f y)) : Ev (tIf t ta tb) σ H (f (if b = true then x else y)) :=
  ev_if h (fun hb => by rw [if_pos hb]; exact h1 hb) (fun hb => by rw [hb, if_neg Bool.false_ne_true]; exact h2 hb)
theorem e_chain {r r' : R2} {tc : TE} {x y z : V} {b c : Bool} (ha : Ev ta σ H x) (hb : Ev tb σ H y) (hc : Ev tc σ H z) (h1 : ∀ H1, Ex H H1 → RV r x y H1 (.bl b)) (h2 : ∀ H1, Ex H H1 → RV r' y z H1 (.bl c)) : Ev (tChain r r' ta tb tc) σ H (.bl (b && c)) := fun H1 e Q q =>
  ha H1 e _ fun H2 e2 => hb H2 (e.trans e2) _ fun H3 e3 => h1 H3 ((e.trans e2).trans e3) H3 (Ex.refl H3) _ fun H4 e4 => ⟨b, rfl, by
    cases b with
    | true => exact hc H4 (((e.trans e2).trans e3).trans e4) _ fun H5 e5 => h2 H5 ((((e.trans e2).trans e3).trans e4).trans e5) H5 (Ex.refl H5) Q fun H6 e6 => q H6 ((((e2.trans e3).trans e4).trans e5).trans e6)
    | false => exact q H4 ((e2.trans e3).trans e4)⟩
theorem e_min2 {i j : Int} (ha : Ev ta σ H (.int i)) (hb : Ev tb σ H (.int j)) : Ev (tCB (fun xs H Q => ∃ i j, xs = [.int i, .int j] ∧ Q (.int (if j < i then j else i)) H) (tCons ta (tCons tb tNil))) σ H (.int (min i j)) := fun H1 e Q q =>
  ha H1 e _ fun H2 e2 => hb H2 (e.trans e2) _ fun H3 e3 => ⟨i, j, rfl, by
    have : (if j < i then j else i) = min i j := by split <;> omega
    rw [this]
    exact q H3 (e2.trans e3)⟩
theorem e_max2 {i j : Int} (ha : Ev ta σ H (.int i)) (hb : Ev tb σ H (.int j)) : Ev (tCB (fun xs H Q => ∃ i j, xs = [.int i, .int j] ∧ Q (.int (if j > i then j else i)) H) (tCons ta (tCons tb tNil))) σ H (.int (max i j)) := fun H1 e Q q =>
  ha H1 e _ fun H2 e2 => hb H2 (e.trans e2) _ fun H3 e3 => ⟨i, j, rfl, by
    have : (if j > i then j else i) = max i j := by split <;> omega
    rw [this]
    exact q H3 (e2.trans e3)⟩
theorem l_mapR2 {α' : Type} {f : α' → V} {ta' : TA} {jx : Nat} {ws : List Nat} {lo n : Int} (g : Nat → α') (h : EvA ta' σ H [.int lo, .int n]) (hn : -100000 ≤ lo ∧ lo ≤ 100000 ∧ -100000 ≤ n ∧ n ≤ 100000 ∧ n - lo ≤ 40000) (he : ∀ k : Nat, lo + (k : Int) < n → Ev te ((wipe σ ws).set jx (some (.int (lo + (k : Int))))) H (f (g k)))
    (hw : ∀ w, wipe ((wipe σ ws).set jx (some w)) ws = wipe σ ws := by exact fun _ => rfl) : EvL (tLc (iRng2 ta') (gName jx) tYes te ws) σ H (((List.range (n - lo).toNat).map g).map f) := fun H0 e0 Q q => h H0 e0 _ fun H1 e1 => ⟨lo, n, rfl, ⟨by omega, by omega, by omega, by omega⟩, fun Dl hD =>
  lc_range (lo := lo) (n := (n - lo).toNat) (Cw H1 (fun _ => true) (fun k => f (g k)) Dl) ⟨hD, Ex.new hD, upd_same⟩ (fun i H2 hi p =>
    ⟨hw _, cw_turn p (by omega) (fun H4 _ Q k => k H4 (Ex.refl H4)) (fun _ => (he i (by omega)).mono (e0.trans e1))⟩) (fun H2 p => by
      have h3 := p.2.2
      rw [given_all] at h3
      exact q Dl H2 (fresh_back e1 p.1) (e1.trans p.2.1) (h3.trans (by rw [List.map_map]; rfl)))⟩
theorem e_ixLast {f : α → V} {l : List α} (d : α) {pl : Addr} (h : Ev ta σ H (.ref pl)) (hS : SqL K H pl (l.map f)) (hb : Ev tb σ H (.int (-1))) (hi : 0 < l.length) : Ev (tOp (rIxL K) ta tb) σ H (f (l.getLastD d)) :=
  ev_op h hb (rv_ixL hS (by
    unfold atI
    rw [ixN_at (j := l.length - 1) (by rw [List.length_map]; omega)]
    show (l.map f)[l.length - 1]? = _
    rw [List.getElem?_map, List.getElem?_eq_getElem (by omega)]
    show some _ = some _
    congr 2
    rw [List.getLastD_eq_getLast?, List.getLast?_eq_getElem?, List.getElem?_eq_getElem (by omega)]
    rfl))
/-- a filter ahead -/
theorem given_filter {β : Type} (f : β → V) (g : α → β) (c : α → Bool) (l : List α) (d : α) : given l.length (fun k => c (l.getD k d)) (fun k => f (g (l.getD k d))) = ((l.filter c).map g).map f := by
  unfold given
  rw [List.map_map]
  have e : l = (List.range l.length).map (fun k => l.getD k d) := by
    apply List.ext_getElem
    · simp
    · intro k h1 h2
      simp only [List.getElem_map, List.getElem_range]
      rw [List.getD_eq_getElem?_getD, List.getElem?_eq_getElem h1]
      rfl
  conv => rhs; rw [e, List.filter_map, List.map_map]
  rfl
theorem l_filL {β : Type} {f : α → V} {f2 : β → V} {l : List α} {pl : Addr} {jx : Nat} {ws : List Nat} {t : TT} (c : α → Bool) (g : α → β) (d : α) (h : Ev tl' σ H (.ref pl)) (hS : SqL K H pl (l.map f)) (hz : l.length ≤ 40000)
    (ht : ∀ y ∈ l, EvT t ((wipe σ ws).set jx (some (f y))) H (c y)) (he : ∀ y ∈ l, c y = true → Ev te ((wipe σ ws).set jx (some (f y))) H (f2 (g y))) (hw : ∀ w, wipe ((wipe σ ws).set jx (some w)) ws = wipe σ ws := by exact fun _ => rfl) :
    EvL (tLc (iList K tl') (gName jx) t te ws) σ H (((l.filter c).map g).map f2) := by
  have q := el_lcL (t := t) (te := te) (fun k => c (l.getD k d)) (fun k => f2 (g (l.getD k d))) h hS (by rw [List.length_map]; exact hz) hw (fun k w H1 e hk => by
    obtain ⟨hm, ew⟩ := map_at d hk
    rw [ew]
    exact (ht _ hm).mono e) (fun k w H1 e hk hc => by
    obtain ⟨hm, ew⟩ := map_at d hk
    rw [ew]
    exact (he _ hm hc).mono e)
  rw [List.length_map, given_filter] at q
  exact q
theorem paired_self {E : V → V → Prop} : ∀ {l : List V}, (∀ y ∈ l, E y y) → Paired E l l
  | [], _ => .nil
  | _ :: r, h => .cons (h _ List.mem_cons_self) (paired_self fun y hy => h y (List.mem_cons_of_mem _ hy))
/-- two new lists that are equal -/
theorem e_eqLL {f : α → V} {l l2 : List α} (hf : ∀ y, flatB (f y) = true) (ha : EvL ta σ H (l.map f)) (hb : EvL tb σ H (l2.map f)) (h : l = l2) : Ev (tOp (rEqV K) ta tb) σ H (.bl true) :=
  ev_opLL ha hb fun p q H1 hp hq _ => fun H2 e2 Q k => ⟨1, by decide, Or.inl ⟨p, q, _, _, rfl, rfl, sq_of (e2 p _ hp), sq_of (e2 q _ hq), by
    rw [← h]
    exact paired_self fun y hy => by
      obtain ⟨z, _, rfl⟩ := List.mem_map.mp hy
      exact Or.inl ⟨rfl, hf z⟩⟩, k H2 (Ex.refl H2)⟩
/-! ## a text many times -/
def rep (p : Tx) (n : Int) : Tx := (List.replicate n.toNat p).flatten
def rMulT : R2 := fun x y H Q => ∃ i n, x = .str i ∧ y = .int n ∧ MulOk i n ∧ Q (.str (Txt.mul i n)) H
theorem op_mulT {X : Cx} : OpR X (binaryOp .Mult) rMulT := by
  intro pins s σ H x y v u Q I rx ry h
  obtain ⟨i, n, rfl, rfl, hok, q⟩ := h
  obtain ⟨t, rfl⟩ := rx
  obtain ⟨t', rfl⟩ := ry
  exact SB.mul hok fun t' tk => ⟨.str (Txt.mul i n), H, I.tok _, ⟨_, rfl⟩, q⟩
theorem fold_tl : ∀ (k : Nat) (a p : Array Nat), ((List.replicate k p).foldl (· ++ ·) a).toList = a.toList ++ (List.replicate k p.toList).flatten
  | 0, a, p => by simp
  | k + 1, a, p => by
    rw [List.replicate_succ, List.foldl_cons, fold_tl k, List.replicate_succ, List.flatten_cons, Array.toList_append, List.append_assoc]
theorem mul_of (p : Tx) (n : Int) : Txt.mul (mk p) n = mk (rep p n) := by
  unfold Txt.mul rep
  by_cases h : n < 1
  · rw [if_pos h, show n.toNat = 0 by omega]
    rfl
  · rw [if_neg h]
    by_cases h2 : (n == 1 || (mk p).length == 0) = true
    · rw [if_pos h2]
      rcases Bool.or_eq_true_iff.mp h2 with h3 | h3
      · have : n = 1 := by simpa using h3
        subst this
        show mk p = mk ((List.replicate 1 p).flatten)
        simp
      · rw [len_of] at h3
        have : p = [] := List.length_eq_zero_iff.mp (by simpa using h3)
        subst this
        simp
    · rw [if_neg h2]
      exact ext_tl (by
        rw [tl_of]
        show ((List.replicate n.toNat (mk p).cps).foldl (· ++ ·) #[]).toList = _
        rw [fold_tl]
        rfl)
theorem mulok {p : Tx} {n : Int} (h : n ≤ 4096 ∧ p.length ≤ 4096 ∧ -4096 ≤ n) : MulOk (mk p) n := by
  have e : (mk p).length = p.length := len_of p
  refine ⟨by simp only [Bool.or_eq_false_iff, decide_eq_false_iff_not]; omega, fun h1 _ => ?_, fun h1 _ => ?_⟩
  · rw [e]
    have h5 : ((2 : Int) ^ 63 - 1) / 4096 ≤ (2 ^ 63 - 1) / n := by
      apply Int.le_ediv_of_mul_le (by omega)
      have : ((2 : Int) ^ 63 - 1) / 4096 * n ≤ ((2 : Int) ^ 63 - 1) / 4096 * 4096 := Int.mul_le_mul_of_nonneg_left h.1 (by decide)
      exact Int.le_trans this (by decide)
    have h6 : (4096 : Int) ≤ (2 ^ 63 - 1) / 4096 := by decide
    omega
  · rw [e]
    have h5 : p.length * n.toNat ≤ 4096 * 4096 := Nat.mul_le_mul h.2.1 (by omega)
    unfold Builtin.Str.tooLong
    simp only [decide_eq_false_iff_not]
    have : sizeLine = 16777216 := rfl
    omega
theorem e_mulT {p : Tx} {n : Int} (ha : Ev ta σ H (vs p)) (hb : Ev tb σ H (.int n)) (h : n ≤ 4096 ∧ p.length ≤ 4096 ∧ -4096 ≤ n) : Ev (tOp rMulT ta tb) σ H (vs (rep p n)) :=
  ev_op ha hb fun H1 _ Q k => ⟨mk p, n, rfl, rfl, mulok h, by rw [mul_of]; exact k H1 (Ex.refl H1)⟩
/-- the state behind a loop that nothing leaves by return -/
def outL [Inhabited S] : Stp S Unit → S
  | .go s => s
  | .brk s => s
  | .ret _ => default
theorem outL_of [Inhabited S] {o : Stp S Unit} {s : S} (h : o = .go s ∨ o = .brk s) : s = outL o := by
  rcases h with h | h
  · rw [h]
    rfl
  · rw [h]
    rfl
end
/-! ## rules whose answer hangs on the written part, with it named -/
section
variable {X : Cx}
theorem sl_listK (K : PySem.W.Frag) (h : X.K = K := by rfl) : SlR X (rSlL K) := h ▸ sl_list
theorem ix_listK (K : PySem.W.Frag) (h : X.K = K := by rfl) : IxR X (rIxL K) := h ▸ ix_list
theorem op_inK (K : PySem.W.Frag) (h : X.K = K := by rfl) : OpR X (compareOp .In) (rIn K false) := h ▸ op_in_seq
theorem call_lenK (K : PySem.W.Frag) (h : X.K = K := by rfl) : CallR X (.builtin "len") (rLenS K) := h ▸ call_lenQ
theorem cr_allK (K : PySem.W.Frag) (hc : X.calm = true) (h : X.K = K := by rfl) : CallR X (.builtin "all") (rAll K) := h ▸ cr_all hc
theorem call_isiK' (K : PySem.W.Frag) (h : X.K = K := by rfl) : CallR X (.builtin "isinstance") (rIsi K) := h ▸ call_isi
theorem op_eqVK (K : PySem.W.Frag) (hu : X.A.units + 64 < cLine) (h : X.K = K := by rfl) : OpR X (compareOp .Eq) (rEqV K) := h ▸ op_eqV hu
theorem pi_listK (K : PySem.W.Frag) {tg l : Expr} {tl' : TE} (hl : PE X l tl') (h : X.K = K := by rfl) : PI X tg l (iList K tl') := h ▸ pi_list hl
theorem pe_joinK (K : PySem.W.Frag) {o e : Expr} {to te : TE} {apos pos : Pos} (ho : PE X o to) (he : PE X e te) (h : X.K = K := by rfl) (hs : starEach [e] X.env = [(false, eval e X.env)] := by rfl) (hbase : attributeBase o "join" X.env (eval o X.env) = eval o X.env := by rfl) (hline : (apos.endLine == pos.line) = true := by rfl) :
    PE X (.Call (.Attribute o "join" apos) [e] [] pos) (tM1 (rJoinT K) to te) := h ▸ pe_joinT ho he hs hbase hline
end
/-! ## texts and their parts -/
theorem cuts_nil (c : Nat) : cuts c [] = [[]] := rfl
theorem spl_acc (c : Nat) : ∀ (l acc : Tx), spl [c] 0 acc l = match spl [c] 0 [] l with | [] => [] | p :: r => (acc ++ p) :: r
  | [], acc => by rw [spl_nil, spl_nil]; simp
  | d :: r, acc => by
    by_cases h : d = c
    · subst h
      have hp : pre [d] (d :: r) = true := by simp [pre]
      rw [spl_hit hp, spl_hit hp]
      simp
    · have hp : pre [c] (d :: r) = false := pre_of_head [] r h
      rw [spl_miss hp, spl_miss hp, spl_acc c r (acc ++ [d]), spl_acc c r ([] ++ [d])]
      cases spl [c] 0 [] r with
      | nil => rfl
      | cons p q => simp
theorem cuts_hit (c : Nat) (r : Tx) : cuts c (c :: r) = [] :: cuts c r := by
  have hp : pre [c] (c :: r) = true := by simp [pre]
  exact spl_hit hp
theorem cuts_miss {c d : Nat} (h : d ≠ c) (r : Tx) : cuts c (d :: r) = match cuts c r with | [] => [] | p :: q => (d :: p) :: q := by
  have hp : pre [c] (d :: r) = false := pre_of_head [] r h
  show spl [c] 0 [] (d :: r) = _
  rw [spl_miss hp, spl_acc]
  rfl
theorem cuts_ne (c : Nat) : ∀ l : Tx, cuts c l ≠ []
  | [] => by rw [cuts_nil]; simp
  | d :: r => by
    by_cases h : d = c
    · subst h
      rw [cuts_hit]
      simp
    · rw [cuts_miss h]
      have := cuts_ne c r
      cases e : cuts c r with
      | nil => exact absurd e this
      | cons p q => simp
theorem cuts_len (c : Nat) : ∀ l : Tx, (cuts c l).length ≤ l.length + 1
  | [] => by rw [cuts_nil]; simp
  | d :: r => by
    have ih := cuts_len c r
    by_cases h : d = c
    · subst h
      rw [cuts_hit]
      simp only [List.length_cons]
      omega
    · rw [cuts_miss h]
      cases e : cuts c r with
      | nil => simp
      | cons p q =>
        rw [e] at ih
        simp only [List.length_cons] at ih ⊢
        omega
theorem cuts_free (c : Nat) : ∀ (l : Tx), ∀ p ∈ cuts c l, c ∉ p
  | [], p, h => by
    rw [cuts_nil] at h
    rw [List.mem_singleton.mp h]
    simp
  | d :: r, p, h => by
    have ih := cuts_free c r
    by_cases e : d = c
    · subst e
      rw [cuts_hit] at h
      rcases List.mem_cons.mp h with z | z
      · rw [z]; simp
      · exact ih p z
    · rw [cuts_miss e] at h
      cases ec : cuts c r with
      | nil => exact absurd ec (cuts_ne c r)
      | cons q s =>
        rw [ec] at h ih
        rcases List.mem_cons.mp h with z | z
        · rw [z]
          intro m
          rcases List.mem_cons.mp m with y | y
          · exact e y.symm
          · exact ih q List.mem_cons_self y
        · exact ih p (List.mem_cons_of_mem _ z)
theorem sumLen_cons (p : Tx) (l : List Tx) : sumLen (p :: l) = p.length + sumLen l := by
  unfold sumLen
  rw [List.map_cons, List.sum_cons]
theorem sumLen_nil : sumLen [] = 0 := rfl
theorem sumLen_app (l m : List Tx) : sumLen (l ++ m) = sumLen l + sumLen m := by
  unfold sumLen
  rw [List.map_append, List.sum_append]
theorem cuts_sum (c : Nat) : ∀ l : Tx, sumLen (cuts c l) ≤ l.length
  | [] => by rw [cuts_nil]; decide
  | d :: r => by
    have ih := cuts_sum c r
    by_cases h : d = c
    · subst h
      rw [cuts_hit, sumLen_cons]
      simp only [List.length_cons, List.length_nil]
      omega
    · rw [cuts_miss h]
      cases e : cuts c r with
      | nil => simp [sumLen_nil]
      | cons p q =>
        rw [e, sumLen_cons] at ih
        show sumLen ((d :: p) :: q) ≤ _
        rw [sumLen_cons]
        simp only [List.length_cons]
        omega
theorem sumLen_mem : ∀ {l : List Tx} {k : Tx}, k ∈ l → k.length ≤ sumLen l
  | [], k, h => by cases h
  | p :: r, k, h => by
    rw [sumLen_cons]
    rcases List.mem_cons.mp h with e | e
    · subst e
      omega
    · have := sumLen_mem e
      omega
theorem cuts_mem (c : Nat) {l k : Tx} (h : k ∈ cuts c l) : k.length ≤ l.length := Nat.le_trans (sumLen_mem h) (cuts_sum c l)
theorem sumLen_take : ∀ (l : List Tx) (n : Nat), sumLen (l.take n) ≤ sumLen l
  | [], n => by simp
  | p :: r, 0 => by rw [List.take_zero, sumLen_nil]; omega
  | p :: r, n + 1 => by
    rw [List.take_succ_cons, sumLen_cons, sumLen_cons]
    have := sumLen_take r n
    omega
theorem sumLen_drop : ∀ (l : List Tx) (n : Nat), sumLen (l.drop n) ≤ sumLen l
  | [], n => by simp
  | p :: r, 0 => by rw [List.drop_zero]; omega
  | p :: r, n + 1 => by
    rw [List.drop_succ_cons, sumLen_cons]
    have := sumLen_drop r n
    omega
theorem cut_sum (l : List Tx) (a b : Option Int) : sumLen (cutG l a b) ≤ sumLen l := Nat.le_trans (sumLen_take _ _) (sumLen_drop _ _)
theorem cut_len {α : Type} (l : List α) (a b : Option Int) : (cutG l a b).length ≤ l.length := by
  unfold cutG
  rw [List.length_take, List.length_drop]
  omega
theorem joinL_len (s : Tx) : ∀ l : List Tx, (joinL s l).length ≤ sumLen l + l.length * s.length
  | [] => by simp [joinL]
  | [p] => by simp [joinL, sumLen]
  | p :: q :: r => by
    have ih := joinL_len s (q :: r)
    show (p ++ (s ++ joinL s (q :: r))).length ≤ _
    rw [sumLen_cons, List.length_append, List.length_append, List.length_cons, Nat.succ_mul]
    omega
theorem getD_le {l : List Tx} {n : Nat} (h : ∀ p ∈ l, p.length ≤ n) (i : Nat) : (l.getD i []).length ≤ n := by
  rw [List.getD_eq_getElem?_getD]
  cases e : l[i]? with
  | none => simp
  | some p => exact h p (List.mem_of_getElem? e)
end Vf

/-! Own layer, further: dicts with texts as keys, what is read while a thing is locked, own things that change. -/
namespace Vf
open PySem PySem.Spec PyProof.Rows L2 TL Evl

/-! ## the data of a dict -/
section
variable {α β : Type}
def ky (k : Tx) : Key := Sum.inr (mk k)
theorem ky_inj {a b : Tx} (h : ky a = ky b) : a = b := mk_inj (Sum.inr.inj h)
def kd (f : α → V) (l : List (Tx × α)) : List (Key × V) := l.map fun p => (ky p.1, f p.2)
def dget (l : List (Tx × α)) (k : Tx) : Option α := (l.find? fun p => decide (p.1 = k)).map (·.2)
def dput (l : List (Tx × α)) (k : Tx) (v : α) : List (Tx × α) := if (l.any fun p => decide (p.1 = k)) = true then l.map (fun p => if p.1 = k then (p.1, v) else p) else l ++ [(k, v)]
def ddel (l : List (Tx × α)) (k : Tx) : List (Tx × α) := l.filter fun p => decide (p.1 ≠ k)
def dkeys (l : List (Tx × α)) : List Tx := l.map (·.1)
theorem dec_ky (a b : Tx) : decide (ky a = ky b) = decide (a = b) := by
  by_cases h : a = b
  · subst h
    rw [decide_eq_true rfl, decide_eq_true rfl]
  · rw [decide_eq_false h, decide_eq_false (fun e => h (ky_inj e))]
theorem kd_len (f : α → V) (l : List (Tx × α)) : (kd f l).length = l.length := List.length_map _
theorem kd_get (f : α → V) (k : Tx) : ∀ l : List (Tx × α), valV (kd f l) (ky k) = (dget l k).map f
  | [] => rfl
  | p :: r => by
    have ih := kd_get f k r
    unfold valV dget kd at ih ⊢
    rw [List.map_cons, List.find?_cons, List.find?_cons]
    show (match decide (ky p.1 = ky k) with | true => some _ | false => _ : Option (Key × V)).map _ = _
    rw [dec_ky]
    cases decide (p.1 = k) with
    | true => rfl
    | false => exact ih
theorem kd_put (f : α → V) (l : List (Tx × α)) (k : Tx) (v : α) : putK (kd f l) (ky k) (f v) = kd f (dput l k v) := by
  have e : ((kd f l).any fun kv => decide (kv.1 = ky k)) = l.any fun p => decide (p.1 = k) := by
    unfold kd
    rw [List.any_map]
    congr 1
    funext p
    exact dec_ky p.1 k
  unfold putK dput
  rw [e]
  by_cases h : (l.any fun p => decide (p.1 = k)) = true
  · rw [if_pos h, if_pos h]
    unfold kd
    rw [List.map_map, List.map_map]
    apply List.map_congr_left
    intro p _
    show (if ky p.1 = ky k then (ky p.1, f v) else (ky p.1, f p.2)) = (ky (if p.1 = k then (p.1, v) else p).1, f (if p.1 = k then (p.1, v) else p).2)
    by_cases h2 : p.1 = k
    · rw [if_pos h2, if_pos (congrArg ky h2)]
    · rw [if_neg h2, if_neg (fun z => h2 (ky_inj z))]
  · rw [if_neg h, if_neg h]
    unfold kd
    rw [List.map_append]
    rfl
theorem kd_del (f : α → V) (l : List (Tx × α)) (k : Tx) : dropK (kd f l) (ky k) = kd f (ddel l k) := by
  unfold dropK ddel kd
  rw [List.filter_map]
  congr 1
  apply List.filter_congr
  intro p _
  show decide (ky p.1 ≠ ky k) = decide (p.1 ≠ k)
  by_cases h : p.1 = k
  · rw [decide_eq_false (fun z => z (congrArg ky h)), decide_eq_false (fun z => z h)]
  · exact (decide_eq_true (p := ky p.1 ≠ ky k) (fun z => h (ky_inj z))).trans (decide_eq_true (p := p.1 ≠ k) h).symm
theorem kd_keys (f : α → V) (l : List (Tx × α)) : ((kd f l).map fun kv => kV kv.1) = (dkeys l).map vs := by
  unfold kd dkeys
  rw [List.map_map, List.map_map]
  rfl
def dhas (l : List (Tx × α)) (k : Tx) : Bool := (dget l k).isSome
end

/-! ## what is read goes on to be read -/
def RX (H H2 : Hp) : Prop := ∀ a u, Rd H a u → Rd H2 a u
theorem RX.refl (H : Hp) : RX H H := fun _ _ h => h
theorem RX.trans {H H1 H2 : Hp} (a : RX H H1) (b : RX H1 H2) : RX H H2 := fun x u h => b x u (a x u h)
theorem rx_of {H H2 : Hp} (e : Ex H H2) : RX H H2 := fun _ _ h => ex_rd e h
theorem rx_l {K : PySem.W.Frag} {H H2 : Hp} {a : Addr} {xs : List V} (r : RX H H2) (h : SqL K H a xs) : SqL K H2 a xs := by
  rcases h with h | h
  · exact Or.inl (r a _ h)
  · exact Or.inr h
theorem rx_t {K : PySem.W.Frag} {H H2 : Hp} {a : Addr} {xs : List V} (r : RX H H2) (h : SqT K H a xs) : SqT K H2 a xs := by
  rcases h with h | h
  · exact Or.inl (r a _ h)
  · exact Or.inr h
/-- the locked things as they stood before -/
def unl (ls : List (Addr × HO)) (H : Hp) : Hp := ls.foldl (fun H p => upd H p.1 p.2) H
theorem ex_upd {H H2 : Hp} {a : Addr} {o : HO} (e : Ex H H2) : Ex (upd H a o) (upd H2 a o) := fun b u h => by
  by_cases hb : b = a
  · subst hb
    rw [upd_same] at h ⊢
    exact h
  · rw [upd_ne hb] at h ⊢
    exact e b u h
theorem unl_ex : ∀ {ls : List (Addr × HO)} {H H2 : Hp}, Ex H H2 → Ex (unl ls H) (unl ls H2)
  | [], _, _, e => e
  | p :: r, _, _, e => unl_ex (ls := r) (ex_upd e)
theorem unl_grow {ls : List (Addr × HO)} {H0 H H2 : Hp} (e : Ex H0 (unl ls H)) (e2 : Ex H H2) : Ex H0 (unl ls H2) := e.trans (unl_ex e2)
theorem upd_keep {H : Hp} {a b : Addr} {o u : HO} (hne : b ≠ a) (h : H b = some o) : upd H a u b = some o := by
  rw [upd_ne hne]
  exact h
theorem upd_self {H : Hp} {a : Addr} {o : HO} (h : H a = some o) : upd H a o = H := by
  funext b
  by_cases hb : b = a
  · subst hb
    rw [upd_same, h]
  · rw [upd_ne hb]
/-- an own thing at p has become X, behind whatever was made ahead of that -/
def Mu (H : Hp) (p : Addr) (X : HO) (H1 : Hp) : Prop := ∃ H2, Ex H H2 ∧ H1 = upd H2 p X
theorem Mu.at {H H1 : Hp} {p : Addr} {X : HO} (m : Mu H p X H1) : H1 p = some X := by
  obtain ⟨H2, _, rfl⟩ := m
  exact upd_same
theorem Mu.keep {H H1 : Hp} {p : Addr} {X : HO} (m : Mu H p X H1) {q : Addr} {o : HO} (hne : q ≠ p) (h : H q = some o) : H1 q = some o := by
  obtain ⟨H2, e, rfl⟩ := m
  exact upd_keep hne (e q o h)
theorem Mu.ex {H0 H H1 : Hp} {p : Addr} {X : HO} (m : Mu H p X H1) (e : Ex H0 H) (n : H0 p = none) : Ex H0 H1 := by
  obtain ⟨H2, e2, rfl⟩ := m
  exact Ex.mut (e.trans e2) n
theorem Mu.rx {H0 H H1 : Hp} {p : Addr} {X : HO} (m : Mu H p X H1) (r : RX H0 H) (n : H0 p = none) : RX H0 H1 := by
  obtain ⟨H2, e2, rfl⟩ := m
  intro a u h
  have ha : a ≠ p := fun z => by
    subst z
    rcases h with h | ⟨o, h⟩ <;> (rw [n] at h; cases h)
  rcases ex_rd e2 (r a u h) with h2 | ⟨o, h2⟩
  · exact Or.inl (upd_keep ha h2)
  · exact Or.inr ⟨o, upd_keep ha h2⟩
theorem ex_updn {H0 H : Hp} {p : Addr} {X : HO} (e : Ex H0 H) (n : H0 p = none) : Ex H0 (upd H p X) := Ex.mut e n
theorem unl_upd : ∀ {ls : List (Addr × HO)} {H0 H : Hp} {p : Addr} {X : HO}, H0 p = none → Ex H0 (unl ls H) → Ex H0 (unl ls (upd H p X))
  | [], _, _, _, _, n, e => Ex.mut e n
  | q :: r, H0, H, p, X, n, e => by
    show Ex H0 (unl r (upd (upd H p X) q.1 q.2))
    by_cases h : p = q.1
    · subst h
      rw [upd_upd]
      exact e
    · have e2 : upd (upd H p X) q.1 q.2 = upd (upd H q.1 q.2) p X := by
        funext b
        unfold upd
        by_cases h1 : b = q.1
        · subst h1
          rw [if_pos rfl, if_neg (fun z => h z.symm), if_pos rfl]
        · rw [if_neg h1]
          by_cases h2 : b = p
          · rw [if_pos h2, if_pos h2]
          · rw [if_neg h2, if_neg h2, if_neg h1]
      rw [e2]
      exact unl_upd n e
theorem Mu.unl {ls : List (Addr × HO)} {H0 H H1 : Hp} {p : Addr} {X : HO} (m : Mu H p X H1) (e : Ex H0 (unl ls H)) (n : H0 p = none) : Ex H0 (unl ls H1) := by
  obtain ⟨H2, e2, rfl⟩ := m
  exact unl_upd n (unl_grow e e2)
theorem rx_lock {H0 H : Hp} {d : Addr} {kvs : List (Key × V)} {o : Obj} (r : RX H0 H) (hd : H d = some (.dK kvs)) : RX H0 (upd H d (.frz o (.dK kvs))) := fun a u h => by
  have h2 := r a u h
  by_cases ha : a = d
  · subst ha
    have e : u = .dK kvs := by
      rcases h2 with z | ⟨_, z⟩
      · rw [hd] at z
        exact (Option.some.inj z).symm
      · rw [hd] at z
        cases z
    subst e
    exact Or.inr ⟨o, upd_same⟩
  · rcases h2 with z | ⟨q, z⟩
    · exact Or.inl (upd_keep ha z)
    · exact Or.inr ⟨q, upd_keep ha z⟩

section
variable {K : PySem.W.Frag} {σ : L2.St} {H H' : Hp} {ta tb te td : TE} {D : Ends} {tu tw tz : TS} {α S R : Type} {d : Addr} {k : Tx} {f : α → V} {l : List (Tx × α)}
/-! ## reading a dict -/
theorem dg_of (h : Rd H d (.dK (kd f l))) (k : Tx) : DGet H d (vs k) ((dget l k).map f) := Or.inl ⟨kd f l, ky k, h, rfl, (kd_get f k l).symm⟩
theorem e_inD (hk : Ev ta σ H (vs k)) (hd : Ev td σ H (.ref d)) (h : Rd H d (.dK (kd f l))) : Ev (tDIn ta td) σ H (.bl (dhas l k)) := fun H1 e Q q =>
  hk H1 e _ fun H2 e2 => hd H2 (e.trans e2) _ fun H3 e3 => ⟨d, _, rfl, dg_of (ex_rd ((e.trans e2).trans e3) h) k, by
    have : ((dget l k).map f).isSome = dhas l k := Option.isSome_map
    rw [this]
    exact q H3 (e2.trans e3)⟩
theorem e_niD (hk : Ev ta σ H (vs k)) (hd : Ev td σ H (.ref d)) (h : Rd H d (.dK (kd f l))) : Ev (tDNotIn ta td) σ H (.bl (!dhas l k)) := fun H1 e Q q =>
  hk H1 e _ fun H2 e2 => hd H2 (e.trans e2) _ fun H3 e3 => ⟨d, _, rfl, dg_of (ex_rd ((e.trans e2).trans e3) h) k, by
    have : ((dget l k).map f).isSome = dhas l k := Option.isSome_map
    rw [this]
    exact q H3 (e2.trans e3)⟩
theorem e_getD (dv : α) (hd : Ev td σ H (.ref d)) (hk : Ev ta σ H (vs k)) (h : Rd H d (.dK (kd f l))) (hh : dhas l k = true) : Ev (tDGet td ta) σ H (f ((dget l k).getD dv)) := fun H1 e Q q =>
  hd H1 e _ fun H2 e2 => hk H2 (e.trans e2) _ fun H3 e3 => ⟨d, _, rfl, by
    have g := dg_of (ex_rd ((e.trans e2).trans e3) h) k
    obtain ⟨v, hv⟩ := Option.isSome_iff_exists.mp (show (dget l k).isSome = true from hh)
    rw [hv] at g ⊢
    exact g, q H3 (e2.trans e3)⟩
/-- a text or nothing -/
def vo : Option Tx → V
  | none => .non
  | some t => vs t
theorem e_get1 {l : List (Tx × Tx)} (hd : Ev td σ H (.ref d)) (hk : Ev ta σ H (vs k)) (h : Rd H d (.dK (kd vs l))) : Ev (tDGet1 td ta) σ H (vo (dget l k)) := fun H1 e Q q =>
  hd H1 e _ fun H2 e2 => ⟨d, rfl, Or.inl ⟨_, ex_rd (e.trans e2) h⟩, hk H2 (e.trans e2) _ fun H3 e3 => ⟨_, dg_of (ex_rd ((e.trans e2).trans e3) h) k, by
    have : ((dget l k).map vs).getD .non = vo (dget l k) := by cases dget l k <;> rfl
    rw [this]
    exact q H3 (e2.trans e3)⟩⟩
def rLenD : List V → Hp → VK → Prop := fun xs H Q => ∃ a kvs, xs = [V.ref a] ∧ Rd H a (.dK kvs) ∧ Q (.int kvs.length) H
theorem e_lenD (hd : Ev td σ H (.ref d)) (h : H d = some (.dK (kd f l))) : Ev (tCB (fun xs H Q => ∃ a kvs, xs = [V.ref a] ∧ H a = some (.dK kvs) ∧ Q (.int kvs.length) H) (tCons td tNil)) σ H (.int (l.length : Int)) :=
  ev_cb (ea_cons hd ea_nil) fun H1 e Q q => ⟨d, _, rfl, e d _ h, by rw [kd_len]; exact q H1 (Ex.refl H1)⟩
theorem l_keysD (hd : Ev td σ H (.ref d)) (h : Rd H d (.dK (kd f l))) : EvL (tCB (fun xs H Q => ∃ (a : Addr) (kvs : List (Key × V)), xs = [.ref a] ∧ Rd H a (.dK kvs) ∧ ∀ p, H p = none → Q (.ref p) (upd H p (.lst (kvs.map fun kv => kV kv.1)))) (tCons td tNil)) σ H ((dkeys l).map vs) := fun H1 e Q q =>
  hd H1 e _ fun H2 e2 => ⟨d, _, rfl, ex_rd (e.trans e2) h, fun p np => q p _ (fresh_back e2 np) (e2.trans (Ex.new np)) (by rw [upd_same, kd_keys])⟩
/-- a new dict -/
def EvK (te : TE) (σ : L2.St) (H : Hp) (kvs : List (Key × V)) : Prop := ∀ H1, Ex H H1 → ∀ Q : VK, (∀ p H2, H1 p = none → Ex H1 H2 → H2 p = some (.dK kvs) → Q (.ref p) H2) → te σ H1 Q
theorem ek_is {a b : List (Key × V)} (h : EvK te σ H a) (e : a = b) : EvK te σ H b := e ▸ h
theorem k_new : EvK tDNewK σ H [] := fun H1 _ Q q p np => q p _ np (Ex.new np) upd_same
theorem k_copy (hd : Ev td σ H (.ref d)) (h : Rd H d (.dK (kd f l))) : EvK (tCB (fun xs H Q => ∃ (a : Addr) (kvs : List (Key × V)), xs = [.ref a] ∧ Rd H a (.dK kvs) ∧ ∀ p, H p = none → Q (.ref p) (upd H p (.dK kvs))) (tCons td tNil)) σ H (kd f l) := fun H1 e Q q =>
  hd H1 e _ fun H2 e2 => ⟨d, _, rfl, ex_rd (e.trans e2) h, fun p np => q p _ (fresh_back e2 np) (e2.trans (Ex.new np)) upd_same⟩
theorem s_asgK {i : Nat} {kvs : List (Key × V)} (h : EvK te σ H kvs) (k : ∀ p H1, H p = none → Ex H H1 → H1 p = some (.dK kvs) → D.nx (σ.set i (some (.ref p))) H1) : tAsg te (gName i) D σ H := h H (Ex.refl H) _ fun p H1 hp e h1 => k p H1 hp e h1
theorem q_asgK {i : Nat} {kvs : List (Key × V)} (h : EvK te σ H kvs) (k : ∀ p H1, H p = none → Ex H H1 → H1 p = some (.dK kvs) → tz D (σ.set i (some (.ref p))) H1) : tSeq (tAsg te (gName i)) tz D σ H := s_asgK (D := { D with nx := tz D }) h k
theorem s_retK {kvs : List (Key × V)} (h : EvK te σ H kvs) (k : ∀ p H1, H p = none → Ex H H1 → H1 p = some (.dK kvs) → D.rt (.ref p) H1) : tRet te D σ H := h H (Ex.refl H) _ k
/-! ## writing own things -/
theorem s_putD {v : α} (hv : Ev te σ H (f v)) (hd : Ev td σ H (.ref d)) (hk : Ev ta σ H (vs k)) (h : H d = some (.dK (kd f l))) (hz : l.length < 100000) (q : ∀ H1, Mu H d (.dK (kd f (dput l k v))) H1 → D.nx σ H1) : sDPut td ta te D σ H :=
  hv H (Ex.refl H) _ fun H1 e1 => hd H1 e1 _ fun H2 e2 => hk H2 (e1.trans e2) _ fun H3 e3 =>
    ⟨d, upd H3 d (.dK (kd f (dput l k v))), rfl, Or.inl ⟨kd f l, ky k, ((e1.trans e2).trans e3) d _ h, rfl, sz_lt (by rw [kd_len]; exact hz), by rw [kd_put]⟩, q _ ⟨H3, (e1.trans e2).trans e3, rfl⟩⟩
theorem q_putD {v : α} (hv : Ev te σ H (f v)) (hd : Ev td σ H (.ref d)) (hk : Ev ta σ H (vs k)) (h : H d = some (.dK (kd f l))) (hz : l.length < 100000) (q : ∀ H1, Mu H d (.dK (kd f (dput l k v))) H1 → tz D σ H1) : tSeq (sDPut td ta te) tz D σ H :=
  s_putD (D := { D with nx := tz D }) hv hd hk h hz q
theorem s_delD (hd : Ev td σ H (.ref d)) (hk : Ev ta σ H (vs k)) (h : H d = some (.dK (kd f l))) (hh : dhas l k = true) (q : ∀ H1, Mu H d (.dK (kd f (ddel l k))) H1 → D.nx σ H1) : sDDel td ta D σ H :=
  hd H (Ex.refl H) _ fun H1 e1 => hk H1 e1 _ fun H2 e2 => ⟨d, kd f l, ky k, rfl, (e1.trans e2) d _ h, rfl, by rw [kd_get, Option.isSome_map]; exact hh, q _ ⟨H2, e1.trans e2, by rw [kd_del]⟩⟩
theorem q_delD (hd : Ev td σ H (.ref d)) (hk : Ev ta σ H (vs k)) (h : H d = some (.dK (kd f l))) (hh : dhas l k = true) (q : ∀ H1, Mu H d (.dK (kd f (ddel l k))) H1 → tz D σ H1) : tSeq (sDDel td ta) tz D σ H :=
  s_delD (D := { D with nx := tz D }) hd hk h hh q
/-- d.pop(k) alone -/
theorem s_popD (dv : α) (hd : Ev td σ H (.ref d)) (hk : Ev ta σ H (vs k)) (h : H d = some (.dK (kd f l))) (hh : dhas l k = true) (q : ∀ H1, Mu H d (.dK (kd f (ddel l k))) H1 → D.nx σ H1) : tDrop (tDPop1 td ta) D σ H :=
  hd H (Ex.refl H) _ fun H1 e1 => ⟨d, rfl, Or.inl ⟨_, Or.inl (e1 d _ h)⟩, hk H1 e1 _ fun H2 e2 => ⟨kd f l, ky k, f ((dget l k).getD dv), (e1.trans e2) d _ h, rfl, by
    obtain ⟨v, hv⟩ := Option.isSome_iff_exists.mp (show (dget l k).isSome = true from hh)
    rw [kd_get, hv]
    rfl, q _ ⟨H2, e1.trans e2, by rw [kd_del]⟩⟩⟩
theorem q_popD (dv : α) (hd : Ev td σ H (.ref d)) (hk : Ev ta σ H (vs k)) (h : H d = some (.dK (kd f l))) (hh : dhas l k = true) (q : ∀ H1, Mu H d (.dK (kd f (ddel l k))) H1 → tz D σ H1) : tSeq (tDrop (tDPop1 td ta)) tz D σ H :=
  s_popD (D := { D with nx := tz D }) dv hd hk h hh q
/-- c[j] = d.pop(k), c another own dict -/
theorem s_putPop {tc tj : TE} {c : Addr} {j : Tx} {m : List (Tx × α)} (dv : α) (hd : Ev td σ H (.ref d)) (hk : Ev ta σ H (vs k)) (h : H d = some (.dK (kd f l))) (hh : dhas l k = true) (hc : ∀ H1, Ev tc σ H1 (.ref c)) (hj : ∀ H1, Ev tj σ H1 (vs j)) (h2 : H c = some (.dK (kd f m))) (hne : c ≠ d) (hz : m.length < 100000)
    (q : ∀ H1 H2, Mu H d (.dK (kd f (ddel l k))) H1 → Mu H1 c (.dK (kd f (dput m j ((dget l k).getD dv)))) H2 → D.nx σ H2) : sDPut tc tj (tDPop1 td ta) D σ H :=
  hd H (Ex.refl H) _ fun H1 e1 => ⟨d, rfl, Or.inl ⟨_, Or.inl (e1 d _ h)⟩, hk H1 e1 _ fun H2 e2 => ⟨kd f l, ky k, f ((dget l k).getD dv), (e1.trans e2) d _ h, rfl, by
    obtain ⟨v, hv⟩ := Option.isSome_iff_exists.mp (show (dget l k).isSome = true from hh)
    rw [kd_get, hv]
    rfl, by
    rw [kd_del]
    have hm : Mu H d (.dK (kd f (ddel l k))) (upd H2 d (.dK (kd f (ddel l k)))) := ⟨H2, e1.trans e2, rfl⟩
    exact hc _ _ (Ex.refl _) _ fun H3 e3 => hj H3 H3 (Ex.refl _) _ fun H4 e4 => ⟨c, upd H4 c (.dK (kd f (dput m j ((dget l k).getD dv)))), rfl, Or.inl ⟨kd f m, ky j, (e3.trans e4) c _ (hm.keep hne h2), rfl, sz_lt (by rw [kd_len]; exact hz), by rw [kd_put]⟩,
      q _ _ hm ⟨H4, e3.trans e4, rfl⟩⟩⟩⟩
theorem q_putPop {tc tj : TE} {c : Addr} {j : Tx} {m : List (Tx × α)} (dv : α) (hd : Ev td σ H (.ref d)) (hk : Ev ta σ H (vs k)) (h : H d = some (.dK (kd f l))) (hh : dhas l k = true) (hc : ∀ H1, Ev tc σ H1 (.ref c)) (hj : ∀ H1, Ev tj σ H1 (vs j)) (h2 : H c = some (.dK (kd f m))) (hne : c ≠ d) (hz : m.length < 100000)
    (q : ∀ H1 H2, Mu H d (.dK (kd f (ddel l k))) H1 → Mu H1 c (.dK (kd f (dput m j ((dget l k).getD dv)))) H2 → tz D σ H2) : tSeq (sDPut tc tj (tDPop1 td ta)) tz D σ H :=
  s_putPop (D := { D with nx := tz D }) dv hd hk h hh hc hj h2 hne hz q
/-- lists likewise -/
theorem s_appG {β : Type} {g : β → V} {pl : Addr} {m : List β} {v : β} (hl : H pl = some (.lst (m.map g))) (ha : Ev ta σ H (.ref pl)) (h : Ev te σ H (g v)) (hz : m.length < 100000)
    (q : ∀ H1, Mu H pl (.lst ((m ++ [v]).map g)) H1 → D.nx σ H1) : tDrop (tBM K "list" rAppend ta (tCons te tNil)) D σ H :=
  s_app hl ha h (by rw [List.length_map]; exact hz) fun H1 e1 => q _ ⟨H1, e1, by rw [List.map_append]; rfl⟩
theorem q_appG {β : Type} {g : β → V} {pl : Addr} {m : List β} {v : β} (hl : H pl = some (.lst (m.map g))) (ha : Ev ta σ H (.ref pl)) (h : Ev te σ H (g v)) (hz : m.length < 100000)
    (q : ∀ H1, Mu H pl (.lst ((m ++ [v]).map g)) H1 → tz D σ H1) : tSeq (tDrop (tBM K "list" rAppend ta (tCons te tNil))) tz D σ H := s_appG (D := { D with nx := tz D }) hl ha h hz q
theorem s_setG {β : Type} {g : β → V} {pl : Addr} {m : List β} {v : β} {i : Int} (j : Nat) {tb' : TE} (hl : H pl = some (.lst (m.map g))) (h : Ev te σ H (g v)) (ha : Ev ta σ H (.ref pl)) (hi : Ev tb' σ H (.int i)) (hj : (0 ≤ i ∧ i = j ∨ i < 0 ∧ i + m.length = j) ∧ j < m.length)
    (q : ∀ H1, Mu H pl (.lst ((m.set j v).map g)) H1 → D.nx σ H1) : tAsg te (gSub ta tb' rSetL) D σ H := h H (Ex.refl H) _ fun H1 e1 => ha H1 e1 _ fun H2 e2 => hi H2 (e1.trans e2) _ fun H3 e3 =>
  ⟨pl, m.map g, i, j, rfl, rfl, ((e1.trans e2).trans e3) pl _ hl, ixN_at (by rw [List.length_map]; exact hj), q _ ⟨H3, (e1.trans e2).trans e3, by rw [List.map_set]⟩⟩
theorem q_setG {β : Type} {g : β → V} {pl : Addr} {m : List β} {v : β} {i : Int} (j : Nat) {tb' : TE} (hl : H pl = some (.lst (m.map g))) (h : Ev te σ H (g v)) (ha : Ev ta σ H (.ref pl)) (hi : Ev tb' σ H (.int i)) (hj : (0 ≤ i ∧ i = j ∨ i < 0 ∧ i + m.length = j) ∧ j < m.length)
    (q : ∀ H1, Mu H pl (.lst ((m.set j v).map g)) H1 → tz D σ H1) : tSeq (tAsg te (gSub ta tb' rSetL)) tz D σ H := s_setG (D := { D with nx := tz D }) j hl h ha hi hj q

/-! ## a walk over a dict's keys -/
/-- the dict locked for the walk, or locked before -/
def tMay (t : TS) : TS := fun D σ H => t D σ H ∨ tLock t D σ H
theorem ps_may {X : Cx} {st : Stmt} {t : TS} (h : PS X st t) : PS X st (tMay t) := by
  refine ⟨fun pins s σ H D I hw => ?_⟩
  rcases hw with hw | hw
  · exact h.run pins s σ H D I hw
  · exact (ps_lock h).run pins s σ H D I hw
theorem keys_walk {t : TG} {step : S → Tx → Stp S R} {s0 : S} {Rep : S → L2.St → Hp → Prop} {i : Nat} {j : Nat} {o : Obj} {D' : Ends} (hσ : σ[i]? = some (some (.ref d))) (hd : H d = some (.frz o (.dK (kd f l)))) (h0 : Rep s0 σ H)
    (hk : ∀ s σ1 H1, Rep s σ1 H1 → H1 d = some (.frz o (.dK (kd f l)))) (hb : BodyOk tu D' j vs step (dkeys l) s0 Rep)
    (ho : ∀ s σ1 H1, (runL step (dkeys l) s0 = .go s ∨ runL step (dkeys l) s0 = .brk s) → Rep s σ1 H1 → D'.nx σ1 H1) : tFor (iKeys (tVar i)) (gName j) tu D' σ H := by
  have hbr : BodyOk tu D' j vs step (dkeys l) s0 Rep := hb
  refine ⟨.ref d, hσ, d, o, rfl, Or.inl ⟨kd f l, hd, ?_⟩⟩
  refine ⟨fun n m σ1 H2 => m = l.length - n ∧ n ≤ l.length ∧ ∃ s, runL step ((dkeys l).take n) s0 = .go s ∧ Rep s σ1 H2, ⟨l.length, by simp, Nat.zero_le _, s0, rfl, h0⟩, fun n m σ1 H2 hW => ?_⟩
  obtain ⟨rfl, hn, s, hr, hp⟩ := hW
  have hlen : (dkeys l).length = l.length := List.length_map _
  by_cases hlt : n < l.length
  · refine Or.inr ⟨⟨hk s σ1 H2 hp, by rw [kd_len]; exact hlt⟩, fun σ2 H3 => ∃ s, runL step ((dkeys l).take (n + 1)) s0 = .go s ∧ Rep s σ2 H3, fun σ2 H3 h3 => ⟨l.length - (n + 1), by omega, rfl, hlt, h3⟩, fun w H3 hy => ?_⟩
    obtain ⟨rfl, kk, vv, hkv, rfl⟩ := hy
    have hy2 : (dkeys l)[n]? = some (l[n]).1 := by
      unfold dkeys
      rw [List.getElem?_map, List.getElem?_eq_getElem hlt]
      rfl
    have ek : kV kk = vs (l[n]).1 := by
      unfold kd at hkv
      rw [List.getElem?_map, List.getElem?_eq_getElem hlt] at hkv
      have e : ky (l[n]).1 = kk := congrArg Prod.fst (Option.some.inj hkv)
      rw [← e]
      rfl
    rw [ek]
    have hnx := runL_next hr hy2
    exact hbr _ _ n s _ σ1 _ hy2 hr hp (fun s2 σ2 H2 e q => ⟨s2, hnx.trans e, q⟩) (fun s2 σ2 H2 e q => ho s2 σ2 H2 (Or.inr (runL_out (hnx.trans e) (fun _ z => by cases z))) q) (fun r e => runL_out (hnx.trans e) (fun _ z => by cases z))
  · have en : n = l.length := by omega
    subst en
    rw [← hlen, List.take_length] at hr
    exact Or.inl ⟨⟨hk s σ1 H2 hp, by rw [kd_len]; exact Nat.le_refl _⟩, ho s σ1 H2 (Or.inl hr) hp⟩
/-- for k in d -/
theorem q_loopK (step : S → Tx → Stp S R) (s0 : S) (Rep : HO → Obj → S → L2.St → Hp → Prop) {i j : Nat} (hσ : σ[i]? = some (some (.ref d))) (hd : Rd H d (.dK (kd f l)))
    (h0 : ∀ U o, H d = some U → (U = .dK (kd f l) ∨ U = .frz o (.dK (kd f l))) → Rep U o s0 σ (upd H d (.frz o (.dK (kd f l)))))
    (hk : ∀ U o s σ1 H1, Rep U o s σ1 H1 → H1 d = some (.frz o (.dK (kd f l))))
    (hb : ∀ U o (Rt : VK), H d = some U → (U = .dK (kd f l) ∨ U = .frz o (.dK (kd f l))) → (∀ v H1, H1 d = some (.frz o (.dK (kd f l))) → D.rt v (upd H1 d U) → Rt v H1) → BodyOk tu { D with rt := Rt } j vs step (dkeys l) s0 (Rep U o))
    (ho : ∀ U o s σ1 H1, H d = some U → (U = .dK (kd f l) ∨ U = .frz o (.dK (kd f l))) → (runL step (dkeys l) s0 = .go s ∨ runL step (dkeys l) s0 = .brk s) → Rep U o s σ1 H1 → tz D σ1 (upd H1 d U)) :
    tSeq (tMay (tFor (iKeys (tVar i)) (gName j) tu)) tz D σ H := by
  rcases hd with h | ⟨o, h⟩
  · refine Or.inr ⟨d, .dK (kd f l), h, trivial, fun od => ?_⟩
    have hb2 := hb (.dK (kd f l)) od (fun v H1 => H1 d = some (.frz od (.dK (kd f l))) ∧ D.rt v (upd H1 d (.dK (kd f l)))) h (Or.inl rfl) (fun v H1 a b => ⟨a, b⟩)
    exact keys_walk (t := gName j) (Rep := Rep (.dK (kd f l)) od) hσ upd_same (h0 _ od h (Or.inl rfl)) (hk _ od) hb2 (fun s σ1 H1 hr hp => ⟨hk _ od s σ1 H1 hp, ho _ od s σ1 H1 h (Or.inl rfl) hr hp⟩)
  · have hb2 := hb (.frz o (.dK (kd f l))) o D.rt h (Or.inr rfl) (fun v H1 a b => by rw [upd_self a] at b; exact b)
    have h02 := h0 _ o h (Or.inr rfl)
    rw [upd_self h] at h02
    exact Or.inl (keys_walk (t := gName j) (Rep := Rep (.frz o (.dK (kd f l))) o) hσ h h02 (hk _ o) hb2 (fun s σ1 H1 hr hp => by
      have q := ho _ o s σ1 H1 h (Or.inr rfl) hr hp
      rw [upd_self (hk _ o s σ1 H1 hp)] at q
      exact q))
theorem rx_may {H0 : Hp} {U : HO} {o : Obj} {kvs : List (Key × V)} (r : RX H0 H) (hd : H d = some U) (hU : U = .dK kvs ∨ U = .frz o (.dK kvs)) : RX H0 (upd H d (.frz o (.dK kvs))) := by
  rcases hU with rfl | rfl
  · exact rx_lock r hd
  · rw [upd_self hd]
    exact r
theorem unl_lock {ls : List (Addr × HO)} {H0 : Hp} {U W : HO} (e : Ex H0 (unl ls H)) (hd : H d = some U) : Ex H0 (unl ((d, U) :: ls) (upd H d W)) := by
  show Ex H0 (unl ls (upd (upd H d W) d U))
  rw [upd_upd, upd_self hd]
  exact e
theorem unl_open {ls : List (Addr × HO)} {H0 : Hp} {U : HO} (e : Ex H0 (unl ((d, U) :: ls) H)) : Ex H0 (unl ls (upd H d U)) := e
/-! ## small builtins -/
theorem e_intB {b : Bool} (h : Ev ta σ H (.bl b)) : Ev (tCB (fun xs H Q => (∃ i, xs = [.int i] ∧ Q (.int i) H) ∨ ∃ k, xs = [.bl k] ∧ Q (.int (if k then 1 else 0)) H) (tCons ta tNil)) σ H (.int (if b = true then 1 else 0)) :=
  ev_cb (ea_cons h ea_nil) fun H1 e Q q => Or.inr ⟨b, rfl, q H1 (Ex.refl H1)⟩
/-- str(n) -/
def dec (n : Int) : Tx := tl (toString n : String)
theorem e_strI {n : Int} (h : Ev ta σ H (.int n)) (hz : n.natAbs.log2 < 1920) : Ev (tCB (fun xs H Q => ∃ i, xs = [.int i] ∧ i.natAbs.log2 < 1920 ∧ Q (.str (toString i)) H) (tCons ta tNil)) σ H (vs (dec n)) :=
  ev_cb (ea_cons h ea_nil) fun H1 e Q q => ⟨n, rfl, hz, by
    have : V.str (toString n : String) = vs (dec n) := congrArg V.str (mk_of _).symm
    rw [this]
    exact q H1 (Ex.refl H1)⟩
end
end Vf
namespace Vf
open PySem PySem.Spec PyProof.Rows L2 TL Evl
section
variable {X : Cx}
theorem call_lenRd : CallR X (.builtin "len") rLenD := by
  intro pins s σ H xs us Q I r h
  obtain ⟨a, kvs, rfl, ha, q⟩ := h
  obtain ⟨u, rfl, ru⟩ := vals1 r
  cases ru
  exact d_len I ha fun t s' I' => ⟨.int kvs.length, H, I', ⟨t, rfl⟩, q⟩
theorem call_listDK (hc : X.calm = true) : CallR X (.type "list") (fun xs H Q => ∃ (a : Addr) (kvs : List (Key × V)), xs = [.ref a] ∧ Rd H a (.dK kvs) ∧ ∀ p, H p = none → Q (.ref p) (upd H p (.lst (kvs.map fun kv => kV kv.1)))) := call_listD hc
end
section
variable {σ : L2.St} {H : Hp} {td ta : TE} {α : Type} {f : α → V} {l : List (Tx × α)} {d : Addr} {x y : V}
theorem e_lenRd (hd : Ev td σ H (.ref d)) (h : Rd H d (.dK (kd f l))) : Ev (tCB rLenD (tCons td tNil)) σ H (.int (l.length : Int)) :=
  ev_cb (ea_cons hd ea_nil) fun H1 e Q q => ⟨d, _, rfl, ex_rd e h, by rw [kd_len]; exact q H1 (Ex.refl H1)⟩
theorem rx_updn {H0 : Hp} {p : Addr} {Y : HO} (r : RX H0 H) (n : H0 p = none) : RX H0 (upd H p Y) := fun a u h => by
  have ha : a ≠ p := fun z => by
    subst z
    rcases h with h | ⟨o, h⟩ <;> (rw [n] at h; cases h)
  rcases r a u h with h2 | ⟨o, h2⟩
  · exact Or.inl (upd_keep ha h2)
  · exact Or.inr ⟨o, upd_keep ha h2⟩
/-- what is read stands elsewhere than what is new -/
theorem ne_rdn {H0 : Hp} {a p : Addr} {u : HO} (h : Rd H0 a u) (n : H0 p = none) : a ≠ p := fun z => by
  subst z
  rcases h with h | ⟨o, h⟩ <;> (rw [n] at h; cases h)
theorem tyx_dct {K : PySem.W.Frag} {kvs : List (Key × V)} (h : Rd H d (.dK kvs)) : TyX K H (.ref d) (.type "dict") := by
  rcases h with h | ⟨o, h⟩
  · exact .base (.dK h)
  · exact .fDict h
theorem rx_free {H0 : Hp} {p : Addr} (r : RX H0 H) (n : H p = none) : H0 p = none := by
  cases h : H0 p with
  | none => rfl
  | some o =>
    rcases r p o (Or.inl h) with h2 | ⟨_, h2⟩ <;> (rw [n] at h2; cases h2)
/-! ## lists laid together -/
theorem l_catNR {β : Type} {g : β → V} {m1 m2 : List β} {pl : Addr} {tb : TE} (ha : EvL ta σ H (m1.map g)) (hb : Ev tb σ H (.ref pl)) (h : H pl = some (.lst (m2.map g))) (hz : m1.length + m2.length ≤ 100000) : EvL (tOp rCat ta tb) σ H ((m1 ++ m2).map g) := fun H1 e Q q =>
  ha H1 e _ fun p H2 np e2 hp => hb H2 (e.trans e2) _ fun H3 e3 => ⟨p, pl, m1.map g, m2.map g, rfl, rfl, e3 p _ hp, ((e.trans e2).trans e3) pl _ h, by rw [List.length_map, List.length_map]; exact sz_of hz, fun r nr =>
    q r _ (fresh_back (e2.trans e3) nr) ((e2.trans e3).trans (Ex.new nr)) (by rw [upd_same, List.map_append])⟩
theorem l_catNN {β : Type} {g : β → V} {m1 m2 : List β} {tb : TE} (ha : EvL ta σ H (m1.map g)) (hb : EvL tb σ H (m2.map g)) (hz : m1.length + m2.length ≤ 100000) : EvL (tOp rCat ta tb) σ H ((m1 ++ m2).map g) := fun H1 e Q q =>
  ha H1 e _ fun p H2 np e2 hp => hb H2 (e.trans e2) _ fun p2 H3 np2 e3 hp2 => ⟨p, p2, m1.map g, m2.map g, rfl, rfl, e3 p _ hp, hp2, by rw [List.length_map, List.length_map]; exact sz_of hz, fun r nr =>
    q r _ (fresh_back (e2.trans e3) nr) ((e2.trans e3).trans (Ex.new nr)) (by rw [upd_same, List.map_append])⟩
theorem l_catRN {β : Type} {g : β → V} {m1 m2 : List β} {pl : Addr} {tb : TE} (ha : Ev ta σ H (.ref pl)) (h : H pl = some (.lst (m1.map g))) (hb : EvL tb σ H (m2.map g)) (hz : m1.length + m2.length ≤ 100000) : EvL (tOp rCat ta tb) σ H ((m1 ++ m2).map g) := fun H1 e Q q =>
  ha H1 e _ fun H2 e2 => hb H2 (e.trans e2) _ fun p2 H3 np2 e3 hp2 => ⟨pl, p2, m1.map g, m2.map g, rfl, rfl, ((e.trans e2).trans e3) pl _ h, hp2, by rw [List.length_map, List.length_map]; exact sz_of hz, fun r nr =>
    q r _ (fresh_back (e2.trans e3) nr) ((e2.trans e3).trans (Ex.new nr)) (by rw [upd_same, List.map_append])⟩
/-- a slice of a new list -/
theorem l_slN {K : PySem.W.Frag} {β : Type} {g : β → V} {m : List β} {te : TE} {tl' th : TO} {lo hi : Option Int} (h : EvL te σ H (m.map g)) (h1 : EvO tl' σ H lo) (h2 : EvO th σ H hi) : EvL (tSl (rSlL K) te tl' th) σ H ((cutG m lo hi).map g) := fun H1 e Q q =>
  h H1 e _ fun p H2 np e2 hp => h1 H2 (e.trans e2) _ fun H3 e3 => h2 H3 ((e.trans e2).trans e3) _ fun H4 e4 => ⟨p, m.map g, rfl, sq_of (e4 p _ (e3 p _ hp)), fun r nr =>
    q r _ (fresh_back ((e2.trans e3).trans e4) nr) (((e2.trans e3).trans e4).trans (Ex.new nr)) (by rw [upd_same, cutV_map])⟩
/-! ## promises that give a new dict -/
def RetK (kvs : List (Key × V)) (H : Hp) (Q : VK) : Prop := ∀ p H2, H p = none → Ex H H2 → H2 p = some (.dK kvs) → Q (.ref p) H2
def spK (R : List V → Hp → List (Key × V) → Prop) : Sp := fun vs' H Q _ => ∃ xs, R vs' H xs ∧ RetK xs H Q
def SpK (sp : Sp) (ws : List V) (H : Hp) (xs : List (Key × V)) : Prop := ∀ H1, Ex H H1 → ∀ Q : VK, (∀ p H2, H1 p = none → Ex H1 H2 → H2 p = some (.dK xs) → Q (.ref p) H2) → ∀ E : XK, sp ws H1 Q E
theorem sk_of {R : List V → Hp → List (Key × V) → Prop} {ws : List V} {xs : List (Key × V)} (h : ∀ H1, Ex H H1 → R ws H1 xs) : SpK (spK R) ws H xs := fun H1 e Q q _ => ⟨xs, h H1 e, q⟩
theorem ek_call {sp : Sp} {dvs ws : List V} {xs : List (Key × V)} {E : XK} {ta : TA} (h : EvA ta σ H ws) (hs : SpK sp (ws ++ dvs) H xs) : EvK (tCall sp dvs E ta) σ H xs := fun H1 e Q q =>
  h H1 e _ fun H2 e2 => hs H2 (e.trans e2) Q (fun p H3 hp e3 h3 => q p H3 (fresh_back e2 hp) (e2.trans e3) h3) E
theorem RetK.go {xs : List (Key × V)} {Q : VK} {H' : Hp} (k : RetK xs H Q) (e : Ex H H') {p : Addr} {H2 : Hp} (hp : H' p = none) (e2 : Ex H' H2) (h : H2 p = some (.dK xs)) : Q (.ref p) H2 := k p H2 (fresh_back e hp) (e.trans e2) h
theorem retK_T {b : Bool} {x y : List (Tx × α)} {Q : VK} (k : RetK (kd f (if b = true then x else y)) H Q) (hb : b = true) : RetK (kd f x) H Q := by
  rw [if_pos hb] at k
  exact k
theorem retK_F {b : Bool} {x y : List (Tx × α)} {Q : VK} (k : RetK (kd f (if b = true then x else y)) H Q) (hb : b = false) : RetK (kd f y) H Q := by
  rw [hb, if_neg Bool.false_ne_true] at k
  exact k
theorem retK_run {S : Type} {o : Stp S (List (Tx × α))} {g : S → List (Tx × α)} {r : List (Tx × α)} {Q : VK} (k : RetK (kd f (aftL o g)) H Q) (h : o = .ret r) : RetK (kd f r) H Q := by
  rw [h] at k
  exact k
theorem retK_go {S : Type} {o : Stp S (List (Tx × α))} {g : S → List (Tx × α)} {s : S} {Q : VK} (k : RetK (kd f (aftL o g)) H Q) (h : o = .go s ∨ o = .brk s) : RetK (kd f (g s)) H Q := by
  rcases h with h | h
  · rw [h] at k
    exact k
  · rw [h] at k
    exact k
end
end Vf

/-! Own layer, further: lists of tuples of texts. -/
namespace Vf
open PySem PySem.Spec PyProof.Rows L2 TL Evl LiI
/-- no tuple stands there -/
def NT : HO → Prop
  | .lst _ => True
  | .dK _ => True
  | .frz _ (.dK _) => True
  | .frz _ (.lst _) => True
  | .ins _ _ _ => True
  | _ => False
section
variable {K : PySem.W.Frag} {H H1 H2 : Hp} {p t : Addr} {q : List V} {o X : HO}
theorem sqt_upd (hp : H p = some o) (nt : NT o) (h : SqT K H t q) : SqT K (upd H p X) t q := by
  rcases h with h | h
  · have ne : t ≠ p := fun z => by
      subst z
      rcases h with h | ⟨w, h⟩
      · rw [hp] at h
        cases h
        exact nt
      · rw [hp] at h
        cases h
        exact nt
    rcases h with h | ⟨w, h⟩
    · exact Or.inl (Or.inl (upd_keep ne h))
    · exact Or.inl (Or.inr ⟨w, upd_keep ne h⟩)
  · exact Or.inr h
theorem Mu.tup (m : Mu H p X H1) (hp : H p = some o) (nt : NT o) (h : SqT K H t q) : SqT K H1 t q := by
  obtain ⟨H2, e, rfl⟩ := m
  exact sqt_upd (e p _ hp) nt (ex_t e h)
abbrev TupsAt (K : PySem.W.Frag) (H : Hp) : List Addr → List (List V) → Prop := Paired fun t q => SqT K H t q
theorem tups_mono {ts : List Addr} {l : List (List V)} (f : ∀ t q, SqT K H t q → SqT K H2 t q) (h : TupsAt K H ts l) : TupsAt K H2 ts l := Paired.mapP h f
/-- a list of tuples at p -/
def IsLU (K : PySem.W.Frag) (H : Hp) (p : Addr) (l : List (List V)) : Prop := ∃ ts, H p = some (.lst (ts.map V.ref)) ∧ TupsAt K H ts l
theorem IsLU.ex {l : List (List V)} (h : IsLU K H p l) (e : Ex H H2) : IsLU K H2 p l := by
  obtain ⟨ts, a, b⟩ := h
  exact ⟨ts, e p _ a, tups_mono (fun _ _ => ex_t e) b⟩
theorem IsLU.mu {l : List (List V)} {r : Addr} (h : IsLU K H p l) (m : Mu H r X H1) (hne : p ≠ r) (hr : H r = some o) (nt : NT o) : IsLU K H1 p l := by
  obtain ⟨ts, a, b⟩ := h
  exact ⟨ts, m.keep hne a, tups_mono (fun _ _ => m.tup hr nt) b⟩
theorem IsLU.upd {l : List (List V)} {r : Addr} (h : IsLU K H p l) (hne : p ≠ r) (hr : H r = some o) (nt : NT o) : IsLU K (upd H r X) p l := by
  obtain ⟨ts, a, b⟩ := h
  exact ⟨ts, upd_keep hne a, tups_mono (fun _ _ => sqt_upd hr nt) b⟩
theorem IsLU.ne {l : List (List V)} {r : Addr} (h : IsLU K H p l) (n : H r = none) : p ≠ r := by
  obtain ⟨ts, a, _⟩ := h
  exact ne_of_none a n
theorem IsLU.sq {l : List (List V)} (h : IsLU K H p l) : ∃ ts, SqL K H p (ts.map V.ref) ∧ TupsAt K H ts l := by
  obtain ⟨ts, a, b⟩ := h
  exact ⟨ts, sq_of a, b⟩
end
section
variable {K : PySem.W.Frag} {σ : L2.St} {H H' : Hp} {ta tb te td : TE} {D : Ends} {tz : TS} {l l2 : List (List V)} {d p : Addr} {α : Type} {f : α → V} {m : List (Tx × α)}
/-- a new list of tuples -/
def EvU2 (K : PySem.W.Frag) (te : TE) (σ : L2.St) (H : Hp) (l : List (List V)) : Prop := ∀ H1, Ex H H1 → ∀ Q : VK, (∀ p H2, H1 p = none → Ex H1 H2 → IsLU K H2 p l → Q (.ref p) H2) → te σ H1 Q
theorem eu2_is (h : EvU2 K te σ H l) (e : l = l2) : EvU2 K te σ H l2 := e ▸ h
theorem s_asgU2 {i : Nat} (h : EvU2 K te σ H l) (k : ∀ p H1, H p = none → Ex H H1 → IsLU K H1 p l → D.nx (σ.set i (some (.ref p))) H1) : tAsg te (gName i) D σ H := h H (Ex.refl H) _ fun p H1 hp e h1 => k p H1 hp e h1
theorem q_asgU2 {i : Nat} (h : EvU2 K te σ H l) (k : ∀ p H1, H p = none → Ex H H1 → IsLU K H1 p l → tz D (σ.set i (some (.ref p))) H1) : tSeq (tAsg te (gName i)) tz D σ H := s_asgU2 (D := { D with nx := tz D }) h k
/-- list(d.items()), texts to texts -/
def ditems (m : List (Tx × Tx)) : List (List Tx) := m.map fun q => [q.1, q.2]
theorem u_items {m : List (Tx × Tx)} (hd : Ev td σ H (.ref d)) (h : H d = some (.dK (kd vs m))) : EvU2 K (tListItems td) σ H ((ditems m).map (List.map vs)) := fun H1 e Q q =>
  hd H1 e _ fun H2 e2 => ⟨d, kd vs m, rfl, (e.trans e2) d _ h, fun H3 p ts e3 np nts hp hl hpr => q p H3 (fresh_back e2 np) (e2.trans e3) ⟨ts, hl, by
    have e4 : (ditems m).map (List.map vs) = (kd vs m).map fun q => [kV q.1, q.2] := by
      unfold ditems kd
      rw [List.map_map, List.map_map]
      rfl
    rw [e4]
    clear hl nts hp
    revert hpr
    generalize kd vs m = kvs
    intro hpr
    induction hpr with
    | nil => exact .nil
    | cons a _ ih => exact .cons (st_of a) ih⟩⟩
/-- two lists of tuples of texts that are equal -/
def okT (p : Tx) : Prop := ∀ c ∈ p, c < 1114112
def duD (l : List (List Tx)) : PyData := .list (l.map fun q => .tuple (q.map fun p => .str (mk p)))
theorem dp_strs : ∀ q : List Tx, DpAll K H (q.map vs) (q.map fun p => PyData.str (mk p))
  | [] => .nil
  | p :: r => .cons (.str _) (dp_strs r)
theorem dp_tups {ts : List Addr} {l : List (List Tx)} (h : TupsAt K H ts (l.map (List.map vs))) : DpAll K H (ts.map V.ref) (l.map fun q => PyData.tuple (q.map fun p => .str (mk p))) := by
  induction l generalizing ts with
  | nil =>
    cases h
    exact .nil
  | cons q r ih =>
    cases h with
    | cons a b => exact .cons (.tup a (dp_strs q)) (ih b)
theorem dp_LU {l : List (List Tx)} (h : IsLU K H p (l.map (List.map vs))) : Dp K H (.ref p) (duD l) := by
  obtain ⟨ts, a, b⟩ := h
  exact .lst (sq_of a) (dp_tups b)
theorem lay_strs : ∀ {q : List Tx}, (∀ p ∈ q, okT p) → PyData.canLayAll0 (q.map fun p => PyData.str (mk p)) = true ∧ PyData.depthAll (q.map fun p => PyData.str (mk p)) = 0
  | [], _ => ⟨rfl, rfl⟩
  | p :: r, h => by
    obtain ⟨a, b⟩ := lay_strs (q := r) fun x hx => h x (List.mem_cons_of_mem _ hx)
    have hp := h p List.mem_cons_self
    refine ⟨?_, ?_⟩
    · show (PyData.canLay0 (.str (mk p)) && PyData.canLayAll0 _) = true
      rw [a, Bool.and_true]
      show (p.toArray.all (· < 0x110000)) = true
      rw [List.all_toArray]
      exact List.all_eq_true.mpr fun c hc => decide_eq_true (hp c hc)
    · show max 0 (PyData.depthAll _) = 0
      rw [b]
      rfl
theorem lay_tups : ∀ {l : List (List Tx)}, (∀ q ∈ l, ∀ p ∈ q, okT p) → PyData.canLayAll0 (l.map fun q => PyData.tuple (q.map fun p => .str (mk p))) = true ∧ PyData.depthAll (l.map fun q => PyData.tuple (q.map fun p => .str (mk p))) ≤ 1
  | [], _ => ⟨rfl, by decide⟩
  | q :: r, h => by
    obtain ⟨a, b⟩ := lay_tups (l := r) fun x hx => h x (List.mem_cons_of_mem _ hx)
    obtain ⟨a2, b2⟩ := lay_strs (h q List.mem_cons_self)
    refine ⟨?_, ?_⟩
    · show (PyData.canLayAll0 _ && PyData.canLayAll0 _) = true
      rw [a, Bool.and_true]
      exact a2
    · show max (PyData.depthAll _ + 1) (PyData.depthAll _) ≤ 1
      rw [b2]
      omega
theorem shaped_LU {l : List (List Tx)} (h : ∀ q ∈ l, ∀ p ∈ q, okT p) : SeqAt.shaped (duD l) = true := by
  obtain ⟨a, b⟩ := lay_tups h
  show ((PyData.canLayAll0 _) && decide (PyData.depthAll _ + 1 ≤ 64)) = true
  rw [a, Bool.true_and]
  exact decide_eq_true (by omega)
theorem e_eqLU {l l2 : List (List Tx)} (ha : EvU2 K ta σ H (l.map (List.map vs))) (hb : Ev tb σ H (.ref p)) (h : IsLU K H p (l2.map (List.map vs))) (e : l = l2) (ok : ∀ q ∈ l, ∀ p ∈ q, okT p) : Ev (tOp (rEqD K) ta tb) σ H (.bl true) := fun H1 e1 Q q =>
  ha H1 e1 _ fun r H2 _ e2 hr => hb H2 (e1.trans e2) _ fun H3 e3 => ⟨duD l, duD l, dp_LU (hr.ex e3), by
    rw [e]
    exact dp_LU (h.ex ((e1.trans e2).trans e3)), shaped_LU ok, shaped_LU ok, by
    rw [SeqAt.eqv_refl (duD l) (SeqAt.canLay_of_shaped (shaped_LU ok))]
    exact q H3 (e2.trans e3)⟩
theorem op_eqDK {X : Cx} (K : PySem.W.Frag) (hu : X.A.units + 64 < cLine) (h : X.K = K := by rfl) : OpR X (compareOp .Eq) (rEqD K) := h ▸ op_eqD hu
end
end Vf

/-! Own layer, the plain mathematics: dicts as rows of pairs, walks that hold a thing. -/
namespace Vf
section
variable {α β S R : Type}
theorem dkeys_len (l : List (Tx × α)) : (dkeys l).length = l.length := List.length_map _
theorem dkeys_app (l m : List (Tx × α)) : dkeys (l ++ m) = dkeys l ++ dkeys m := List.map_append
theorem mem_keys {l : List (Tx × α)} {q : Tx × α} (h : q ∈ l) : q.1 ∈ dkeys l := List.mem_map_of_mem h
theorem any_iff (l : List (Tx × α)) (k : Tx) : (l.any fun p => decide (p.1 = k)) = true ↔ k ∈ dkeys l := by
  rw [List.any_eq_true]
  constructor
  · rintro ⟨p, hp, e⟩
    rw [← of_decide_eq_true e]
    exact mem_keys hp
  · intro h
    obtain ⟨p, hp, e⟩ := List.mem_map.mp h
    exact ⟨p, hp, decide_eq_true e⟩
theorem get_cons (p : Tx × α) (r : List (Tx × α)) (k : Tx) : dget (p :: r) k = if p.1 = k then some p.2 else dget r k := by
  unfold dget
  rw [List.find?_cons]
  by_cases h : p.1 = k
  · rw [if_pos h, decide_eq_true h]
    rfl
  · rw [if_neg h, decide_eq_false h]
theorem has_iff (l : List (Tx × α)) (k : Tx) : dhas l k = true ↔ k ∈ dkeys l := by
  unfold dhas
  induction l with
  | nil => exact ⟨fun h => (by cases h), fun h => (by cases h)⟩
  | cons p r ih =>
    rw [get_cons]
    show _ ↔ k ∈ p.1 :: dkeys r
    by_cases h : p.1 = k
    · rw [if_pos h]
      exact ⟨fun _ => by rw [h]; exact List.mem_cons_self, fun _ => rfl⟩
    · rw [if_neg h, ih, List.mem_cons]
      exact ⟨Or.inr, fun z => z.resolve_left fun e => h e.symm⟩
theorem has_dec (l : List (Tx × α)) (k : Tx) : dhas l k = decide (k ∈ dkeys l) := by
  by_cases h : k ∈ dkeys l
  · rw [decide_eq_true h, (has_iff l k).mpr h]
  · rw [decide_eq_false h]
    cases e : dhas l k with
    | false => rfl
    | true => exact absurd ((has_iff l k).mp e) h
theorem get_none {l : List (Tx × α)} {k : Tx} (h : k ∉ dkeys l) : dget l k = none := by
  have := has_dec l k
  rw [decide_eq_false h] at this
  unfold dhas at this
  exact Option.isNone_iff_eq_none.mp (by rw [← Option.not_isSome, this]; rfl)
theorem get_mem {l : List (Tx × α)} {k : Tx} {v : α} (h : dget l k = some v) : (k, v) ∈ l := by
  induction l with
  | nil => cases h
  | cons p r ih =>
    rw [get_cons] at h
    by_cases e : p.1 = k
    · rw [if_pos e] at h
      cases h
      rw [← e]
      exact List.mem_cons_self
    · rw [if_neg e] at h
      exact List.mem_cons_of_mem _ (ih h)
theorem get_of {l : List (Tx × α)} (hn : (dkeys l).Nodup) {q : Tx × α} (h : q ∈ l) : dget l q.1 = some q.2 := by
  induction l with
  | nil => cases h
  | cons p r ih =>
    rw [get_cons]
    have hn2 : (p.1 :: dkeys r).Nodup := hn
    rw [List.nodup_cons] at hn2
    rcases List.mem_cons.mp h with e | e
    · rw [e, if_pos rfl]
    · rw [if_neg (fun z => hn2.1 (by rw [z]; exact mem_keys e))]
      exact ih hn2.2 e
theorem put_new {l : List (Tx × α)} {k : Tx} {v : α} (h : k ∉ dkeys l) : dput l k v = l ++ [(k, v)] := by
  unfold dput
  rw [if_neg fun z => h ((any_iff l k).mp z)]
theorem put_old {l : List (Tx × α)} {k : Tx} {v : α} (h : k ∈ dkeys l) : dput l k v = l.map (fun p => if p.1 = k then (p.1, v) else p) := by
  unfold dput
  rw [if_pos ((any_iff l k).mpr h)]
theorem keys_put (l : List (Tx × α)) (k : Tx) (v : α) : dkeys (dput l k v) = if k ∈ dkeys l then dkeys l else dkeys l ++ [k] := by
  by_cases h : k ∈ dkeys l
  · rw [if_pos h, put_old h]
    unfold dkeys
    rw [List.map_map]
    apply List.map_congr_left
    intro p _
    show (if p.1 = k then (p.1, v) else p).1 = p.1
    split <;> rfl
  · rw [if_neg h, put_new h, dkeys_app]
    rfl
theorem mem_keys_put {l : List (Tx × α)} {k j : Tx} {v : α} : j ∈ dkeys (dput l k v) ↔ j = k ∨ j ∈ dkeys l := by
  rw [keys_put]
  by_cases h : k ∈ dkeys l
  · rw [if_pos h]
    exact ⟨Or.inr, fun z => z.elim (fun e => by rw [e]; exact h) id⟩
  · rw [if_neg h, List.mem_append, List.mem_singleton, or_comm]
theorem nodup_put {l : List (Tx × α)} {k : Tx} {v : α} (h : (dkeys l).Nodup) : (dkeys (dput l k v)).Nodup := by
  rw [keys_put]
  by_cases hk : k ∈ dkeys l
  · rw [if_pos hk]
    exact h
  · rw [if_neg hk, List.nodup_append]
    exact ⟨h, List.nodup_cons.mpr ⟨by simp, List.nodup_nil⟩, fun a ha b hb e => hk (by rw [← List.mem_singleton.mp hb, ← e]; exact ha)⟩
theorem put_len (l : List (Tx × α)) (k : Tx) (v : α) : (dput l k v).length ≤ l.length + 1 := by
  rw [← dkeys_len, keys_put]
  split
  · rw [dkeys_len]; omega
  · rw [List.length_append, dkeys_len]; exact Nat.le_refl _
theorem mem_put {l : List (Tx × α)} {k : Tx} {v : α} {q : Tx × α} (h : q ∈ dput l k v) : q = (k, v) ∨ q ∈ l := by
  by_cases hk : k ∈ dkeys l
  · rw [put_old hk] at h
    obtain ⟨p, hp, e⟩ := List.mem_map.mp h
    by_cases e2 : p.1 = k
    · rw [if_pos e2] at e
      rw [← e, e2]
      exact Or.inl rfl
    · rw [if_neg e2] at e
      rw [← e]
      exact Or.inr hp
  · rw [put_new hk] at h
    rcases List.mem_append.mp h with e | e
    · exact Or.inr e
    · exact Or.inl (List.mem_singleton.mp e)
theorem get_app (l m : List (Tx × α)) (k : Tx) : dget (l ++ m) k = (dget l k).or (dget m k) := by
  induction l with
  | nil => simp [dget]
  | cons p r ih =>
    rw [List.cons_append, get_cons, get_cons, ih]
    split <;> rfl
theorem get_put (l : List (Tx × α)) (k : Tx) (v : α) (j : Tx) : dget (dput l k v) j = if j = k then some v else dget l j := by
  by_cases hk : k ∈ dkeys l
  · rw [put_old hk]
    induction l with
    | nil => cases hk
    | cons p r ih =>
      rw [List.map_cons, get_cons, get_cons]
      by_cases h1 : p.1 = k
      · rw [if_pos h1]
        by_cases h2 : j = k
        · rw [if_pos h2, if_pos (by rw [h1, h2])]
        · rw [if_neg h2, if_neg (fun z => h2 (by rw [← z]; exact h1)), if_neg (fun z => h2 (by rw [← z, h1]))]
          by_cases h3 : k ∈ dkeys r
          · rw [ih h3, if_neg h2]
          · have : r.map (fun p => if p.1 = k then (p.1, v) else p) = r := by
              conv => rhs; rw [← List.map_id r]
              apply List.map_congr_left
              intro q hq
              exact if_neg fun z => h3 (by rw [← z]; exact mem_keys hq)
            rw [this]
      · rw [if_neg h1]
        have hk2 : k ∈ dkeys r := (List.mem_cons.mp (show k ∈ p.1 :: dkeys r from hk)).resolve_left fun e => h1 e.symm
        rw [ih hk2]
        by_cases h2 : p.1 = j
        · rw [if_pos h2, if_pos h2, if_neg (fun z => h1 (by rw [h2, z]))]
        · rw [if_neg h2, if_neg h2]
  · rw [put_new hk, get_app]
    by_cases h2 : j = k
    · rw [if_pos h2, h2, get_none hk, get_cons, if_pos rfl]
      rfl
    · rw [if_neg h2, get_cons, if_neg (fun z => h2 z.symm)]
      cases dget l j <;> rfl
theorem keys_del (l : List (Tx × α)) (k : Tx) : dkeys (ddel l k) = (dkeys l).filter (fun j => decide (j ≠ k)) := by
  unfold dkeys ddel
  rw [List.filter_map]
  rfl
theorem mem_keys_del {l : List (Tx × α)} {k j : Tx} : j ∈ dkeys (ddel l k) ↔ j ∈ dkeys l ∧ j ≠ k := by
  rw [keys_del, List.mem_filter, decide_eq_true_eq]
theorem nodup_del {l : List (Tx × α)} {k : Tx} (h : (dkeys l).Nodup) : (dkeys (ddel l k)).Nodup := by
  rw [keys_del]
  exact h.filter _
theorem mem_del {l : List (Tx × α)} {k : Tx} {q : Tx × α} (h : q ∈ ddel l k) : q ∈ l := (List.mem_filter.mp h).1
theorem del_len (l : List (Tx × α)) (k : Tx) : (ddel l k).length ≤ l.length := List.length_filter_le _ _
theorem get_del (l : List (Tx × α)) (k j : Tx) : dget (ddel l k) j = if j = k then none else dget l j := by
  induction l with
  | nil =>
    show none = _
    split <;> rfl
  | cons p r ih =>
    rw [get_cons]
    by_cases h : p.1 = k
    · have e : ddel (p :: r) k = ddel r k := by
        unfold ddel
        rw [List.filter_cons, decide_eq_false (fun z => z h), if_neg Bool.false_ne_true]
      rw [e, ih]
      by_cases h2 : j = k
      · rw [if_pos h2, if_pos h2]
      · rw [if_neg h2, if_neg h2, if_neg (fun z => h2 (by rw [← z, h]))]
    · have e : ddel (p :: r) k = p :: ddel r k := by
        unfold ddel
        rw [List.filter_cons, decide_eq_true (p := p.1 ≠ k) h, if_pos rfl]
      rw [e, get_cons, ih]
      by_cases h2 : j = k
      · rw [if_pos h2, if_pos h2, if_neg (fun z => h (by rw [z, h2]))]
      · rw [if_neg h2, if_neg h2]
theorem del_same {l : List (Tx × α)} {k : Tx} (h : k ∉ dkeys l) : ddel l k = l := by
  unfold ddel
  rw [List.filter_eq_self]
  intro p hp
  exact decide_eq_true fun z => h (by rw [← z]; exact mem_keys hp)
theorem del_cons {p : Tx × α} {r : List (Tx × α)} (h : p.1 ∉ dkeys r) : ddel (p :: r) p.1 = r := by
  have e : ddel (p :: r) p.1 = ddel r p.1 := by
    unfold ddel
    rw [List.filter_cons, decide_eq_false (fun z => z rfl), if_neg Bool.false_ne_true]
  rw [e, del_same h]
/-! ## walks -/
theorem fold_inv {f : S → β → S} {I : S → Prop} : ∀ {ys : List β} {s : S}, I s → (∀ s y, y ∈ ys → I s → I (f s y)) → I (ys.foldl f s)
  | [], _, h, _ => h
  | y :: r, s, h, hs => fold_inv (ys := r) (hs s y List.mem_cons_self h) fun s2 z hz => hs s2 z (List.mem_cons_of_mem _ hz)
theorem out_all [Inhabited S] {step : S → β → Stp S Unit} {g : S → β → S} (hf : ∀ s y, step s y = .go (g s y)) (l : List β) (s : S) : outL (runL step l s) = l.foldl g s := by
  rw [runL_all step g hf]
  rfl
theorem run_is {step : S → β → Stp S R} {g : S → β → S} (hf : ∀ s y, step s y = .go (g s y)) {l : List β} {s0 s : S} (h : runL step l s0 = .go s) : s = l.foldl g s0 := by
  rw [runL_all step g hf] at h
  exact (Stp.go.inj h).symm
theorem run_inv {step : S → β → Stp S R} {g : S → β → S} (hf : ∀ s y, step s y = .go (g s y)) {I : S → Prop} {l : List β} {i : Nat} {s0 s : S} (h : runL step (l.take i) s0 = .go s) (h0 : I s0) (hs : ∀ s y, y ∈ l → I s → I (g s y)) : I s := by
  rw [run_is hf h]
  exact fold_inv h0 fun s y hy => hs s y (List.mem_of_mem_take hy)
/-- with the count of what has been walked -/
theorem fold_cnt {f : S → β → S} {I : Nat → S → Prop} {l : List β} {s0 : S} (h0 : I 0 s0) (hs : ∀ n s y, l[n]? = some y → I n s → I (n + 1) (f s y)) : ∀ i, i ≤ l.length → I i ((l.take i).foldl f s0)
  | 0, _ => by
    rw [List.take_zero]
    exact h0
  | i + 1, h => by
    have ih := fold_cnt h0 hs i (by omega)
    have e : l[i]? = some l[i] := List.getElem?_eq_getElem (by omega)
    rw [List.take_add_one, e, List.foldl_append]
    exact hs i _ _ e ih
theorem run_cnt {step : S → β → Stp S R} {g : S → β → S} (hf : ∀ s y, step s y = .go (g s y)) {I : Nat → S → Prop} {l : List β} {i : Nat} {s0 s : S} (h : runL step (l.take i) s0 = .go s) (hi : i ≤ l.length) (h0 : I 0 s0) (hs : ∀ n s y, l[n]? = some y → I n s → I (n + 1) (g s y)) : I i s := by
  rw [run_is hf h]
  exact fold_cnt h0 hs i hi
theorem out_cnt [Inhabited S] {step : S → β → Stp S Unit} {g : S → β → S} (hf : ∀ s y, step s y = .go (g s y)) {I : Nat → S → Prop} {l : List β} {s0 : S} (h0 : I 0 s0) (hs : ∀ n s y, l[n]? = some y → I n s → I (n + 1) (g s y)) : I l.length (outL (runL step l s0)) := by
  rw [out_all hf]
  have := fold_cnt (f := g) h0 hs l.length (Nat.le_refl _)
  rw [List.take_length] at this
  exact this
theorem fold_and (p : β → Bool) : ∀ (l : List β) (b : Bool), l.foldl (fun s y => s && !p y) b = (b && !l.any p)
  | [], b => by simp
  | y :: r, b => by
    rw [List.foldl_cons, fold_and p r, List.any_cons]
    cases b <;> cases p y <;> simp
theorem fold_puts [Inhabited α] {m : List (Tx × α)} (d : α) : ∀ {r l : List (Tx × α)}, (∀ q ∈ r, dget m q.1 = some q.2) → (dkeys (l ++ r)).Nodup → (dkeys r).foldl (fun s y => dput s y ((dget m y).getD d)) l = l ++ r
  | [], l, _, _ => by simp [dkeys]
  | p :: r, l, h, hn => by
    have hk : p.1 ∉ dkeys l := fun z => by
      rw [dkeys_app, List.nodup_append] at hn
      exact hn.2.2 _ z _ List.mem_cons_self rfl
    show (dkeys r).foldl _ (dput l p.1 ((dget m p.1).getD d)) = _
    rw [h p List.mem_cons_self, put_new hk]
    show (dkeys r).foldl _ (l ++ [p]) = _
    rw [fold_puts d (r := r) (l := l ++ [p]) (fun q hq => h q (List.mem_cons_of_mem _ hq)) (by rw [List.append_assoc]; exact hn), List.append_assoc]
    rfl
end
end Vf

/-! Own layer, exceptions: a list comprehension within an except suite. -/
namespace Vf
open PySem PySem.Spec PyProof.Rows L2 TL Evl HotX
section
variable {prog : Program} {w : World} {A : Around} {E : Value → Shared → Prop} {s : Shared}
/-- a list's iterator at its end, while an exception is handled -/
theorem lend_hot {it l x1 : Addr} {i : Nat} {items : Array Value} {Q : Option Value → Shared → Prop} (hot : HotAt A x1 s.heap) (hne : it ≠ x1) (hit : s.heap.IsListIter it l i) (hl : s.heap.IsList l items) (hx : items[i]? = none)
    (hQ : ∀ h', (∀ b o, b ≠ it → s.heap.get? b = some o → h'.get? b = some o) → Q none { s with heap := h' }) : wpAny (model prog w) A (pyNext (.ref it)) Q E s := by
  obtain ⟨o, ho, hc, hd⟩ := id hit
  obtain ⟨ol, hol, _, nl, hdl⟩ := hl
  obtain ⟨hh, o1, vs1, h1, d1, c1⟩ := hot
  unfold pyNext
  refine wpAny_bind (wpAny_attempt (wpAny_callSpecial?_slot (name := Str.ofString "__next__") hit.typeIs slot_listiter_next (wpAny_call_entry slot_listiter_next hit.typeIs entry_listiter_next ?_ (args_listiter_next _))))
  show wpAny _ _ (field (.ref it) 0 >>= _) _ _ s; refine wpAny_bind (wpAny_field ho hd (x := .ref l) rfl ?_); show wpAny _ _ (if (Value.ref l == Value.none) = true then _ else _) _ _ s; rw [if_neg (show ¬ ((Value.ref l == Value.none) = true) from Bool.false_ne_true)]
  show wpAny _ _ (field (.ref it) 1 >>= _) _ _ s; refine wpAny_bind (wpAny_field ho hd (x := .int i 0) rfl ?_); show wpAny _ _ (seqItems? (.ref l) >>= _) _ _ s; refine wpAny_bind (wpAny_seqItems hol hdl ?_)
  simp only [Int.toNat_natCast, hx]; refine wpAny_bind (wpAny_rule (wpAny_bind (wpAny_setField ho hd (by simp) ?_)))
  have h1b : (s.heap.update it (Obj.mapFields (·.setIfInBounds 0 .none))).get? x1 = some o1 := (Heap.get?_update_other _ _ hne).trans h1
  show wpAny _ _ (newExc (.type "StopIteration") [] >>= _) _ _ _; refine wpAny_bind ?_; simp only [newExc, newTuple]; refine wpAny_bind (wpAny_newObj_type ?_ (by size_fits))
  refine wpAny_bind (m := firstArgMember _ _) (wpAny_of_eq (a := Value.none) (by first | rfl | (simp only [firstArgMember]; rfl)) ?_); refine wpAny_newObj_type ?_ (by size_fits)
  refine raiseNew_hot ⟨hh, o1, vs1, Heap.get?_push_of_some _ (Heap.get?_push_of_some _ h1b), d1, c1⟩ (Nat.ne_of_lt (Heap.lt_size (Heap.get?_push_of_some _ h1b))) (Heap.get?_push_size _ rfl) rfl (by first | (simp; done) | (simp; omega) | (simp only [Array.size_append]; simp; omega)) ?_
  refine wpAny_bind (wpAny_isInstance (T := "StopIteration") (b := true) ⟨_, Heap.get?_update_self _ (Heap.get?_push_size _ rfl) rfl, rfl⟩ isSubtype_stop ?_)
  refine wpAny_pure (hQ _ fun b o2 hb e => ?_)
  have e2 : (s.heap.update it (Obj.mapFields (·.setIfInBounds 0 .none))).get? b = some o2 := (Heap.get?_update_other _ _ (Ne.symm hb)).trans e
  exact (Heap.get?_update_other _ _ (Nat.ne_of_gt (Heap.lt_size (Heap.get?_push_of_some _ e2)))).trans (Heap.get?_push_of_some _ (Heap.get?_push_of_some _ e2))
/-- a tuple's iterator at its end -/
theorem tend_hot {it t x1 : Addr} {i : Nat} {items : Array Value} {Q : Option Value → Shared → Prop} (hot : HotAt A x1 s.heap) (hne : it ≠ x1) (hit : IsTupIter s.heap it t i) (ht : IsTup s.heap t items) (hx : items[i]? = none)
    (hQ : ∀ h', (∀ b o, b ≠ it → s.heap.get? b = some o → h'.get? b = some o) → Q none { s with heap := h' }) : wpAny (model prog w) A (pyNext (.ref it)) Q E s := by
  obtain ⟨o, ho, hc, hd⟩ := id hit
  obtain ⟨ol, hol, _, nl, hdl⟩ := ht
  obtain ⟨hh, o1, vs1, h1, d1, c1⟩ := hot
  unfold pyNext
  refine wpAny_bind (wpAny_attempt (wpAny_callSpecial?_slot (name := Str.ofString "__next__") hit.typeIs slot_tupleiter_next (wpAny_call_entry slot_tupleiter_next hit.typeIs entry_tupleiter_next ?_ (args_tupleiter_next _))))
  show wpAny _ _ (field (.ref it) 0 >>= _) _ _ s; refine wpAny_bind (wpAny_field ho hd (x := .ref t) rfl ?_); show wpAny _ _ (if (Value.ref t == Value.none) = true then _ else _) _ _ s; rw [if_neg (show ¬ ((Value.ref t == Value.none) = true) from Bool.false_ne_true)]
  show wpAny _ _ (field (.ref it) 1 >>= _) _ _ s; refine wpAny_bind (wpAny_field ho hd (x := .int i 0) rfl ?_); show wpAny _ _ (seqItems? (.ref t) >>= _) _ _ s; refine wpAny_bind (wpAny_seqItems hol hdl ?_)
  simp only [Int.toNat_natCast, hx]; refine wpAny_bind (wpAny_rule (wpAny_bind (wpAny_setField ho hd (by simp) ?_)))
  have h1b : (s.heap.update it (Obj.mapFields (·.setIfInBounds 0 .none))).get? x1 = some o1 := (Heap.get?_update_other _ _ hne).trans h1
  show wpAny _ _ (newExc (.type "StopIteration") [] >>= _) _ _ _; refine wpAny_bind ?_; simp only [newExc, newTuple]; refine wpAny_bind (wpAny_newObj_type ?_ (by size_fits))
  refine wpAny_bind (m := firstArgMember _ _) (wpAny_of_eq (a := Value.none) (by first | rfl | (simp only [firstArgMember]; rfl)) ?_); refine wpAny_newObj_type ?_ (by size_fits)
  refine raiseNew_hot ⟨hh, o1, vs1, Heap.get?_push_of_some _ (Heap.get?_push_of_some _ h1b), d1, c1⟩ (Nat.ne_of_lt (Heap.lt_size (Heap.get?_push_of_some _ h1b))) (Heap.get?_push_size _ rfl) rfl (by first | (simp; done) | (simp; omega) | (simp only [Array.size_append]; simp; omega)) ?_
  refine wpAny_bind (wpAny_isInstance (T := "StopIteration") (b := true) ⟨_, Heap.get?_update_self _ (Heap.get?_push_size _ rfl) rfl, rfl⟩ isSubtype_stop ?_)
  refine wpAny_pure (hQ _ fun b o2 hb e => ?_)
  have e2 : (s.heap.update it (Obj.mapFields (·.setIfInBounds 0 .none))).get? b = some o2 := (Heap.get?_update_other _ _ (Ne.symm hb)).trans e
  exact (Heap.get?_update_other _ _ (Nat.ne_of_gt (Heap.lt_size (Heap.get?_push_of_some _ e2)))).trans (Heap.get?_push_of_some _ (Heap.get?_push_of_some _ e2))
theorem hot_keep {x1 : Addr} {h h2 : Heap} (hot : HotAt A x1 h) (k : ∀ b o, h.get? b = some o → h2.get? b = some o) : HotAt A x1 h2 := by
  obtain ⟨hh, o1, vs1, h1, d1, c1⟩ := hot
  exact ⟨hh, o1, vs1, k _ _ h1, d1, c1⟩
theorem hot_lt {x1 : Addr} {h : Heap} (hot : HotAt A x1 h) : x1 < h.objs.size := by
  obtain ⟨hh, o1, vs1, h1, d1, c1⟩ := hot
  exact Heap.lt_size h1
/-- a, b = t within an except suite -/
theorem unpack_hot {t x1 : Addr} {items : Array Value} {targets : List (Bool × (Value → Sem Unit))} {Q : Unit → Shared → Prop} (hot : HotAt A x1 s.heap) (ht : IsTup s.heap t items) (hn : targets.length = items.size) (hstar : targets.findIdx? (·.1) = none)
    (h : ∀ h', (∀ b o, s.heap.get? b = some o → h'.get? b = some o) → wpAny (model prog w) A (assignInOrder (targets.map (·.2)) items.toList) Q E { s with heap := h' }) : wpAny (model prog w) A (unpack (.ref t) targets) Q E s := by
  have hlt : t ≠ s.heap.objs.size := by obtain ⟨o, ho, _⟩ := ht; exact Nat.ne_of_lt (Heap.lt_size ho)
  have hx1 := hot_lt hot
  unfold unpack; rw [hn, hstar]
  refine wpAny_bind (wpAny_holding ?_)
  unfold unpackItems; refine wpAny_bind ?_; unfold notIterableAtAll
  refine wpAny_bind (wpAny_specialOf ht.typeIs slot_tuple_iter.lookup (wpAny_pure ?_))
  simp only [Bool.false_eq_true, if_false]; refine wpAny_bind (wpAny_holding (iter_tuple ht ?_))
  refine wpAny_bind (wpAny_holding (draw_tuple hlt items.size 0 _ _ ⟨_, Heap.get?_push_size _ rfl, rfl, rfl⟩ (ht.push _) (by omega) fun h3 hit3 hs3 => ?_))
  have hall : List.take items.size (List.drop 0 items.toList) = items.toList := (by rw [List.drop_zero]; exact List.take_of_length_le (by simp))
  rw [hall, if_neg (by simp)]
  have ht3 : IsTup h3 t items := (ht.push _).extBut hs3.extBut hlt
  have k3 : ∀ b o, s.heap.get? b = some o → h3.get? b = some o := fun b o e => hs3.extBut b o (Nat.ne_of_lt (Heap.lt_size e)) (Heap.get?_push_of_some _ e)
  refine wpAny_bind (wpAny_holding (tend_hot (s := { s with heap := h3 }) (hot_keep hot k3) (Nat.ne_of_gt hx1) hit3 ht3 (by simp) fun h4 he4 => ?_))
  simp only [Option.isSome_none, Bool.false_eq_true, if_false]
  exact wpAny_pure (h h4 fun b o e => he4 b o (Nat.ne_of_lt (Heap.lt_size e)) (k3 b o e))
end

section
variable {X : Cx}
theorem hot_pin {p : Addr × Obj} {pins : List (Addr × Obj)} {σ : L2.St} {H : Hp} {s : Shared} (h : L2H.Hot1 X.A p) (I : Inv X pins σ H s) (hp : p ∈ X.pn ++ pins) : HotAt X.A p.1 s.heap := by
  obtain ⟨hh, v1, e1, c1⟩ := h
  exact ⟨hh, p.2, v1, (I.pin p hp).1, e1, c1⟩
/-- the context of a block within an except suite -/
abbrev blkH (X : Cx) (p : Addr × Obj) (s : Shared) (H : Hp) (scope : Scope) (cenv : Env) (fp : List Addr) : Cx := { X.blk s H scope cenv fp with pn := [p] }
theorem inv_pn {X : Cx} {p : Addr × Obj} {s0 : Shared} {H0 : Hp} {scope : Scope} {cenv : Env} {fp : List Addr} {σ : L2.St} {H : Hp} {s : Shared} (I : Inv (X.blk s0 H0 scope cenv fp) [p] σ H s) : Inv (blkH X p s0 H0 scope cenv fp) [] σ H s :=
  ⟨⟨I.ok.mod, I.ok.kind, I.ok.glob, I.ok.blt, I.ok.above, I.ok.inj, I.ok.has, I.ok.cab, I.ok.hd, I.ok.frames, I.ok.stk, I.ok.exf, I.ok.bs, I.ok.bsz, I.ok.noex, I.ok.exfs, I.ok.funs, I.ok.frf⟩, I.os, I.bare, I.base, I.loc, I.cell, I.free, I.freeC, I.pin, I.hok, I.len⟩
/-- (a, b, ..) = a tuple, within an except suite -/
theorem pg_tupH {es : List Expr} {k n : Nat} {t : TGs} {pos : Pos} (hc : L2H.HotC X) (h : PGs X es t) (hn : (assignEach es X.env).length = n := by rfl) (hst : (assignEach es X.env).findIdx? (·.1) = none := by rfl) : PG X (.Tuple es k pos) (gTup X.K n t) := by
  refine ⟨fun pins s σ H v u Q I r hw => ?_⟩
  obtain ⟨x1, hot⟩ := hc.at I
  obtain ⟨a, xs, e1, hq, hl, hw⟩ := hw; subst e1; cases r
  obtain ⟨its, rv, ht, hz⟩ := I.tuple hq
  rw [PyProof.Rows.assign_Tuple]
  refine wpAny_bind (wpAny_standAt (unpack_hot hot ht (by simp [hn, ← hl, rv.length]) hst fun h2 hx => ?_))
  exact h.run pins _ σ H xs _ Q (I.kept (t' := s.toks) fun b o e => hx b o e) (by simpa using rv) hw
/-- the handled exception stays where it is while a block runs -/
theorem pin_blk {p : Addr × Obj} {pins : List (Addr × Obj)} {σ σ2 : L2.St} {H : Hp} {s s4 : Shared} {scope : Scope} {ce : Env} {fp : List Addr} (I : Inv X pins σ H s) (hp : p ∈ X.pn ++ pins) (J : Inv (X.blk s H scope ce fp) [] σ2 H s4)
    (k : ∀ b o, s.heap.get? b = some o → s4.heap.get? b = some o) (hL : s.heap.objs.size ≤ ce.locals) : Inv (X.blk s H scope ce fp) [p] σ2 H s4 :=
  J.pins_of fun q hq => by
    have e : q = p := List.mem_singleton.mp hq
    subst e
    obtain ⟨g, n, l, f, c⟩ := I.pin q hp
    refine ⟨k _ _ g, n, Nat.ne_of_lt (Nat.lt_of_lt_of_le (Heap.lt_size g) hL), ?_, c⟩
    show q.1 ∉ frs X.stack
    rcases I.ok.stk with e | ⟨e, ef⟩
    · rw [e]
      exact f
    · rw [e]
      intro hm
      obtain ⟨en, he, z⟩ := List.mem_filterMap.mp hm
      rcases List.mem_cons.mp he with e2 | e2
      · rw [e2, ef] at z
        exact l (Option.some.inj z).symm
      · exact f (List.mem_filterMap.mpr ⟨en, e2, z⟩)
/-- the list's iterator's turns while an exception is handled -/
theorem item_hot {tg : Expr} {a it : Addr} {i : Nat} {pins : List (Addr × Obj)} {s : Shared} {σ : L2.St} {H : Hp} {E : Value → Shared → Prop} (I : Inv X pins σ H s) (hf : FpOk X pins H it) (st : s.heap.IsListIter it a i) (hg : (Itl X.K a).go i H) :
    wpAny (model X.prog X.w) X.A (pyNext (.ref it)) (fun r s1 => ∃ u, r = some u ∧ wpAny (model X.prog X.w) X.A (letOwnedTupleGo tg (.ref it) u) (fun _ s2 => ∃ x, Inv X pins σ H s2 ∧ RelV x u ∧ (Itl X.K a).yld i H x H ∧ s2.heap.IsListIter it a (i + 1)) E s1) E s := by
  obtain ⟨xs, x, hq, hx⟩ := hg
  obtain ⟨its, rv, ph, hz⟩ := I.list hq
  obtain ⟨u, hu, ru⟩ := rv.get hx
  obtain ⟨f0, f1, f2, f3, f4, f5⟩ := hf
  refine wpAny_pyNext_list_item st ph.isList (x := u) (by simpa using hu) fun h2 st2 sb => ?_
  have J : Inv X pins σ H { s with heap := h2 } := I.turned (t' := s.toks) (fun b o hb e => (sb.2 b hb).trans e) f0 f1 f3 f4 f5
  obtain ⟨o, e, c, d⟩ := id st2
  exact ⟨u, rfl, go_of (s := { s with heap := h2 }) e c d (by decide) ⟨x, J, ru, ⟨rfl, fun ys hy => by rw [I.list_inj hy hq]; exact hx⟩, st2⟩⟩
theorem done_hot {a it x1 : Addr} {i : Nat} {pins : List (Addr × Obj)} {s : Shared} {σ : L2.St} {H : Hp} {E : Value → Shared → Prop} (hot : HotAt X.A x1 s.heap) (hne : it ≠ x1) (I : Inv X pins σ H s) (hf : FpOk X pins H it) (st : s.heap.IsListIter it a i) (hg : (Itl X.K a).stop i H) :
    wpAny (model X.prog X.w) X.A (pyNext (.ref it)) (fun r s1 => r = none ∧ Inv X pins σ H s1) E s := by
  obtain ⟨xs, hq, hx⟩ := hg
  obtain ⟨its, rv, ph, hz⟩ := I.list hq
  obtain ⟨f0, f1, f2, f3, f4, f5⟩ := hf
  have hl := rv.length
  exact lend_hot hot hne st ph.isList (by simp; omega) fun h2 eb => ⟨rfl, I.turned (t' := s.toks) (fun b o hb e => eb b o hb e) f0 f1 f3 f4 f5⟩
/-- a list comprehension within an except suite -/
theorem pe_lcH0 {elt tg l : Expr} {ifs : List Expr} {scope : Scope} {own : List (Str × Nat)} {pos : Pos} {tl : TE} {g : TG} {tt : TT} {te : TE} {p : Addr × Obj} (hp1 : L2H.Hot1 X.A p) (hp2 : p ∈ X.pn) (hN : X.N.Nodup) (hl : PE X l tl) (ok : BlkOk X.N X.env.scope scope own)
    (hg : ∀ (s : Shared) (H : Hp) (C : Addr) (cl : List (Str × Addr)) (fp : List Addr), PG (blkH X p s H scope (compEnvC scope cl C X.env) fp) tg g)
    (ht : ∀ (s : Shared) (H : Hp) (C : Addr) (cl : List (Str × Addr)) (fp : List Addr), PTs (blkH X p s H scope (compEnvC scope cl C X.env) fp) ifs tt)
    (he : ∀ (s : Shared) (H : Hp) (C : Addr) (cl : List (Str × Addr)) (fp : List Addr), PE (blkH X p s H scope (compEnvC scope cl C X.env) fp) elt te)
    (hs : ∀ x, foldedSetIterable l X.env x = pure x := by intro _; rfl) : PE X (.ListComp elt [⟨tg, l, ifs, 0⟩] scope pos) (tLc (iList X.K tl) g tt te (own.map (·.2))) := by
  refine ⟨fun pins s σ H Q I h => ?_⟩
  have hcap : ∀ y ∈ scope.names, y.2 = .free → ∃ c, X.env.cells.lookup y.1 = some c := fun y hy e => (ok.free y hy e).elim (fun k => I.ok.has _ (.inl k)) (fun k => I.ok.has _ (.inr k))
  rw [eval_ListComp]
  refine wpAny_comprehension_free (use := none) rfl hs (closure_ok hcap) ok.kind (fun y hy e => by rw [ok.uniq y hy, e]) (thn (hl.run pins s σ H _ I h) fun v s1 ⟨x, H2, I1, r1, q1⟩ => ?_)
  obtain ⟨a, e, ⟨xs, hq⟩, q⟩ := q1; subst e; cases r1
  obtain ⟨its, rv, ph, hz⟩ := I1.list hq
  refine wpAny_pyIter_list ph.isList ?_
  -- the iterator stands
  generalize hit : s1.heap.objs.size = it
  generalize hs2 : ({ s1 with heap := s1.heap.push { cls := .type "list_iterator", data := .fields #[.ref a, .int 0 0] } } : Shared) = s2
  have iv2 : Inv X pins σ H2 s2 := by
    rw [← hs2]
    exact I1.kept (t' := s1.toks) fun b o e => Heap.get?_push_of_some _ e
  have st2 : s2.heap.IsListIter it a 0 := by
    rw [← hs2, ← hit]
    exact ⟨_, Heap.get?_push_size _ rfl, rfl, rfl⟩
  have ff2 : FpOk X pins H2 it := by
    have z := I1.fpOk (H' := H2) (Nat.le_of_eq hit) (I1.hok.fresh (Nat.le_of_eq hit))
    exact z
  have it2 : it < s2.heap.objs.size := by
    obtain ⟨o, e, _⟩ := st2
    exact Heap.lt_size e
  refine wpAny_newObj_type (newEnv_comp ?_) (Nat.zero_le _)
  generalize hD : s2.heap.objs.size = D
  obtain ⟨W, ⟨m0, w0⟩, turn⟩ := q D (iv2.hok.fresh (Nat.le_of_eq hD))
  generalize hs3 : ({ s2 with heap := s2.heap.push { cls := .type "list", data := .seq ([] : List Value).toArray } } : Shared) = s3
  have iv3 : Inv X pins σ (upd H2 D (.lst [])) s3 := by
    rw [← hs3]
    exact iv2.laid (t' := s2.toks) (fun b o e => Heap.get?_push_of_some _ e) (Nat.le_of_eq hD) ⟨Nat.zero_le _, [], 0, .nil, (by rw [← hD]; exact Heap.get?_push_size _ rfl)⟩
  have hp3 : s3.heap = s2.heap.push { cls := .type "list", data := .seq ([] : List Value).toArray } := (by rw [← hs3])
  have it3 : it < s3.heap.objs.size := (by rw [hp3, Heap.size_push]; exact Nat.lt_succ_of_lt it2)
  have st3 : s3.heap.IsListIter it a 0 := by
    obtain ⟨o, e, c, d⟩ := st2
    exact ⟨o, (by rw [hp3]; exact Heap.get?_push_of_some _ e), c, d⟩
  have ff3 : FpOk X pins (upd H2 D (.lst [])) it := ⟨(by rw [upd_ne (by rw [← hD]; exact Nat.ne_of_lt it2)]; exact ff2.1), ff2.2⟩
  have iv4 := block_start (fp := [it]) iv3 ok hN (fun b hb => by rw [List.mem_singleton.mp hb]; exact ⟨ff3, it3⟩)
  have pg := hg s3 (upd H2 D (.lst [])) s3.heap.objs.size (cellsFrom (s3.heap.objs.size + 1) scope.names (cloFrom X.env.cells scope.names [])) [it]
  have pt := ht s3 (upd H2 D (.lst [])) s3.heap.objs.size (cellsFrom (s3.heap.objs.size + 1) scope.names (cloFrom X.env.cells scope.names [])) [it]
  have pe := he s3 (upd H2 D (.lst [])) s3.heap.objs.size (cellsFrom (s3.heap.objs.size + 1) scope.names (cloFrom X.env.cells scope.names [])) [it]
  show codeAny _ _ (.compStart (.ListComp elt [⟨tg, l, ifs, 0⟩] scope pos) 0 (.ref it) (.ref D) (compEnvC scope (cellsFrom (s3.heap.objs.size + 1) scope.names (cloFrom X.env.cells scope.names [])) s3.heap.objs.size X.env)) (compPost (model X.prog X.w) X.A X.xe none (EP X pins σ Q) (.ref D) s3.heap.objs.size) { s3 with heap := pushCells (s3.heap.push { cls := .type "dict", data := .dict #[] }) scope.names }
  generalize hce : compEnvC scope (cellsFrom (s3.heap.objs.size + 1) scope.names (cloFrom X.env.cells scope.names [])) s3.heap.objs.size X.env = ce at iv4 pg pt pe ⊢
  have cL : ce.locals = s3.heap.objs.size := (by subst hce; rfl)
  generalize hH3 : upd H2 D (.lst []) = H3 at iv3 iv4 pg pt pe w0 ff3
  have k4 : ∀ b o, s3.heap.get? b = some o → (pushCells (s3.heap.push { cls := .type "dict", data := .dict #[] }) scope.names).get? b = some o := fun b o e => pushCells_keeps _ _ _ _ (Heap.get?_push_of_some _ e)
  generalize hs4 : ({ s3 with heap := pushCells (s3.heap.push { cls := .type "dict", data := .dict #[] }) scope.names } : Shared) = s4 at iv4 ⊢
  have k4b : ∀ b o, s3.heap.get? b = some o → s4.heap.get? b = some o := (by rw [← hs4]; exact k4)
  have st4 : s4.heap.IsListIter it a 0 := (by obtain ⟨o, e, c, d⟩ := st3; exact ⟨o, k4b _ _ e, c, d⟩)
  have iv4p := inv_pn (pin_blk (p := p) iv3 (List.mem_append_left _ hp2) iv4 k4b (Nat.le_of_eq cL.symm))
  have hnep : p.1 ≠ it := ff2.2.2.2.2.2 p (List.mem_append_left _ hp2)
  have stat : ∀ {τ : L2.St} {H' : Hp} {s' : Shared}, Inv (blkH X p s3 H3 scope ce [it]) [] τ H' s' → H' it = none → FpOk (blkH X p s3 H3 scope ce [it]) [] H' it := fun {τ H' s'} J hn =>
    ⟨hn, (J.ok.exf it List.mem_cons_self).1, J.ok.exfs it List.mem_cons_self, .inl List.mem_cons_self, fun x c e => (J.ok.exf it List.mem_cons_self).2 x c e, fun r hr => by
      have e : r = p := List.mem_singleton.mp hr
      rw [e]
      exact hnep⟩
  have loop : codeAny (model X.prog X.w) X.A (.compLoop (.ListComp elt [⟨tg, l, ifs, 0⟩] scope pos) 0 (.ref it) (.ref D) ce) (compPost (model X.prog X.w) X.A X.xe none (EP X pins σ Q) (.ref D) s3.heap.objs.size) s4 := by
    refine compLoop_any (fun n s' => ∃ i H', Inv (blkH X p s3 H3 scope ce [it]) [] (wipe σ (own.map (·.2))) H' s' ∧ s'.heap.IsListIter it a i ∧ H' it = none ∧ W i n H') ?_ m0 ⟨0, H3, iv4p, st4, ff3.1, w0⟩
    rintro n s5 ⟨i, H5, iv5, st5, n5, w5⟩
    rcases turn i n H5 w5 with ⟨stop, qq⟩ | ⟨go, Nx, hNx, step⟩
    · have td := done_hot (E := fun _ _ => False) (hot_pin (X := blkH X p s3 H3 scope ce [it]) hp1 iv5 (List.mem_singleton.mpr rfl)) (Ne.symm hnep) iv5 (stat iv5 n5) st5 stop
      refine thnF td fun r s6 ⟨hr, iv6⟩ => ?_
      subst hr
      have iv7 : Inv X pins σ H5 s6 := iv3.call' (ch := [it]) iv6.os iv6.base iv6.hok iv6.bare fun b hb => by
        rw [List.mem_singleton.mp hb]
        exact ⟨ff3.2.2.2.1, ff3.2.1, ff3.2.2.2.2.1, ff3.2.2.2.2.2⟩
      have nC : H5 s3.heap.objs.size = none := (by have z : H5 ce.locals = none := iv6.free; rw [cL] at z; exact z)
      obtain ⟨m, hn, _⟩ := iv6.loc
      have hn : s6.heap.Ns ce.locals m := hn
      rw [cL] at hn
      have fc := iv3.fpOk (Nat.le_refl _) nC
      obtain ⟨f0, f1, f2, f3, f4, f5⟩ := fc
      exact ⟨m, hn, fun h3 sb => ⟨.ref D, H5, iv7.turned (t' := s6.toks) (fun b o hb e => (sb.2 b hb).trans e) f0 f1 f3 f4 f5, rfl, qq⟩⟩
    · have ti := item_hot (X := blkH X p s3 H3 scope ce [it]) (tg := tg) (E := fun _ _ => False) iv5 (stat iv5 n5) st5 go
      refine thnF ti fun r s6 ⟨u, hr, h6⟩ => ?_
      subst hr
      refine thnF h6 fun _ s7 ⟨x, iv7, r7, y7, st7⟩ => ?_
      have iv7p := iv7.pinned (fp := [it]) (fun b hb => by rw [List.mem_singleton.mp hb]; exact stat iv7 n5) (fun b hb => by
        obtain ⟨o, e, c, d⟩ := st7
        rw [List.mem_singleton.mp hb]
        exact ⟨o, e, fun v z => by rw [d] at z; cases z⟩)
      refine thnF (pg.run _ s7 _ H5 x u _ iv7p r7 (step x H5 y7)) fun _ s8 ⟨σ8, H8, iv8, hw8, q8⟩ => ?_
      refine thnF (pt.run _ s8 σ8 H8 _ iv8 q8) fun b s9 ⟨H9, iv9, q9⟩ => ?_
      have fin : ∀ {s' : Shared} {H' : Hp}, Inv (blkH X p s3 H3 scope ce [it]) ([] ++ pinsAt [it] s7.heap) σ8 H' s' → Nx H' → ∃ m, m < n ∧ ∃ i H', Inv (blkH X p s3 H3 scope ce [it]) [] (wipe σ (own.map (·.2))) H' s' ∧ s'.heap.IsListIter it a i ∧ H' it = none ∧ W i m H' := fun {s' H'} J nx => by
        obtain ⟨m2, hm, w2⟩ := hNx H' nx
        obtain ⟨o7, e7, c7, d7⟩ := st7
        have z := J.pin (it, o7) (List.mem_append_right _ (List.mem_append_right _ (mem_pinsAt (List.mem_singleton.mpr rfl) e7)))
        refine ⟨m2, hm, i + 1, H', (J.unpinned (pins := [])).weak (by rw [← hw8, wipe_length]) (fun j v e => ?_), ⟨o7, z.1, c7, d7⟩, z.2.1, w2⟩
        rw [← hw8] at e
        exact (wipe_some e).1
      cases b with
      | false =>
        simp only [Bool.false_eq_true, if_false] at q9 ⊢
        exact fin iv9 q9
      | true =>
        simp only [if_true] at q9 ⊢
        refine thnF (pe.run _ s9 σ8 H9 _ iv9 q9) fun z s10 ⟨yv, H10, iv10, r10, acc, hD10, hz10, nx⟩ => ?_
        exact app_ok (X := blkH X p s3 H3 scope ce [it]) iv10 hD10 hz10 r10 fun s11 iv11 => fin iv11 nx
  exact codeAny_compStart_list loop (wpAny_pyIter_listiter st4 loop)
/-- the same, the written part named -/
theorem pe_lcH (K : PySem.W.Frag) {elt tg l : Expr} {ifs : List Expr} {scope : Scope} {own : List (Str × Nat)} {pos : Pos} {tl : TE} {g : TG} {tt : TT} {te : TE} {p : Addr × Obj} (hp1 : L2H.Hot1 X.A p) (hp2 : p ∈ X.pn) (hN : X.N.Nodup) (hl : PE X l tl) (ok : BlkOk X.N X.env.scope scope own)
    (hg : ∀ (s : Shared) (H : Hp) (C : Addr) (cl : List (Str × Addr)) (fp : List Addr), PG (blkH X p s H scope (compEnvC scope cl C X.env) fp) tg g)
    (ht : ∀ (s : Shared) (H : Hp) (C : Addr) (cl : List (Str × Addr)) (fp : List Addr), PTs (blkH X p s H scope (compEnvC scope cl C X.env) fp) ifs tt)
    (he : ∀ (s : Shared) (H : Hp) (C : Addr) (cl : List (Str × Addr)) (fp : List Addr), PE (blkH X p s H scope (compEnvC scope cl C X.env) fp) elt te)
    (hs : ∀ x, foldedSetIterable l X.env x = pure x := by intro _; rfl) (h : X.K = K := by rfl) : PE X (.ListComp elt [⟨tg, l, ifs, 0⟩] scope pos) (tLc (iList K tl) g tt te (own.map (·.2))) := h ▸ pe_lcH0 hp1 hp2 hN hl ok hg ht he hs
theorem pg_tupHK (K : PySem.W.Frag) {es : List Expr} {k n : Nat} {t : TGs} {pos : Pos} (hc : L2H.HotC X) (h : PGs X es t) (hn : (assignEach es X.env).length = n := by rfl) (hst : (assignEach es X.env).findIdx? (·.1) = none := by rfl) (h2 : X.K = K := by rfl) : PG X (.Tuple es k pos) (gTup K n t) := h2 ▸ pg_tupH hc h hn hst
end
end Vf

/-! Own layer: pairs, defs that raise, what is caught. -/
namespace Vf
open PySem PySem.Spec PyProof.Rows L2 TL Evl
section
variable {K : PySem.W.Frag} {σ : L2.St} {H H' : Hp} {ta : TA} {tb te td : TE} {D : Ends} {tz : TS} {l l2 : List (List V)} {xs : List V} {p : Addr}
/-! ## written lists of tuples -/
def EvR (K : PySem.W.Frag) (ta : TA) (σ : L2.St) (H : Hp) (l : List (List V)) : Prop := ∀ H1, Ex H H1 → ∀ Q : List V → Hp → Prop, (∀ ts H2, Ex H1 H2 → TupsAt K H2 ts l → Q (ts.map V.ref) H2) → ta σ H1 Q
theorem er_nil : EvR K tNil σ H [] := fun H1 _ _ q => q [] H1 (Ex.refl H1) .nil
theorem er_cons (h : EvU te σ H xs) (hr : EvR K ta σ H l) : EvR K (tCons te ta) σ H (xs :: l) := fun H1 e _ q => h H1 e _ fun p H2 _ e2 hp => hr H2 (e.trans e2) _ fun ts H3 e3 ht => q (p :: ts) H3 (e2.trans e3) (.cons (st_of (e3 p _ hp)) ht)
theorem paired_len {α β : Type} {F : α → β → Prop} : ∀ {a : List α} {b : List β}, Paired F a b → a.length = b.length
  | _, _, .nil => rfl
  | _, _, .cons _ r => congrArg (· + 1) (paired_len r)
theorem paired_app {α β : Type} {F : α → β → Prop} : ∀ {a c : List α} {b d : List β}, Paired F a b → Paired F c d → Paired F (a ++ c) (b ++ d)
  | _, _, _, _, .nil, h => h
  | _, _, _, _, .cons x r, h => .cons x (paired_app r h)
theorem u2_lst (h : EvR K ta σ H l) (hz : l.length ≤ 100000) : EvU2 K (tLst ta) σ H l := fun H1 e Q q =>
  h H1 e _ fun ts H2 e2 ht => ⟨sz_of (by rw [List.length_map, paired_len ht]; exact hz), fun p np => q p _ (fresh_back e2 np) (e2.trans (Ex.new np)) ⟨ts, upd_same, tups_mono (fun _ _ => ex_t (Ex.new np)) ht⟩⟩
theorem u2_cat (ha : Ev te σ H (.ref p)) (h : IsLU K H p l) (hb : EvU2 K tb σ H l2) (hz : l.length + l2.length ≤ 100000) : EvU2 K (tOp rCat te tb) σ H (l ++ l2) := fun H1 e Q q =>
  ha H1 e _ fun H2 e2 => hb H2 (e.trans e2) _ fun r H3 _ e3 hr => by
    obtain ⟨ts, h1, h2⟩ := h.ex ((e.trans e2).trans e3)
    obtain ⟨us, h3, h4⟩ := hr
    exact ⟨p, r, _, _, rfl, rfl, h1, h3, by rw [List.length_map, List.length_map, paired_len h2, paired_len h4]; exact sz_of hz, fun z nz =>
      q z _ (fresh_back (e2.trans e3) nz) ((e2.trans e3).trans (Ex.new nz)) ⟨ts ++ us, by rw [upd_same, List.map_append], tups_mono (fun _ _ => ex_t (Ex.new nz)) (paired_app h2 h4)⟩⟩
/-! ## pairs of a text and a bool -/
def pb (l : List (Tx × Bool)) : List (List V) := l.map fun q => [vs q.1, V.bl q.2]
theorem pb_app (a b : List (Tx × Bool)) : pb (a ++ b) = pb a ++ pb b := List.map_append
/-- the words that fit -/
def fit (l : List (Tx × Bool)) : List Tx := (l.filter (·.2)).map (·.1)
theorem fit_snoc (l : List (Tx × Bool)) (q : Tx × Bool) : fit (l ++ [q]) = fit l ++ (if q.2 = true then [q.1] else []) := by
  unfold fit
  rw [List.filter_append, List.map_append]
  congr 1
  cases h : q.2
  · rw [List.filter_cons, h]
    rfl
  · rw [List.filter_cons, h]
    rfl
theorem fit_le (l : List (Tx × Bool)) : (fit l).length ≤ l.length := by
  unfold fit
  rw [List.length_map]
  exact List.length_filter_le _ _
theorem tup_at {ts : List Addr} {i : Nat} {x : V} : ∀ {l : List (List V)} {i : Nat} {ts : List Addr}, TupsAt K H ts l → (ts.map V.ref)[i]? = some x → ∃ t q, x = .ref t ∧ l[i]? = some q ∧ SqT K H t q
  | _, i, _, .nil, h => by simp at h
  | _, 0, _, .cons (a := t) (b := q) a r, h => by
    simp only [List.map_cons, List.getElem?_cons_zero, Option.some.injEq] at h
    exact ⟨t, q, h.symm, rfl, a⟩
  | _, i + 1, _, .cons (a := t) (b := q) a r, h => by
    simp only [List.map_cons, List.getElem?_cons_succ] at h
    obtain ⟨t2, q2, e, e2, f⟩ := tup_at (ts := ts) (i := i) r h
    exact ⟨t2, q2, e, by rw [List.getElem?_cons_succ]; exact e2, f⟩
/-- [word for word, fits in some if fits] -/
theorem l_fit {m : List (Tx × Bool)} {i j : Nat} {ws : List Nat} (h : Ev td σ H (.ref p)) (hp : IsLU K H p (pb m)) (hz : m.length ≤ 40000)
    (hw : ∀ w b, wipe (((wipe σ ws).set i (some w)).set j (some b)) ws = wipe σ ws) (hi : ∀ w b, (((wipe σ ws).set i (some w)).set j (some b))[i]? = some (some w)) (hj : ∀ w b, (((wipe σ ws).set i (some w)).set j (some b))[j]? = some (some b)) :
    EvL (tLc (iList K td) (gTup K 2 (gCons (gName i) (gCons (gName j) gNil))) (tB (tVar j)) (tVar i) ws) σ H ((fit m).map vs) := fun H0 e0 Q q => h H0 e0 _ fun H1 e1 => by
  obtain ⟨ts, h1, h2⟩ := (hp.ex (e0.trans e1)).sq
  refine ⟨p, rfl, ⟨_, h1⟩, fun D hD => ?_⟩
  have hlen : ts.length = m.length := by
    rw [paired_len h2]
    exact List.length_map _
  have hDp : D ≠ p := fun z => by
    obtain ⟨us, a, _⟩ := hp.ex (e0.trans e1)
    rw [← z, hD] at a
    cases a
  refine lc_list (xs := ts.map V.ref) (fun n H2 => n ≤ m.length ∧ ∃ H3, Ex H1 H3 ∧ H3 D = none ∧ H2 = upd H3 D (.lst ((fit (m.take n)).map vs))) ⟨Nat.zero_le _, H1, Ex.refl H1, hD, rfl⟩ (fun n H2 _ hI => ?_) (fun n x H2 hx hI => ?_) (fun H2 hI => ?_)
  · obtain ⟨_, H3, e3, n3, rfl⟩ := hI
    exact ex_l (e3.trans (Ex.new n3)) h1
  · obtain ⟨hn, H3, e3, n3, rfl⟩ := hI
    obtain ⟨t, y, rfl, hy, ht⟩ := tup_at (ts := ts) (i := n) h2 hx
    have hlt : n < m.length := by
      have := (List.getElem?_eq_some_iff.mp hx).1
      rw [List.length_map, hlen] at this
      exact this
    have ey : y = [vs (m[n]).1, V.bl (m[n]).2] := by
      unfold pb at hy
      rw [List.getElem?_map, List.getElem?_eq_getElem hlt] at hy
      exact (Option.some.inj hy).symm
    subst ey
    have hs : fit (m.take (n + 1)) = fit (m.take n) ++ (if (m[n]).2 = true then [(m[n]).1] else []) := by
      rw [List.take_add_one, List.getElem?_eq_getElem hlt]
      exact fit_snoc _ _
    refine ⟨t, _, rfl, ex_t (e3.trans (Ex.new n3)) ht, rfl, _, _, rfl, _, _, rfl, ⟨rfl, ?_⟩⟩
    refine ⟨hw _ _, _, hj _ _, (m[n]).2, rfl, ?_⟩
    cases hb : (m[n]).2 with
    | false =>
      rw [if_neg Bool.false_ne_true]
      rw [hb, if_neg Bool.false_ne_true, List.append_nil] at hs
      exact ⟨hlt, H3, e3, n3, by rw [hs]⟩
    | true =>
      rw [if_pos rfl]
      rw [hb, if_pos rfl] at hs
      refine ⟨_, hi _ _, _, upd_same, ?_, hlt, H3, e3, n3, ?_⟩
      · rw [List.length_map]
        have h5 := fit_le (m.take n)
        rw [List.length_take] at h5
        exact sz_lt (by omega)
      · rw [upd_upd, hs, List.map_append]
        rfl
  · obtain ⟨_, H3, e3, n3, rfl⟩ := hI
    rw [List.length_map, hlen, List.take_length]
    exact q D _ (fresh_back e1 hD) (e1.trans (e3.trans (Ex.new n3))) upd_same
end
/-! ## defs that raise: the class is told by a number -/
inductive Res (α : Type) where
  | ok (a : α) : Res α
  | exc (k : Nat) : Res α
def RetX (Cs : Nat → Addr) (k : Nat) (H : Hp) (E : XK) : Prop := ∀ H2, Ex H H2 → E (.ref (Cs k)) none H2
def PX {α : Type} (Cs : Nat → Addr) (Rp : α → Hp → VK → Prop) (r : Res α) (H : Hp) (Q : VK) (E : XK) : Prop := (∀ a, r = .ok a → Rp a H Q) ∧ ∀ k, r = .exc k → RetX Cs k H E
def spX {α : Type} (Cs : Nat → Addr) (Rp : α → Hp → VK → Prop) (R : List V → Hp → Res α → Prop) : Sp := fun ws H Q E => ∃ r, R ws H r ∧ PX Cs Rp r H Q E
section
variable {α S : Type} {Cs : Nat → Addr} {Rp : α → Hp → VK → Prop} {H : Hp} {Q : VK} {E : XK}
theorem retX_T {b : Bool} {x y : Res α} (k : PX Cs Rp (if b = true then x else y) H Q E) (hb : b = true) : PX Cs Rp x H Q E := by
  rw [if_pos hb] at k
  exact k
theorem retX_F {b : Bool} {x y : Res α} (k : PX Cs Rp (if b = true then x else y) H Q E) (hb : b = false) : PX Cs Rp y H Q E := by
  rw [if_neg (by rw [hb]; exact Bool.false_ne_true)] at k
  exact k
theorem retX_run {o : Stp S (Res α)} {g : S → Res α} {r : Res α} (k : PX Cs Rp (aftL o g) H Q E) (h : o = .ret r) : PX Cs Rp r H Q E := by
  rw [h] at k
  exact k
theorem retX_go {o : Stp S (Res α)} {g : S → Res α} {s : S} (k : PX Cs Rp (aftL o g) H Q E) (h : o = .go s ∨ o = .brk s) : PX Cs Rp (g s) H Q E := by
  rcases h with h | h
  · rw [h] at k
    exact k
  · rw [h] at k
    exact k
theorem PX.exc {k : Nat} {H2 : Hp} (p : PX Cs Rp (.exc k) H Q E) (e : Ex H H2) : E (.ref (Cs k)) none H2 := p.2 k rfl H2 e
theorem PX.ret {a : α} (p : PX Cs Rp (.ok a) H Q E) : Rp a H Q := p.1 a rfl
end
/-- what a class that is raised must say -/
structure ErrR (K : PySem.W.Frag) (Cs : Nat → Addr) (k : Nat) : Prop where
  x : PySem.W.excIn K (Cs k) [.type "ValueError", .type "Exception", .type "BaseException", .type "object"] "ValueError.__new__" = true
  kp : PySem.W.keepIn K (.ref (Cs k)) = true
  b : PySem.W.subIn K (.ref (Cs k)) (.type "BaseException") = some true
  t : PySem.W.typeIn K (.ref (Cs k)) = some (.type "type")
section
variable {P : Program} {w : World} {K : PySem.W.Frag} {mg : Str → Option Value} {base : Heap}
theorem okN {x qual : Str} {st : Stmt} {f : Addr} {fd : FuncData} {N ps : List Str} {k : Nat} {sp : Sp} (F : Fun K x qual st f fd) (S : FnScope N ps (defScope st)) (len : ∀ vs H Q E, sp vs H Q E → vs.length = ps.length)
    (hb : ∀ (cdv : Value) (A : Around) (outer : List Env) (s : Shared) (H : Hp) (vs : List V) (Q : VK) (E : XK), Room k (A.deeper (envOfC qual (defScope st) s.heap.objs.size f cdv)) → sp vs H Q E →
      ∃ t, PSs (cxOf (L2N.CX P w) P w K mg base N qual (defScope st) f cdv A outer s H E) (defBody st) t ∧ t { nx := fun _ H' => Q .non H', rt := Q } (start N vs) H) : FnOk P w K mg base (L2N.CX P w) (k + 1) f fd ps sp := by
  obtain ⟨oc, od, kV, doc, pm, an, cdv, ct, osl, rfl, lk, hcd⟩ := F.ex
  exact fn_of lk hcd S len fun A outer s H vs Q E hr hsp => hb cdv A outer s H vs Q E hr hsp
structure CalX (P : Program) (w : World) (K : PySem.W.Frag) (mg : Str → Option Value) (base : Heap) (k : Nat) (x : Str) (ps : List Str) (sp : Sp) : Prop where
  ex : ∃ f fd, FnOk P w K mg base (L2N.CX P w) k f fd ps sp ∧ mg x = some (.ref f) ∧ PySem.W.keepIn K (.ref f) = true ∧ Binds K fd ps []
theorem calX_of {k : Nat} {x : Str} {ps : List Str} {sp : Sp} {f : Addr} {fd : FuncData} (F : FnOk P w K mg base (L2N.CX P w) k f fd ps sp) (g : mg x = some (.ref f)) (kp : PySem.W.keepIn K (.ref f) = true) (b : Binds K fd ps []) :
    CalX P w K mg base k x ps sp := ⟨f, fd, F, g, kp, b⟩
theorem pe_calX {X : Cx} {W : WX} {k : Nat} {x : Str} {ps : List Str} {sp : Sp} {e : Expr} {es : List Expr} {t : TA} {p pos : Pos} (C : CalX X.prog X.w X.K X.mg X.base k x ps sp) (tk : L2N.Takes X W) (hr : Room k X.A) (hg : Gl X x) (ha : PA X (e :: es) t)
    (hdb : (x == ("__debug__" : Str)) = false := by decide) (he : starEach (e :: es) X.env = (false, eval e X.env) :: starEach es X.env := by rfl) (hpl : (backTo pos (starEach es X.env)).any (·.1) = false := by rfl) :
    PE X (.Call (.Name x p) (e :: es) [] pos) (tCallS sp (WE W) t) := by
  obtain ⟨f, fd, F, g, kp, b⟩ := C.ex
  exact pe_callS F hr hg g kp b (fun σ => L2N.passAt tk σ) ha hdb he hpl
end
/-- within a def that catches all -/
theorem takesN0 {X : Cx} : L2N.Takes X (fun _ _ _ _ => False) := fun _ _ ⟨_, _, _, _, _, _, _, _, _, _, _, _, _, _, _, _, w⟩ => w.elim
/-- a call that may raise, its answer used -/
theorem x_call {α : Type} {Cs : Nat → Addr} {Rp : α → Hp → VK → Prop} {R : List V → Hp → Res α → Prop} {E : L2.St → XK} {t : TA} {σ : L2.St} {H : Hp} {ws : List V} {r : Res α} {Q : VK} (h : EvA t σ H ws) (hR : ∀ H1, Ex H H1 → R ws H1 r)
    (ho : ∀ a, r = .ok a → ∀ H1, Ex H H1 → Rp a H1 Q) (hx : ∀ k, r = .exc k → ∀ H1, Ex H H1 → E σ (.ref (Cs k)) none H1) : tCallS (spX Cs Rp R) E t σ H Q :=
  h H (Ex.refl H) _ fun H1 e1 => ⟨r, hR H1 e1, fun a e => ho a e H1 e1, fun k e H2 e2 => hx k e H2 (e1.trans e2)⟩
/-- what isinstance asks, the class told by the reading -/
theorem call_isX {X : Cx} (K : PySem.W.Frag) {a : Addr} {oe : Obj} {cls : Value} {d : Option Addr} {pn : List (Addr × Obj)} (hz : L2N.Zn cls d oe) (hf : ∃ vs, oe.data = .fields vs) (hK : X.K = K := by rfl) :
    CallR (X.suite a ((a, oe) :: pn)) (.builtin "isinstance") (fun xs H Q => ∃ (D : Addr) (c : V) (cv : Value) (b : Bool), cls = .ref D ∧ d = none ∧ ExcC K D ∧ xs = [.ref a, c] ∧ (∀ u, RelV c u → u = cv) ∧ PySem.W.kitOne K (.ref D) cv = some b ∧ Q (.bl b) H) := by
  subst hK
  intro pins s σ H xs us Q I r ⟨D, c, cv, b, e1, e2, C, ex, hc, hk, q⟩
  subst e1 e2
  exact call_isE C hz.zc hf pins s σ H xs us Q I r ⟨c, cv, b, ex, hc, hk, q⟩
theorem e_isX {K : PySem.W.Frag} {σ : L2.St} {H : Hp} {ta tb : TE} {cls : Value} {d : Option Addr} {D a : Addr} {c : V} {cv : Value} {b : Bool} (h1 : cls = .ref D) (h2 : d = none) (C : ExcC K D) (ha : Ev ta σ H (.ref a)) (hb : Ev tb σ H c) (hc : ∀ u, RelV c u → u = cv) (hk : PySem.W.kitOne K (.ref D) cv = some b) :
    Ev (tCB (fun xs H Q => ∃ (D : Addr) (c : V) (cv : Value) (b : Bool), cls = .ref D ∧ d = none ∧ ExcC K D ∧ xs = [.ref a, c] ∧ (∀ u, RelV c u → u = cv) ∧ PySem.W.kitOne K (.ref D) cv = some b ∧ Q (.bl b) H) (tCons ta (tCons tb tNil))) σ H (.bl b) := fun H1 e Q q =>
  ha H1 e _ fun H2 e2 => hb H2 (e.trans e2) _ fun H3 e3 => ⟨D, c, cv, b, h1, h2, C, rfl, hc, hk, q H3 (e2.trans e3)⟩
theorem hot_suite {X : Cx} {a : Addr} {oe : Obj} {cls : Value} {d : Option Addr} {pn : List (Addr × Obj)} (hz : L2N.Zn cls d oe) (hf : ∃ vs, oe.data = .fields vs) : L2H.Hot1 (X.suite a ((a, oe) :: pn)).A (a, oe) := by
  obtain ⟨vs, e⟩ := hf
  exact ⟨rfl, vs, e, hz.2.2 vs e⟩
theorem relv_ref {a : Addr} : ∀ u, RelV (.ref a) u → u = .ref a := fun _ h => h
theorem relv_ty {n : String} : ∀ u, RelV (.ty n) u → u = .type n := fun _ h => h
section
variable {K : PySem.W.Frag} {σ : L2.St} {H : Hp} {ta te tb : TE} {p : Tx} {pl pm : Addr}
/-! ## how often a sign stands in a text -/
def rCountT : V → List V → Hp → VK → Prop := fun x xs H Q => ∃ a b, x = .str a ∧ xs = [.str b] ∧ Q (.int (Txt.count a b)) H
theorem pe_countT {X : Cx} {o e : Expr} {to te : TE} {apos pos : Pos} (ho : PE X o to) (he : PE X e te) (hs : starEach [e] X.env = [(false, eval e X.env)] := by rfl) (hbase : attributeBase o "count" X.env (eval o X.env) = eval o X.env := by rfl) (hline : (apos.endLine == pos.line) = true := by rfl) :
    PE X (.Call (.Attribute o "count" apos) [e] [] pos) (tM1 rCountT to te) := pe_m1 PySem.F.slot_str_count PySem.F.type_str_count mt_count ho he hs hbase hline
theorem count_of {c : Nat} (hc : c < 256) (p : Tx) : Txt.count (mk p) (mk [c]) = ((cuts c p).length : Int) - 1 := by
  have h := congrArg List.length (split_of hc p)
  rw [List.length_map, List.length_map] at h
  rw [← h]
  unfold Txt.split Txt.count
  have hk := kind_ok (x := mk p) (y := mk [c]) (by show (#[c] : Array Nat).all (· < 256) = true; simp [hc])
  cases p with
  | nil =>
    rw [if_pos (by rfl)]
    have h3 := StrLaws.found_one (mk []) c
    cases h4 : Builtin.Str.occurrences (mk []) (mk [c]) 0 (mk []).length ((mk []).length + 1) with
    | nil => rfl
    | cons a b =>
      have h5 : Builtin.Str.occurrences (mk []) ⟨#[c]⟩ 0 (mk []).length 1 = a :: b := h4
      rw [h5] at h3
      exact absurd h3 (by simp [mk])
  | cons d r =>
    rw [if_neg (by
      rw [Bool.or_eq_true, decide_eq_true_eq, decide_eq_true_eq]
      rintro (z | z)
      · rw [len_of, len_of] at z
        simp at z
      · exact hk z)]
    split
    · rename_i z
      rw [List.isEmpty_iff.mp z]
      rfl
    · rw [PySem.length_partsBetween]
      omega
theorem e_count {c : Nat} (ha : Ev ta σ H (vs p)) (hb : Ev te σ H (vs [c])) (hc : c < 256) : Ev (tM1 rCountT ta te) σ H (.int (((cuts c p).length : Int) - 1)) := fun H1 e Q k =>
  ha H1 e _ fun H2 e2 => ⟨⟨mk p, rfl⟩, hb H2 (e.trans e2) _ fun H3 e3 => ⟨mk p, mk [c], rfl, rfl, by rw [count_of hc]; exact k H3 (e2.trans e3)⟩⟩
/-- two own lists laid together -/
theorem l_catRR {β : Type} {g : β → V} {m1 m2 : List β} (ha : Ev ta σ H (.ref pl)) (h1 : H pl = some (.lst (m1.map g))) (hb : Ev tb σ H (.ref pm)) (h2 : H pm = some (.lst (m2.map g))) (hz : m1.length + m2.length ≤ 100000) : EvL (tOp rCat ta tb) σ H ((m1 ++ m2).map g) := fun H1 e Q q =>
  ha H1 e _ fun H2 e2 => hb H2 (e.trans e2) _ fun H3 e3 => ⟨pl, pm, m1.map g, m2.map g, rfl, rfl, ((e.trans e2).trans e3) pl _ h1, ((e.trans e2).trans e3) pm _ h2, by rw [List.length_map, List.length_map]; exact sz_of hz, fun r nr =>
    q r _ (fresh_back (e2.trans e3) nr) ((e2.trans e3).trans (Ex.new nr)) (by rw [upd_same, List.map_append])⟩
end
/-! ## the classes of errors, by number: 0 the base of all -/
structure ErrG (mg : Str → Option Value) (Cs : Nat → Addr) : Prop where
  g0 : mg "RoadError" = some (.ref (Cs 0))
  g1 : mg "NoPath" = some (.ref (Cs 1))
  g2 : mg "NoFile" = some (.ref (Cs 2))
  g3 : mg "InTheWay" = some (.ref (Cs 3))
  g4 : mg "NoClash" = some (.ref (Cs 4))
  g5 : mg "Clashed" = some (.ref (Cs 5))
  g6 : mg "NoVersion" = some (.ref (Cs 6))
  g7 : mg "SameVersion" = some (.ref (Cs 7))
/-- of a class that is raised -/
structure ErrC (K : PySem.W.Frag) (Cs : Nat → Addr) (k : Nat) : Prop where
  ec : ExcC K (Cs k)
  ex0 : PySem.W.exmOne K (.ref (Cs k)) (.ref (Cs 0)) = some true
  is : ∀ j < 8, PySem.W.kitOne K (.ref (Cs k)) (.ref (Cs j)) = some (decide (j = 0 ∨ j = k))
  ve : PySem.W.kitOne K (.ref (Cs k)) (.type "ValueError") = some true
def cs8 (C0 C1 C2 C3 C4 C5 C6 C7 : Addr) : Nat → Addr
  | 0 => C0
  | 1 => C1
  | 2 => C2
  | 3 => C3
  | 4 => C4
  | 5 => C5
  | 6 => C6
  | _ => C7
/-- what is promised of a told call: the word and the answer, or the error's word and True -/
def RetT (lMade : Tx) (word : Nat → Tx) (r : Res (List (Tx × Tx))) (H : Hp) (Q : VK) : Prop :=
  (∀ l, r = .ok l → ∀ p d H2, H p = none → H d = none → p ≠ d → Ex H H2 → H2 p = some (.tup [vs lMade, .ref d]) → H2 d = some (.dK (kd vs l)) → Q (.ref p) H2) ∧
  ∀ k, r = .exc k → ∀ p H2, H p = none → Ex H H2 → H2 p = some (.tup [vs (word k), .bl true]) → Q (.ref p) H2
def spTold (lMade : Tx) (word : Nat → Tx) (R : List V → Hp → Res (List (Tx × Tx)) → Prop) : Sp := fun ws H Q _ => ∃ r, R ws H r ∧ RetT lMade word r H Q
section
variable {X : Cx} {K : PySem.W.Frag} {σ : L2.St} {H : Hp} {ta tb : TE} {pl a b : Addr} {i : Int}
/-! ## tuples, by place; dicts that are alike -/
theorem ix_tupK (K : PySem.W.Frag) (h : X.K = K := by rfl) : IxR X (rIxT K) := h ▸ ix_tup
theorem e_ixU {α : Type} {f : α → V} {l : List α} (d : α) (h : Ev ta σ H (.ref pl)) (hS : SqT K H pl (l.map f)) (hb : Ev tb σ H (.int i)) (hi : 0 ≤ i ∧ i < l.length) : Ev (tOp (rIxT K) ta tb) σ H (f (l.getD i.toNat d)) := ev_op h hb (rv_ixT hS (atI_get f l d hi.1 hi.2))
theorem e_ixV {xs : List V} {v : V} (h : Ev ta σ H (.ref pl)) (hS : H pl = some (.tup xs)) (hb : Ev tb σ H (.int i)) (hv : atI xs i = some v) : Ev (tOp (rIxT K) ta tb) σ H v := ev_op h hb (rv_ixT (st_of hS) hv)
/-- the same files -/
def dsame (l m : List (Tx × Tx)) : Prop := l.length = m.length ∧ ∀ q ∈ l, dget m q.1 = some q.2
theorem dsame_kd {l m : List (Tx × Tx)} (h : dsame l m) : (kd vs l).length = (kd vs m).length ∧ ∀ p ∈ kd vs l, valV (kd vs m) p.1 = some p.2 ∧ flatB p.2 = true := by
  refine ⟨by rw [kd_len, kd_len]; exact h.1, fun p hp => ?_⟩
  obtain ⟨q, hq, rfl⟩ := List.mem_map.mp hp
  refine ⟨?_, rfl⟩
  show valV (kd vs m) (ky q.1) = _
  rw [kd_get, h.2 q hq]
  rfl
theorem dsame_refl {l : List (Tx × Tx)} (h : (dkeys l).Nodup) : dsame l l := ⟨rfl, fun q hq => get_of h hq⟩
theorem e_eqDD {l m : List (Tx × Tx)} (ha : Ev ta σ H (.ref a)) (hb : Ev tb σ H (.ref b)) (h1 : H a = some (.dK (kd vs l))) (h2 : H b = some (.dK (kd vs m))) (h : dsame l m) : Ev (tOp rEqDA ta tb) σ H (.bl true) := fun H1 e Q q =>
  ha H1 e _ fun H2 e2 => hb H2 (e.trans e2) _ fun H3 e3 => ⟨a, b, _, _, rfl, rfl, ((e.trans e2).trans e3) a _ h1, ((e.trans e2).trans e3) b _ h2, (dsame_kd h).1, (dsame_kd h).2, q H3 (e2.trans e3)⟩
theorem e_neDD {l m : List (Tx × Tx)} (ha : Ev ta σ H (.ref a)) (hb : Ev tb σ H (.ref b)) (h1 : H a = some (.dK (kd vs l))) (h2 : H b = some (.dK (kd vs m))) (h : dsame l m) : Ev (tOp rNeDA ta tb) σ H (.bl false) := fun H1 e Q q =>
  ha H1 e _ fun H2 e2 => hb H2 (e.trans e2) _ fun H3 e3 => ⟨a, b, _, _, rfl, rfl, ((e.trans e2).trans e3) a _ h1, ((e.trans e2).trans e3) b _ h2, (dsame_kd h).1, (dsame_kd h).2, q H3 (e2.trans e3)⟩
end
section
variable {K : PySem.W.Frag} {σ : L2.St} {H : Hp} {ta tb te : TE} {D : Ends} {tz : TS} {α : Type}
theorem eu_is {a b : List V} (h : EvU te σ H a) (e : a = b) : EvU te σ H b := e ▸ h
theorem e_isB {a b : Bool} (ha : Ev ta σ H (.bl a)) (hb : Ev tb σ H (.bl b)) : Ev (tOp rIsB ta tb) σ H (.bl (decide (a = b))) := fun H1 e Q q =>
  ha H1 e _ fun H2 e2 => hb H2 (e.trans e2) _ fun H3 e3 => ⟨a, b, rfl, rfl, q H3 (e2.trans e3)⟩
/-- by the answer's kind -/
def resM {β : Type} (r : Res α) (g : α → β) (x : Nat → β) : β := match r with
  | .ok a => g a
  | .exc k => x k
theorem ret_ok {β : Type} {f : β → V} {r : Res α} {g : α → β} {x : Nat → β} {a : α} {Q : VK} (k : RetV (f (resM r g x)) H Q) (h : r = .ok a) : RetV (f (g a)) H Q := by
  rw [h] at k
  exact k
theorem ret_exc {β : Type} {f : β → V} {r : Res α} {g : α → β} {x : Nat → β} {n : Nat} {Q : VK} (k : RetV (f (resM r g x)) H Q) (h : r = .exc n) : RetV (f (x n)) H Q := by
  rw [h] at k
  exact k
/-- found = told(..) -/
theorem q_told {lMade : Tx} {word : Nat → Tx} {R : List V → Hp → Res (List (Tx × Tx)) → Prop} {t : TA} {E : XK} {i : Nat} {ws : List V} {r : Res (List (Tx × Tx))} (h : EvA t σ H ws) (hR : ∀ H1, Ex H H1 → R ws H1 r)
    (ho : ∀ l, r = .ok l → ∀ p d H2, H p = none → H d = none → p ≠ d → Ex H H2 → H2 p = some (.tup [vs lMade, .ref d]) → H2 d = some (.dK (kd vs l)) → tz D (σ.set i (some (.ref p))) H2)
    (hx : ∀ k, r = .exc k → ∀ p H2, H p = none → Ex H H2 → H2 p = some (.tup [vs (word k), .bl true]) → tz D (σ.set i (some (.ref p))) H2) : tSeq (tAsg (tCall (spTold lMade word R) [] E t) (gName i)) tz D σ H :=
  h H (Ex.refl H) _ fun H1 e1 => ⟨r, by rw [List.append_nil]; exact hR H1 e1, fun l e p d H2 np nd ne e2 hp hd => ho l e p d H2 (fresh_back e1 np) (fresh_back e1 nd) ne (e1.trans e2) hp hd, fun k e p H2 np e2 hp => hx k e p H2 (fresh_back e1 np) (e1.trans e2) hp⟩
end
section
variable {K : PySem.W.Frag} {D C : Addr}
theorem kit_b {b : Bool} (i : PySem.W.isClsIn K C = true) (t : PySem.W.typeIn K (.ref C) = some (.type "type")) (s : PySem.W.subIn K (.ref D) (.ref C) = some b) : PySem.W.kitCls K (.ref D) (.ref C) = some b := by
  unfold PySem.W.kitCls
  show (if ((PySem.W.clsIn K C).isSome && PySem.W.typeIn K (.ref C) == some (.type "type")) = true then _ else none) = _
  have i2 : (PySem.W.clsIn K C).isSome = true := i
  rw [i2, t, if_pos (by rfl)]
  exact s
theorem kit_t (i : PySem.W.isClsIn K C = true) (t : PySem.W.typeIn K (.ref C) = some (.type "type")) (s : PySem.W.subIn K (.ref D) (.ref C) = some true) : PySem.W.kitOne K (.ref D) (.ref C) = some true := by
  unfold PySem.W.kitOne
  split
  · rfl
  · exact kit_b i t s
theorem kit_f (i : PySem.W.isClsIn K C = true) (t : PySem.W.typeIn K (.ref C) = some (.type "type")) (s : PySem.W.subIn K (.ref D) (.ref C) = some false) (r : PySem.W.subIn K (.ref D) (.ref D) = some true) : PySem.W.kitOne K (.ref D) (.ref C) = some false := by
  unfold PySem.W.kitOne
  split
  · rename_i h
    have e : Value.ref D = Value.ref C := by simpa using h
    rw [← e, r] at s
    cases s
  · exact kit_b i t s
theorem exm_t (b : PySem.W.subIn K (.ref C) (.type "BaseException") = some true) (i : PySem.W.isClsIn K C = true) (t : PySem.W.typeIn K (.ref C) = some (.type "type")) (s : PySem.W.subIn K (.ref D) (.ref C) = some true) : PySem.W.exmOne K (.ref D) (.ref C) = some true := by
  unfold PySem.W.exmOne
  rw [b, if_pos (by rfl)]
  exact kit_b i t s
theorem kit_ve (s : PySem.W.subIn K (.ref D) (.type "ValueError") = some true) : PySem.W.kitOne K (.ref D) (.type "ValueError") = some true := by
  unfold PySem.W.kitOne
  split
  · rfl
  · unfold PySem.W.kitCls
    show (if PySem.W.kitMeta "ValueError" = true then _ else none) = _
    rw [if_pos (by decide +kernel)]
    exact s
end
end Vf

/-! Own layer: comprehensions over dicts, two clauses, defs that give lists of tuples, messages. -/
namespace Vf
open PySem PySem.Spec PyProof.Rows L2 TL Evl
/-! ## the heap while a dict is walked -/
structure Lk (H : Hp) (d : Addr) (kvs : List (Key × V)) (HL : Hp) : Prop where
  at_ : ∃ o, (H d = some (.dK kvs) ∨ H d = some (.frz o (.dK kvs))) ∧ HL d = some (.frz o (.dK kvs))
  kp : ∀ b u, b ≠ d → H b = some u → HL b = some u
section
variable {H HL H1 H2 : Hp} {d p : Addr} {kvs : List (Key × V)} {K : PySem.W.Frag}
theorem Lk.rx (h : Lk H d kvs HL) : RX H HL := fun a u r => by
  by_cases ha : a = d
  · subst ha
    obtain ⟨o, h1, h2⟩ := h.at_
    rcases h1 with h1 | h1
    · rcases r with r | ⟨o2, r⟩
      · rw [h1] at r
        cases r
        exact Or.inr ⟨o, h2⟩
      · rw [h1] at r
        cases r
    · rcases r with r | ⟨o2, r⟩
      · rw [h1] at r
        cases r
        exact Or.inl h2
      · rw [h1] at r
        cases r
        exact Or.inr ⟨o, h2⟩
  · rcases r with r | ⟨o2, r⟩
    · exact Or.inl (h.kp a _ ha r)
    · exact Or.inr ⟨o2, h.kp a _ ha r⟩
theorem Lk.rd (h : Lk H d kvs HL) : Rd HL d (.dK kvs) := by
  obtain ⟨o, _, h2⟩ := h.at_
  exact Or.inr ⟨o, h2⟩
theorem Lk.keep (h : Lk H d kvs HL) {o : HO} (hne : p ≠ d) (e : H p = some o) : HL p = some o := h.kp p o hne e
theorem Lk.ex (h : Lk H d kvs HL) (e : Ex HL H2) : Lk H d kvs H2 := by
  obtain ⟨o, a, b⟩ := h.at_
  exact ⟨⟨o, a, e d _ b⟩, fun x u hx hu => e x _ (h.kp x u hx hu)⟩
theorem Lk.back (e : Ex H H1) (hd : Rd H d (.dK kvs)) (h : Lk H1 d kvs HL) : Lk H d kvs HL := by
  obtain ⟨o, a, b⟩ := h.at_
  refine ⟨⟨o, ?_, b⟩, fun x u hx hu => h.kp x u hx (e x u hu)⟩
  rcases hd with hd | ⟨o2, hd⟩
  · exact Or.inl hd
  · have h3 := e d _ hd
    rcases a with a | a
    · rw [h3] at a
      cases a
    · rw [h3] at a
      cases a
      exact Or.inr hd
theorem Lk.sqt (h : Lk H d kvs HL) {t : Addr} {q : List V} (s : SqT K H t q) : SqT K HL t q := rx_t h.rx s
theorem Lk.lu (h : Lk H d kvs HL) {l : List (List V)} (s : IsLU K H p l) : IsLU K HL p l := by
  obtain ⟨ts, a, b⟩ := s
  have hne : p ≠ d := fun z => by
    subst z
    obtain ⟨o, c, _⟩ := h.at_
    rcases c with c | c <;> (rw [a] at c; cases c)
  exact ⟨ts, h.kp p _ hne a, tups_mono (fun _ _ => h.sqt) b⟩
/-- under the walk's lock, or under one that is there already -/
def tMayE (t : TE) : TE := fun σ H Q => t σ H Q ∨ tLockE t σ H Q
theorem pe_may {X : Cx} {e : Expr} {t : TE} (h : PE X e t) : PE X e (tMayE t) := by
  refine ⟨fun pins s σ H Q I hw => ?_⟩
  rcases hw with hw | hw
  · exact h.run pins s σ H Q I hw
  · exact (pe_lock h).run pins s σ H Q I hw
theorem may_of {σ : L2.St} {t : TE} {Q : VK} {P : Addr → Hp → Prop} (hd : Rd H1 d (.dK kvs))
    (ht : ∀ o HB Q2, Lk H1 d kvs HB → HB d = some (.frz o (.dK kvs)) → (∀ D H', HB D = none → Ex HB H' → P D H' → Q2 (.ref D) H') → t σ HB Q2)
    (hP : ∀ o D H', D ≠ d → H' d = some (.frz o (.dK kvs)) → P D H' → P D (upd H' d (.dK kvs)))
    (q : ∀ D H2, H1 D = none → Ex H1 H2 → P D H2 → Q (.ref D) H2) : tMayE t σ H1 Q := by
  rcases hd with h | ⟨o, h⟩
  · refine Or.inr ⟨d, .dK kvs, h, trivial, fun od => ht od (upd H1 d (.frz od (.dK kvs))) _ ⟨⟨od, Or.inl h, upd_same⟩, fun b u hb hu => upd_keep hb hu⟩ upd_same fun D H' hD e hp => ?_⟩
    have ne : D ≠ d := fun z => by
      subst z
      rw [upd_same] at hD
      cases hD
    have hD2 : H1 D = none := by
      rw [upd_ne ne] at hD
      exact hD
    refine ⟨e d _ upd_same, q D _ hD2 (fun b u hu => ?_) (hP od D H' ne (e d _ upd_same) hp)⟩
    by_cases hb : b = d
    · subst hb
      rw [h] at hu
      cases hu
      exact upd_same
    · exact upd_keep hb (e b u (upd_keep hb hu))
  · exact Or.inl (ht o H1 Q ⟨⟨o, Or.inr h, h⟩, fun b u _ hu => hu⟩ h q)
end
section
variable {K : PySem.W.Frag} {σ : L2.St} {H : Hp} {ta tb te tl' tin : TE} {t t1 : TT} {α β : Type} {f : α → V} {f2 : β → V} {l : List (Tx × α)} {d : Addr} {i jx jy : Nat} {ws ws1 : List Nat} {D : Ends} {tz : TS}
/-! ## comprehensions over the keys of a dict -/
theorem key_at {k : Nat} {kk : Key} {v : V} (h : (kd f l)[k]? = some (kk, v)) : k < (dkeys l).length ∧ kV kk = vs ((dkeys l).getD k []) ∧ (dkeys l).getD k [] ∈ dkeys l := by
  unfold kd at h
  rw [List.getElem?_map] at h
  cases e : l[k]? with
  | none =>
    rw [e] at h
    cases h
  | some y =>
    rw [e] at h
    have e2 : (dkeys l)[k]? = some y.1 := by
      unfold dkeys
      rw [List.getElem?_map, e]
      rfl
    have e3 : (dkeys l).getD k [] = y.1 := by
      rw [List.getD_eq_getElem?_getD, e2]
      rfl
    have e4 : (ky y.1, f y.2) = (kk, v) := Option.some.inj h
    refine ⟨(List.getElem?_eq_some_iff.mp e2).1, ?_, ?_⟩
    · rw [e3]
      have e5 : ky y.1 = kk := congrArg Prod.fst e4
      rw [← e5]
      rfl
    · rw [e3]
      exact List.mem_of_getElem? e2
theorem l_filK (c : Tx → Bool) (g : Tx → β) (hσ : σ[i]? = some (some (.ref d))) (hd : Rd H d (.dK (kd f l))) (hz : l.length ≤ 40000)
    (ht : ∀ y ∈ dkeys l, ∀ HL, Lk H d (kd f l) HL → EvT t ((wipe σ ws).set jx (some (vs y))) HL (c y))
    (he : ∀ y ∈ dkeys l, ∀ HL, Lk H d (kd f l) HL → c y = true → Ev te ((wipe σ ws).set jx (some (vs y))) HL (f2 (g y)))
    (hw : ∀ w, wipe ((wipe σ ws).set jx (some w)) ws = wipe σ ws := by exact fun _ => rfl) :
    EvL (tMayE (tLc (iKeys (tVar i)) (gName jx) t te ws)) σ H ((((dkeys l).filter c).map g).map f2) := fun H1 e Q q => by
  refine may_of (P := fun D H' => H' D = some (.lst ((((dkeys l).filter c).map g).map f2))) (ex_rd e hd) (fun o HB Q2 lk hB q2 => ?_) (fun o D H' ne _ hp => upd_keep ne hp) (fun D H2 n e2 h2 => q D H2 n e2 h2)
  have lk0 := Lk.back e hd lk
  have hlen : (dkeys l).length = l.length := List.length_map _
  refine ⟨.ref d, hσ, d, o, rfl, Or.inl ⟨kd f l, hB, fun Dl hD => ⟨fun k m H2 => m = l.length - k ∧ k ≤ l.length ∧ Cw HB (fun k => c ((dkeys l).getD k [])) (fun k => f2 (g ((dkeys l).getD k []))) Dl k H2, ⟨l.length, by simp, Nat.zero_le _, hD, Ex.new hD, upd_same⟩, fun k m H2 hW => ?_⟩⟩⟩
  obtain ⟨rfl, hk, hC⟩ := hW
  by_cases hlt : k < l.length
  · refine Or.inr ⟨⟨hC.2.1 d _ hB, by rw [kd_len]; exact hlt⟩, fun H3 => Cw HB (fun k => c ((dkeys l).getD k [])) (fun k => f2 (g ((dkeys l).getD k []))) Dl (k + 1) H3, fun H3 h3 => ⟨l.length - (k + 1), by omega, rfl, hlt, h3⟩, fun w H3 hy => ?_⟩
    obtain ⟨rfl, kk, vv, hkv, rfl⟩ := hy
    obtain ⟨_, ek, hm⟩ := key_at hkv
    rw [ek]
    exact ⟨hw _, cw_turn hC (by omega) (ht _ hm HB lk0) (fun hc => he _ hm HB lk0 hc)⟩
  · have ek : k = l.length := by omega
    subst ek
    have h3 := hC.2.2
    rw [← hlen, given_filter] at h3
    exact Or.inl ⟨⟨hC.2.1 d _ hB, by rw [kd_len]; exact Nat.le_refl _⟩, q2 Dl H2 hC.1 hC.2.1 h3⟩
theorem filt_yes {α : Type} (l : List α) : l.filter (fun _ => true) = l := List.filter_eq_self.mpr fun _ _ => rfl
theorem et_yes : EvT tYes σ H true := fun H1 _ Q k => k H1 (Ex.refl H1)
theorem l_mapK (g : Tx → β) (hσ : σ[i]? = some (some (.ref d))) (hd : Rd H d (.dK (kd f l))) (hz : l.length ≤ 40000)
    (he : ∀ y ∈ dkeys l, ∀ HL, Lk H d (kd f l) HL → Ev te ((wipe σ ws).set jx (some (vs y))) HL (f2 (g y)))
    (hw : ∀ w, wipe ((wipe σ ws).set jx (some w)) ws = wipe σ ws := by exact fun _ => rfl) :
    EvL (tMayE (tLc (iKeys (tVar i)) (gName jx) tYes te ws)) σ H (((dkeys l).map g).map f2) := by
  have h := l_filK (t := tYes) (fun _ => true) g hσ hd hz (fun _ _ _ _ => et_yes) (fun y hy HL lk _ => he y hy HL lk) hw
  rw [filt_yes] at h
  exact h
/-- over a new list -/
theorem l_filN {γ : Type} {f : γ → V} {m : List γ} (c : γ → Bool) (g : γ → β) (dv : γ) (h : EvL tl' σ H (m.map f)) (hz : m.length ≤ 40000)
    (ht : ∀ y ∈ m, EvT t ((wipe σ ws).set jx (some (f y))) H (c y)) (he : ∀ y ∈ m, c y = true → Ev te ((wipe σ ws).set jx (some (f y))) H (f2 (g y)))
    (hw : ∀ w, wipe ((wipe σ ws).set jx (some w)) ws = wipe σ ws := by exact fun _ => rfl) :
    EvL (tLc (iList K tl') (gName jx) t te ws) σ H (((m.filter c).map g).map f2) := by
  have q := el_lcNL (K := K) (t := t) (te := te) (fun k => c (m.getD k dv)) (fun k => f2 (g (m.getD k dv))) h (by rw [List.length_map]; exact hz) hw (fun k w H1 e hk => by
    obtain ⟨hm, ew⟩ := map_at dv hk
    rw [ew]
    exact (ht _ hm).mono e) (fun k w H1 e hk hc => by
    obtain ⟨hm, ew⟩ := map_at dv hk
    rw [ew]
    exact (he _ hm hc).mono e)
  rw [List.length_map, given_filter] at q
  exact q
theorem l_mapN {γ : Type} {f : γ → V} {m : List γ} (g : γ → β) (dv : γ) (h : EvL tl' σ H (m.map f)) (hz : m.length ≤ 40000)
    (he : ∀ y ∈ m, Ev te ((wipe σ ws).set jx (some (f y))) H (f2 (g y)))
    (hw : ∀ w, wipe ((wipe σ ws).set jx (some w)) ws = wipe σ ws := by exact fun _ => rfl) :
    EvL (tLc (iList K tl') (gName jx) tYes te ws) σ H ((m.map g).map f2) := by
  have q := l_filN (K := K) (t := tYes) (fun _ => true) g dv h hz (fun _ _ => et_yes) (fun y hy _ => he y hy) hw
  rw [filt_yes] at q
  exact q
theorem cr_anyK {X : Cx} (K : PySem.W.Frag) (hc : X.calm = true) (h : X.K = K := by rfl) : CallR X (.builtin "any") (rAny K) := h ▸ cr_any hc
theorem e_any {m : List Bool} (h : EvL ta σ H (m.map V.bl)) : Ev (tCB (rAny K) (tCons ta tNil)) σ H (.bl (m.any id)) := fun H1 e Q q =>
  h H1 e _ fun p H2 _ e2 hp => ⟨p, m, rfl, sq_of hp, q H2 e2⟩
/-! ## a list of tuples that grows -/
def Tw (K : PySem.W.Frag) (HB : Hp) (Dl : Addr) (ls : List (List V)) (H' : Hp) : Prop := HB Dl = none ∧ Ex HB H' ∧ IsLU K H' Dl ls
theorem tw_new {HB : Hp} {Dl : Addr} (h : HB Dl = none) : Tw K HB Dl [] (upd HB Dl (.lst [])) := ⟨h, Ex.new h, [], upd_same, .nil⟩
theorem tw_turn {HB H' : Hp} {Dl : Addr} {ls : List (List V)} {q : List V} {b : Bool} {σ2 : L2.St} {Nx : Hp → Prop} (p : Tw K HB Dl ls H') (hz : ls.length < 50000) (ht : EvT t σ2 HB b) (he : b = true → EvU te σ2 HB q)
    (hN : ∀ H6, (∀ x u, x ≠ Dl → H' x = some u → H6 x = some u) → Tw K HB Dl (ls ++ if b = true then [q] else []) H6 → Nx H6) :
    t σ2 H' fun b2 H3 => if b2 = true then te σ2 H3 fun y H4 => ∃ acc, H4 Dl = some (.lst acc) ∧ acc.length < sizeLine ∧ Nx (upd H4 Dl (.lst (acc ++ [y]))) else Nx H3 := by
  obtain ⟨p1, p2, ts, p3, p4⟩ := p
  refine ht H' p2 _ fun H3 e3 => ?_
  cases b with
  | false =>
    rw [if_neg Bool.false_ne_true]
    refine hN H3 (fun x u _ hu => e3 x u hu) ⟨p1, p2.trans e3, ts, e3 Dl _ p3, ?_⟩
    rw [if_neg Bool.false_ne_true, List.append_nil]
    exact tups_mono (fun _ _ => ex_t e3) p4
  | true =>
    rw [if_pos rfl]
    refine he rfl H3 (p2.trans e3) _ fun r H4 nr e4 hr => ⟨ts.map V.ref, e4 Dl _ (e3 Dl _ p3), ?_, hN _ (fun x u hx hu => upd_keep hx ((e3.trans e4) x u hu)) ⟨p1, Ex.mut ((p2.trans e3).trans e4) p1, ts ++ [r], ?_, ?_⟩⟩
    · rw [List.length_map, paired_len p4]
      exact sz_lt (by omega)
    · rw [upd_same, List.map_append]
      rfl
    · have h4 : H4 Dl = some (.lst (ts.map V.ref)) := e4 Dl _ (e3 Dl _ p3)
      rw [if_pos rfl]
      exact paired_app (tups_mono (fun _ _ h => sqt_upd h4 trivial (ex_t (e3.trans e4) h)) p4) (.cons (sqt_upd h4 trivial (st_of hr)) .nil)
theorem flat_take {γ δ : Type} (F : γ → List δ) : ∀ (m : List γ) (k : Nat) (dv : γ), k < m.length → (m.take (k + 1)).flatMap F = (m.take k).flatMap F ++ F (m.getD k dv)
  | y :: r, 0, dv, _ => by simp
  | y :: r, k + 1, dv, h => by
    have ih := flat_take F r k dv (by simpa using h)
    rw [List.take_succ_cons, List.flatMap_cons, ih, List.take_succ_cons, List.flatMap_cons, List.append_assoc]
    rfl
theorem flat_len {γ δ : Type} {F : γ → List δ} {n : Nat} : ∀ {m : List γ}, (∀ y ∈ m, (F y).length ≤ n) → (m.flatMap F).length ≤ m.length * n
  | [], _ => by simp
  | y :: r, h => by
    have ih := flat_len (F := F) (n := n) (m := r) fun z hz => h z (List.mem_cons_of_mem _ hz)
    have h1 := h y List.mem_cons_self
    rw [List.flatMap_cons, List.length_append, List.length_cons, Nat.succ_mul]
    omega
theorem fil_take {γ : Type} (c : γ → Bool) (g : γ → List V) : ∀ (m : List γ) (k : Nat) (dv : γ), k < m.length → ((m.take (k + 1)).filter c).map g = ((m.take k).filter c).map g ++ (if c (m.getD k dv) = true then [g (m.getD k dv)] else [])
  | y :: r, 0, dv, _ => by
    show (([y].filter c).map g) = [] ++ (if c y = true then [g y] else [])
    rw [List.filter_cons, List.nil_append]
    cases c y <;> rfl
  | y :: r, k + 1, dv, h => by
    have ih := fil_take c g r k dv (by simpa using h)
    have e : (y :: r).getD (k + 1) dv = r.getD k dv := rfl
    rw [List.take_succ_cons, List.take_succ_cons, List.filter_cons, List.filter_cons, e]
    cases c y with
    | true =>
      rw [if_pos rfl, if_pos rfl, List.map_cons, List.map_cons, ih]
      rfl
    | false =>
      rw [if_neg Bool.false_ne_true, if_neg Bool.false_ne_true]
      exact ih
theorem flat_map2 {γ δ ε ζ : Type} (m : List γ) (F : γ → List δ) (h : γ → δ → ε) (k : ε → ζ) (c : γ → δ → Bool) : (m.flatMap fun y => ((F y).filter (c y)).map fun z => k (h y z)) = (m.flatMap fun y => ((F y).filter (c y)).map (h y)).map k := by
  induction m with
  | nil => rfl
  | cons y r ih => rw [List.flatMap_cons, List.flatMap_cons, List.map_append, ih, List.map_map]; rfl
theorem yes_go {A B : Prop} (h : A) : if true = true then A else B := by
  rw [if_pos rfl]
  exact h
/-- [tuple for x in d for y in inn(x) if c] -/
theorem u_lc2K (inn : Tx → List Tx) (c : Tx → Tx → Bool) (g : Tx → Tx → List V) (n1 : Nat) (hσ : σ[i]? = some (some (.ref d))) (hd : Rd H d (.dK (kd f l))) (hn1 : ∀ y ∈ dkeys l, (inn y).length ≤ n1) (hz : l.length * n1 ≤ 40000) (hz1 : n1 ≤ 1000)
    (hin : ∀ y ∈ dkeys l, ∀ HL, Lk H d (kd f l) HL → EvL tin ((wipe σ ws).set jx (some (vs y))) HL ((inn y).map vs))
    (ht : ∀ y ∈ dkeys l, ∀ z ∈ inn y, ∀ HL, Lk H d (kd f l) HL → EvT t1 ((wipe ((wipe σ ws).set jx (some (vs y))) ws1).set jy (some (vs z))) HL (c y z))
    (he : ∀ y ∈ dkeys l, ∀ z ∈ inn y, ∀ HL, Lk H d (kd f l) HL → c y z = true → EvU te ((wipe ((wipe σ ws).set jx (some (vs y))) ws1).set jy (some (vs z))) HL (g y z))
    (hw : ∀ w, wipe ((wipe σ ws).set jx (some w)) ws = wipe σ ws := by exact fun _ => rfl)
    (hw1 : ∀ w w2, wipe ((wipe ((wipe σ ws).set jx (some w)) ws1).set jy (some w2)) ws1 = wipe ((wipe σ ws).set jx (some w)) ws1 := by exact fun _ _ => rfl) :
    EvU2 K (tMayE (tLc2 (iKeys (tVar i)) (gName jx) tYes (iList K tin) (gName jy) t1 te ws ws1)) σ H ((dkeys l).flatMap fun y => ((inn y).filter (c y)).map (g y)) := fun H1 e Q q => by
  refine may_of (P := fun Dl H' => IsLU K H' Dl ((dkeys l).flatMap fun y => ((inn y).filter (c y)).map (g y))) (ex_rd e hd) (fun o HB Q2 lk hB q2 => ?_) (fun o Dl H' ne hr hp => hp.upd ne hr trivial) (fun Dl H2 n e2 h2 => q Dl H2 n e2 h2)
  have lk0 := Lk.back e hd lk
  have hlen : (dkeys l).length = l.length := List.length_map _
  have hF : ∀ y ∈ dkeys l, (((inn y).filter (c y)).map (g y)).length ≤ n1 := fun y hy => by
    rw [List.length_map]
    exact Nat.le_trans (List.length_filter_le _ _) (hn1 y hy)
  refine ⟨.ref d, hσ, d, o, rfl, Or.inl ⟨kd f l, hB, fun Dl hD => ⟨fun k m H2 => m = l.length - k ∧ k ≤ l.length ∧ Tw K HB Dl (((dkeys l).take k).flatMap fun y => ((inn y).filter (c y)).map (g y)) H2, ⟨l.length, by simp, Nat.zero_le _, by rw [List.take_zero]; exact tw_new hD⟩, fun k m H2 hW => ?_⟩⟩⟩
  obtain ⟨rfl, hk, hC⟩ := hW
  by_cases hlt : k < l.length
  · refine Or.inr ⟨⟨hC.2.1 d _ hB, by rw [kd_len]; exact hlt⟩, fun H3 => Tw K HB Dl (((dkeys l).take (k + 1)).flatMap fun y => ((inn y).filter (c y)).map (g y)) H3, fun H3 h3 => ⟨l.length - (k + 1), by omega, rfl, hlt, h3⟩, fun w H3 hy => ?_⟩
    obtain ⟨rfl, kk, vv, hkv, rfl⟩ := hy
    obtain ⟨hk2, ek, hm⟩ := key_at hkv
    rw [ek]
    have hsnoc := flat_take (fun y => ((inn y).filter (c y)).map (g y)) (dkeys l) k [] hk2
    generalize hy0 : (dkeys l).getD k [] = y0 at hm hsnoc ⊢
    have hz0 : (((dkeys l).take k).flatMap fun y => ((inn y).filter (c y)).map (g y)).length ≤ 40000 := by
      have h5 := flat_len (F := fun y => ((inn y).filter (c y)).map (g y)) (n := n1) (m := (dkeys l).take k) fun y hy => hF y (List.mem_of_mem_take hy)
      have h6 : ((dkeys l).take k).length * n1 ≤ l.length * n1 := Nat.mul_le_mul_right _ (by rw [List.length_take, hlen]; omega)
      omega
    generalize hA : (((dkeys l).take k).flatMap fun y => ((inn y).filter (c y)).map (g y)) = A at hC hsnoc hz0
    refine ⟨hw _, ?_⟩
    refine @yes_go _ False ?_
    rw [if_pos rfl]
    refine hin y0 hm HB lk0 H3 hC.2.1 _ fun p H4 np e4 hp => ⟨p, rfl, ⟨_, sq_of hp⟩, ?_⟩
    have hI : Tw K HB Dl A H4 := ⟨hC.1, hC.2.1.trans e4, hC.2.2.ex e4⟩
    have hpD : p ≠ Dl := fun z => by
      obtain ⟨us, a, _⟩ := hC.2.2
      rw [← z, np] at a
      cases a
    have hpB : HB p = none := fresh_back hC.2.1 np
    refine ⟨fun j m H5 => m = (inn y0).length - j ∧ j ≤ (inn y0).length ∧ H5 p = some (.lst ((inn y0).map vs)) ∧ Tw K HB Dl (A ++ (((inn y0).take j).filter (c y0)).map (g y0)) H5, ⟨(inn y0).length, by simp, Nat.zero_le _, hp, by
      rw [List.take_zero, List.filter_nil, List.map_nil, List.append_nil]
      exact hI⟩, fun j m H5 hW5 => ?_⟩
    obtain ⟨rfl, hj, hp5, hC5⟩ := hW5
    by_cases hlj : j < (inn y0).length
    · refine Or.inr ⟨⟨_, vs ((inn y0).getD j []), sq_of hp5, ?_⟩, fun H6 => H6 p = some (.lst ((inn y0).map vs)) ∧ Tw K HB Dl (A ++ (((inn y0).take (j + 1)).filter (c y0)).map (g y0)) H6, fun H6 h6 => ⟨(inn y0).length - (j + 1), by omega, rfl, hlj, h6.1, h6.2⟩, fun w H6 hy6 => ?_⟩
      · rw [List.getElem?_map, List.getD_eq_getElem?_getD, List.getElem?_eq_getElem hlj]
        rfl
      · obtain ⟨rfl, hx⟩ := hy6
        obtain ⟨hm2, ew⟩ := map_at (f := vs) [] (hx _ (sq_of hp5))
        rw [ew]
        have hst := fil_take (c y0) (g y0) (inn y0) j [] hlj
        generalize hz1y : (inn y0).getD j [] = z0 at hm2 hst ⊢
        have hjl : (((inn y0).take j).filter (c y0)).length ≤ 1000 := Nat.le_trans (List.length_filter_le _ _) (by
          rw [List.length_take]
          have := hn1 y0 hm
          omega)
        refine ⟨hw1 _ _, ?_⟩
        refine tw_turn (b := c y0 z0) (q := g y0 z0) hC5 (by rw [List.length_append, List.length_map]; omega) (ht y0 hm z0 hm2 HB lk0) (fun hc => he y0 hm z0 hm2 HB lk0 hc) fun H6 k6 h6 => ⟨k6 p _ hpD hp5, ?_⟩
        rw [List.append_assoc, ← hst] at h6
        exact h6
    · have ej : j = (inn y0).length := by omega
      subst ej
      rw [List.take_length] at hC5
      refine Or.inl ⟨⟨_, sq_of hp5, by rw [List.length_map]; exact Nat.le_refl _⟩, ?_⟩
      rw [hsnoc]
      exact hC5
  · have ek : k = l.length := by omega
    subst ek
    rw [← hlen, List.take_length] at hC
    exact Or.inl ⟨⟨hC.2.1 d _ hB, by rw [kd_len]; exact Nat.le_refl _⟩, q2 Dl H2 hC.1 hC.2.1 hC.2.2⟩
/-! ## defs that give a new list of tuples -/
def RetU2 (K : PySem.W.Frag) (l : List (List V)) (H : Hp) (Q : VK) : Prop := ∀ p H2, H p = none → Ex H H2 → IsLU K H2 p l → Q (.ref p) H2
def spU2 (K : PySem.W.Frag) (R : List V → Hp → List (List V) → Prop) : Sp := fun vs' H Q _ => ∃ xs, R vs' H xs ∧ RetU2 K xs H Q
def SpU2 (K : PySem.W.Frag) (sp : Sp) (ws : List V) (H : Hp) (xs : List (List V)) : Prop := ∀ H1, Ex H H1 → ∀ Q : VK, (∀ p H2, H1 p = none → Ex H1 H2 → IsLU K H2 p xs → Q (.ref p) H2) → ∀ E : XK, sp ws H1 Q E
theorem su2_of {R : List V → Hp → List (List V) → Prop} {ws : List V} {xs : List (List V)} (h : ∀ H1, Ex H H1 → R ws H1 xs) : SpU2 K (spU2 K R) ws H xs := fun H1 e Q q _ => ⟨xs, h H1 e, q⟩
theorem eu2_call {sp : Sp} {dvs ws : List V} {xs : List (List V)} {E : XK} {ta : TA} (h : EvA ta σ H ws) (hs : SpU2 K sp (ws ++ dvs) H xs) : EvU2 K (tCall sp dvs E ta) σ H xs := fun H1 e Q q =>
  h H1 e _ fun H2 e2 => hs H2 (e.trans e2) Q (fun p H3 hp e3 h3 => q p H3 (fresh_back e2 hp) (e2.trans e3) h3) E
theorem RetU2.go {xs : List (List V)} {Q : VK} {H' : Hp} (k : RetU2 K xs H Q) (e : Ex H H') {p : Addr} {H2 : Hp} (hp : H' p = none) (e2 : Ex H' H2) (h : IsLU K H2 p xs) : Q (.ref p) H2 := k p H2 (fresh_back e hp) (e.trans e2) h
theorem s_retU2 {xs : List (List V)} (h : EvU2 K te σ H xs) (k : ∀ p H1, H p = none → Ex H H1 → IsLU K H1 p xs → D.rt (.ref p) H1) : tRet te D σ H := h H (Ex.refl H) _ fun p H1 hp e h1 => k p H1 hp e h1
theorem retU_T {b : Bool} {x y : List (List Tx)} {Q : VK} (k : RetU2 K ((if b = true then x else y).map (List.map vs)) H Q) (hb : b = true) : RetU2 K (x.map (List.map vs)) H Q := by
  rw [if_pos hb] at k
  exact k
theorem retU_F {b : Bool} {x y : List (List Tx)} {Q : VK} (k : RetU2 K ((if b = true then x else y).map (List.map vs)) H Q) (hb : b = false) : RetU2 K (y.map (List.map vs)) H Q := by
  rw [hb, if_neg Bool.false_ne_true] at k
  exact k
/-- compared with the empty list -/
theorem e_eqNil {l : List (List Tx)} (ha : EvU2 K ta σ H (l.map (List.map vs))) (hb : EvL tb σ H []) (ok : ∀ q ∈ l, ∀ p ∈ q, okT p) : Ev (tOp (rEqD K) ta tb) σ H (.bl (decide (l = []))) := fun H1 e1 Q q =>
  ha H1 e1 _ fun r H2 _ e2 hr => hb H2 (e1.trans e2) _ fun r2 H3 _ e3 hr2 => ⟨duD l, duD [], dp_LU (hr.ex e3), .lst (sq_of hr2) .nil, shaped_LU ok, by decide +kernel, by
    cases l with
    | nil =>
      rw [SeqAt.eqv_refl (duD []) (SeqAt.canLay_of_shaped (shaped_LU ok))]
      exact q H3 (e2.trans e3)
    | cons x y => exact q H3 (e2.trans e3)⟩
theorem e_neNil {l : List (List Tx)} (ha : EvU2 K ta σ H (l.map (List.map vs))) (hb : EvL tb σ H []) (ok : ∀ q ∈ l, ∀ p ∈ q, okT p) : Ev (tOp (rNeD K) ta tb) σ H (.bl (!decide (l = []))) := fun H1 e1 Q q =>
  ha H1 e1 _ fun r H2 _ e2 hr => hb H2 (e1.trans e2) _ fun r2 H3 _ e3 hr2 => ⟨duD l, duD [], dp_LU (hr.ex e3), .lst (sq_of hr2) .nil, shaped_LU ok, by decide +kernel, by
    cases l with
    | nil =>
      rw [SeqAt.eqv_refl (duD []) (SeqAt.canLay_of_shaped (shaped_LU ok))]
      exact q H3 (e2.trans e3)
    | cons x y => exact q H3 (e2.trans e3)⟩
/-! ## messages -/
theorem x_msg {s : String} {p : Tx} {Q : Hp → Prop} (h : Ev te σ H (vs p)) (hz : (tx s).length + p.length ≤ 90000) (k : ∀ H1, Ex H H1 → Q H1) : tJs [tC (.str (Str.ofString s)), tFmt te] Str.empty σ H (fun _ H1 => Q H1) := by
  refine ⟨Str.ofString s, rfl, ?_, h H (Ex.refl H) _ fun H1 e => Or.inl ⟨mk p, rfl, ?_, mk p, rfl, ?_, k H1 e⟩⟩
  · rw [lit_of]
    show (mk [] ++ mk (tx s)).length ≤ _
    rw [app_of, len_of, List.nil_append]
    exact sz_of (by omega)
  · rw [len_of]
    exact sz_of (by omega)
  · rw [lit_of]
    show (mk [] ++ mk (tx s) ++ mk p).length ≤ _
    rw [app_of, app_of, len_of, List.nil_append, List.length_append]
    exact sz_of (by omega)
end
/-- an own error made with any one argument -/
theorem pmk_any {X : Cx} {C : Addr} {bmB : List Value} {B newId initId : String} {x : Str} {e : Expr} {ta : TE} {p pos : Pos} (F : ExcBaseFacts B newId initId bmB) (qx : PySem.W.excIn X.K C bmB newId = true) (gC : X.mg x = some (.ref C)) (kC : PySem.W.keepIn X.K (.ref C) = true)
    (r : Raises X (.ref C)) (hg : Gl X x) (he : PE X e ta) (hs : starEach [e] X.env = (false, eval e X.env) :: starEach [] X.env := by rfl) (hdb : (x == ("__debug__" : Str)) = false := by decide) :
    L2N.PMk X (.Call (.Name x p) [e] [] pos) (fun σ H Q => ta σ H fun _ H1 => Q (.ref C) none H1) := by
  intro pins s σ H Q I h
  refine wpAny_Call_Name_kw (ld_glob I hg gC ?_ hdb)
  refine PySem.W.callWith_K (h₀ := X.base) I.ok.mod.kin kC ?_ hs (by rfl)
  rw [hs]
  refine Calls.spliced_cons (thn (he.run pins s σ H _ I h) fun u s1 hv => ?_)
  obtain ⟨v, H1, I1, r1, q1⟩ := hv
  refine Calls.spliced_nil ⟨I1.kIn, ?_⟩
  obtain ⟨_, _, _, _, _, _, _, _, _, _, _, _, _, _, _, _, _, hC, hN, hni, T⟩ := exc_obj I1.kIn qx
  refine wpAny_call_exc_subT F T hC hN hni (fun h' e2 hm => ?_) (by show 1 ≤ sizeLine; rw [sizeLine_eq]; omega)
  exact L2N.mk_of I1 hm r q1 (I1.hok.gone hm.new)
end Vf

/-! Own layer: texts in order; sorted dicts of any size. -/
namespace Vf
open PySem PySem.Spec PyProof.Rows L2 TL Evl
/-! ## texts in order -/
def srt (l : List Tx) : List Tx := l.mergeSort fun a b => decide (a ≤ b)
theorem srt_perm (l : List Tx) : (srt l).Perm l := List.mergeSort_perm _ _
theorem mem_srt {l : List Tx} {p : Tx} : p ∈ srt l ↔ p ∈ l := (srt_perm l).mem_iff
theorem srt_len (l : List Tx) : (srt l).length = l.length := (srt_perm l).length_eq
theorem tle_trans {a b c : Tx} (h1 : a ≤ b) (h2 : b ≤ c) : a ≤ c := List.le_trans h1 h2
theorem tle_total (a b : Tx) : a ≤ b ∨ b ≤ a := List.le_total a b
theorem tle_anti {a b : Tx} (h1 : a ≤ b) (h2 : b ≤ a) : a = b := List.le_antisymm h1 h2
theorem srt_pw (l : List Tx) : (srt l).Pairwise (· ≤ ·) := by
  have h := List.pairwise_mergeSort (le := fun a b : Tx => decide (a ≤ b)) (fun a b c h1 h2 => decide_eq_true (tle_trans (of_decide_eq_true h1) (of_decide_eq_true h2))) (fun a b => by
    rcases tle_total a b with h | h
    · rw [decide_eq_true h]
      rfl
    · rw [decide_eq_true h, Bool.or_true]) l
  exact h.imp fun h => of_decide_eq_true h
theorem srt_uniq {l m : List Tx} (h : m.Perm l) (hs : m.Pairwise (· ≤ ·)) : m = srt l :=
  List.Perm.eq_of_pairwise (le := (· ≤ ·)) (fun a b _ _ h1 h2 => tle_anti h1 h2) hs (srt_pw l) (h.trans (srt_perm l).symm)
theorem srt_congr {l m : List Tx} (h : m.Perm l) : srt m = srt l := srt_uniq ((srt_perm m).trans h) (srt_pw m)
theorem srt_nodup {l : List Tx} (h : l.Nodup) : (srt l).Nodup := (srt_perm l).nodup_iff.mpr h
theorem lt_of_cps (a b : Tx) : ltCps (mk a).cps.toList (mk b).cps.toList = decide (a < b) := ltCps_eq a b
theorem rising_pw : ∀ (l : List Tx) (p : Tx), risingS (mk p) (l.map mk) = true → (p :: l).Pairwise (· ≤ ·)
  | [], p, _ => List.pairwise_cons.mpr ⟨fun _ h => (nomatch h), .nil⟩
  | x :: r, p, h => by
    have h2 : (!ltCps (mk x).cps.toList (mk p).cps.toList && risingS (mk x) (r.map mk)) = true := h
    rw [Bool.and_eq_true, lt_of_cps] at h2
    have ih := rising_pw r x h2.2
    have hx : p ≤ x := by
      have h3 : decide (x < p) = false := by
        have := h2.1
        cases e : decide (x < p)
        · rfl
        · rw [e] at this
          cases this
      exact List.not_lt.mp (of_decide_eq_false h3)
    refine List.pairwise_cons.mpr ⟨fun y hy => ?_, ih⟩
    rcases List.mem_cons.mp hy with e | e
    · rw [e]
      exact hx
    · exact tle_trans hx ((List.pairwise_cons.mp ih).1 y e)
theorem map_mk_tl (ys : List Str) : (ys.map tl).map mk = ys := by
  rw [List.map_map]
  conv => rhs; rw [← List.map_id ys]
  exact List.map_congr_left fun y _ => mk_of y
theorem sorted_srt {ys : List Str} {l : List Tx} (h : ys.Perm (l.map mk)) (hs : sortedS ys = true) : ys = (srt l).map mk := by
  rw [← map_mk_tl ys] at hs
  have hp : (ys.map tl).Perm l := by
    have h2 := h.map tl
    rw [List.map_map] at h2
    have e : l.map (tl ∘ mk) = l := by
      conv => rhs; rw [← List.map_id l]
      exact List.map_congr_left fun y _ => tl_of y
    rw [e] at h2
    exact h2
  have hpw : (ys.map tl).Pairwise (· ≤ ·) := by
    revert hs
    cases ys.map tl with
    | nil => exact fun _ => .nil
    | cons x r => exact fun hs => rising_pw r x hs
  rw [← srt_uniq hp hpw, map_mk_tl]
/-! ## sorted(d) -/
def rSrtD : List V → Hp → VK → Prop := fun xs H Q => ∃ (a : Addr) (kvs : List (Key × V)) (ks : List Str), xs = [.ref a] ∧ Rd H a (.dK kvs) ∧ kvs.map (·.1) = ks.map Sum.inr ∧ ks.length ≤ sizeLine ∧
    ∀ ys p, ys.Perm ks → sortedS ys = true → H p = none → Q (.ref p) (upd H p (.lst (ys.map V.str)))
section
variable {X : Cx}
theorem call_srtD (hcalm : X.calm = true) : CallR X (.builtin "sorted") rSrtD := by
  intro pins s σ H xs us Q I r ⟨a, kvs, ks, ex, hd, hks, hsz, q⟩
  subst ex
  obtain ⟨u, eu, rx⟩ := vals1 r
  subst eu
  cases rx
  obtain ⟨z, lo, wv, rel, dd⟩ := dk_rd I.hok hd
  obtain ⟨ep, hat⟩ := dd.dictAt
  have hkeys : wv.map (·.1) = ks.map Sum.inr := rel.keys.symm.trans hks
  have hl : wv.length = ks.length := by
    have e := congrArg List.length hkeys
    rw [List.length_map, List.length_map] at e
    exact e
  refine Calls.call_function_entry PyProof.Rows.kind_sorted PyProof.Rows.plain_sorted PyProof.Rows.entry_sorted (PyProof.Rows.args_sorted1 _) ?_
  unfold Builtin.«sorted»
  refine wpAny_bind (m := checkCount "sorted" 1 1 _) (wpAny_pure ?_)
  refine wpAny_bind (PySem.W.kdu_collect (A := X.A.in1) (PySem.W.kdl_dict (knd := mixKind X.prog X.w) (kvs := wv) (ep := ep) lo) (I.ok.hd hcalm) hat (by rw [hl]; exact hsz) fun h2 tk acc hk hacc => ?_)
  have hal : acc.toList.length = ks.length := by rw [Array.length_toList, hacc.1, hl]
  have hS : StrsAre acc.toList ks := strs_at hal fun j v e => by
    obtain ⟨k, x, e1, e2⟩ := hacc.2 j v (by rw [← Array.getElem?_toList]; exact e)
    have e3 : (wv.map (·.1))[j]? = some k := by
      rw [List.getElem?_map, e1]
      rfl
    rw [hkeys, List.getElem?_map] at e3
    cases e4 : ks[j]? with
    | none =>
      rw [e4] at e3
      cases e3
    | some y =>
      rw [e4] at e3
      have e5 : Sum.inr y = k := Option.some.inj e3
      subst e5
      obtain ⟨t, ev⟩ := Value.isStrOf_shape (x := y) (v := v) e2
      exact ⟨y, t, rfl, ev⟩
  have I1 : Inv X pins σ H { s with heap := h2, toks := tk } := I.kept hk
  refine wpAny_bind (wpAny_newList ?_ (by rw [hal]; exact hsz))
  have hoL : (h2.push (seqObj "list" acc.toList.toArray 0)).get? h2.objs.size = some (seqObj "list" acc.toList.toArray 0) := Heap.get?_push_size _ rfl
  refine wpAny_bind (wpAny_holding (wpAny_call_entry PyProof.Rows.slot_list_sort ⟨_, hoL, rfl⟩ PyProof.Rows.entry_list_sort
    (list_sort_treeKAny strKind_oneLt (s := { s with heap := h2.push (seqObj "list" acc.toList.toArray 0), toks := tk }) hoL hS.keysOf (fun v₁ v₂ rest e => keyKind_strs (by rw [← e]; exact hS)) (by rw [hal]; exact hsz) fun st2 hp hs => ⟨_, rfl, ?_⟩)
    (PyProof.Rows.args_list_sort _)))
  obtain ⟨ys, g1, g2, g3⟩ := sorted_out_str hS hp hs
  obtain ⟨e2, he2⟩ := PyProof.Rows.sortedHeap_at (vs := acc.toList) (out := (arrOf st2).map (·.2)) hoL
  refine wpAny_pure ⟨_, rfl, .ref h2.objs.size, upd H h2.objs.size (.lst (ys.map V.str)), I1.laid (t' := tk) (fun b u e => ?_) (Nat.le_refl _)
    (show ObjOk X.prog X.w _ _ _ (.lst (ys.map V.str)) from ⟨by rw [List.length_map, g2.length_eq]; exact hsz, ((arrOf st2).map (·.2)).toList, e2, vals_of_strs g1, by rw [Array.toArray_toList]; exact he2⟩), rfl, q ys _ g2 g3 (I1.hok.fresh (Nat.le_refl _))⟩
  have hb : b < h2.objs.size := Heap.lt_size e
  rw [PyProof.Rows.sortedHeap_old (Nat.ne_of_lt hb) (by rw [size_push']; exact Nat.lt_succ_of_lt hb)]
  exact Heap.get?_push_of_some _ e
end
section
variable {σ : L2.St} {H : Hp} {ta : TE} {α : Type} {f : α → V} {l : List (Tx × α)} {d : Addr}
theorem l_srtD (hd : Ev ta σ H (.ref d)) (h : Rd H d (.dK (kd f l))) (hz : l.length ≤ 40000) : EvL (tCB rSrtD (tCons ta tNil)) σ H ((srt (dkeys l)).map vs) := fun H1 e Q q =>
  hd H1 e _ fun H2 e2 => ⟨d, kd f l, (dkeys l).map mk, rfl, ex_rd (e.trans e2) h, by
    unfold kd dkeys
    rw [List.map_map, List.map_map, List.map_map]
    rfl, by
    unfold dkeys
    rw [List.length_map, List.length_map]
    exact sz_of (by omega), fun ys p hp hs np => by
    rw [sorted_srt hp hs, ← map_vs]
    exact q p _ (fresh_back e2 np) (e2.trans (Ex.new np)) upd_same⟩
end
end Vf

/-! Own layer: lists of tuples, further; tuples that are read; walks over lists of tuples. -/
namespace Vf
open PySem PySem.Spec PyProof.Rows L2 TL Evl
section
variable {K : PySem.W.Frag} {σ : L2.St} {H H1 H2 : Hp} {ta tb te td tl' : TE} {p d : Addr} {l m : List (List V)} {kvs : List (Key × V)}
/-- a list of tuples that is read -/
def IsLUr (K : PySem.W.Frag) (H : Hp) (p : Addr) (l : List (List V)) : Prop := ∃ ts, SqL K H p (ts.map V.ref) ∧ TupsAt K H ts l
theorem IsLU.r (h : IsLU K H p l) : IsLUr K H p l := h.sq
theorem IsLUr.ex (h : IsLUr K H p l) (e : Ex H H2) : IsLUr K H2 p l := by
  obtain ⟨ts, a, b⟩ := h
  exact ⟨ts, ex_l e a, tups_mono (fun _ _ => ex_t e) b⟩
theorem IsLUr.rx (h : IsLUr K H p l) (r : RX H H2) : IsLUr K H2 p l := by
  obtain ⟨ts, a, b⟩ := h
  exact ⟨ts, rx_l r a, tups_mono (fun _ _ => rx_t r) b⟩
/-- a tuple, new or not -/
def EvTu (K : PySem.W.Frag) (te : TE) (σ : L2.St) (H : Hp) (xs : List V) : Prop := ∀ H1, Ex H H1 → ∀ Q : VK, (∀ t H2, Ex H1 H2 → SqT K H2 t xs → Q (.ref t) H2) → te σ H1 Q
theorem tu_new {xs : List V} (h : EvU te σ H xs) : EvTu K te σ H xs := fun H1 e Q q => h H1 e Q fun t H2 _ e2 ht => q t H2 e2 (st_of ht)
theorem tu_of {xs : List V} {t : Addr} (h : Ev te σ H (.ref t)) (ht : SqT K H t xs) : EvTu K te σ H xs := fun H1 e Q q => h H1 e Q fun H2 e2 => q t H2 e2 (ex_t (e.trans e2) ht)
theorem tu_is {xs ys : List V} (h : EvTu K te σ H xs) (e : xs = ys) : EvTu K te σ H ys := e ▸ h
theorem er_consT {ta : TA} {xs : List V} (h : EvTu K te σ H xs) (hr : EvR K ta σ H l) : EvR K (tCons te ta) σ H (xs :: l) := fun H1 e _ q => h H1 e _ fun p H2 e2 hp => hr H2 (e.trans e2) _ fun ts H3 e3 ht => q (p :: ts) H3 (e2.trans e3) (.cons (ex_t e3 hp) ht)
/-- an item of a list of tuples -/
theorem tup_get {ts : List Addr} {l : List (List V)} (h : TupsAt K H ts l) {i : Int} (h0 : 0 ≤ i ∧ i < l.length) : ∃ t, atI (ts.map V.ref) i = some (.ref t) ∧ SqT K H t (l.getD i.toNat []) := by
  have hl := paired_len h
  obtain ⟨n, rfl⟩ := Int.eq_ofNat_of_zero_le h0.1
  have hn : n < ts.length := by omega
  have e : (ts.map V.ref)[n]? = some (.ref (ts[n])) := by
    rw [List.getElem?_map, List.getElem?_eq_getElem hn]
    rfl
  obtain ⟨t, q, e2, e3, e4⟩ := tup_at (ts := ts) (i := n) h e
  refine ⟨t, ?_, ?_⟩
  · have h5 := atI_get V.ref ts 0 h0.1 (by omega)
    rw [h5]
    have e6 : ts.getD (n : Int).toNat 0 = ts[n] := by
      rw [List.getD_eq_getElem?_getD, Int.toNat_natCast, List.getElem?_eq_getElem hn]
      rfl
    rw [e6, e2]
  · have e6 : l.getD (n : Int).toNat [] = q := by
      rw [List.getD_eq_getElem?_getD, Int.toNat_natCast, e3]
      rfl
    rw [e6]
    exact e4
theorem tu_ixR {i : Int} (h : Ev ta σ H (.ref p)) (hp : IsLUr K H p l) (hb : Ev tb σ H (.int i)) (hi : 0 ≤ i ∧ i < l.length) : EvTu K (tOp (rIxL K) ta tb) σ H (l.getD i.toNat []) := fun H1 e Q q =>
  h H1 e _ fun H2 e2 => hb H2 (e.trans e2) _ fun H3 e3 => by
    obtain ⟨ts, h1, h2⟩ := hp.ex ((e.trans e2).trans e3)
    obtain ⟨t, a, b⟩ := tup_get h2 hi
    exact ⟨p, _, i, _, rfl, rfl, h1, a, q t H3 (e2.trans e3) b⟩
theorem tu_ixN {i : Int} (h : EvU2 K ta σ H l) (hb : Ev tb σ H (.int i)) (hi : 0 ≤ i ∧ i < l.length) : EvTu K (tOp (rIxL K) ta tb) σ H (l.getD i.toNat []) := fun H1 e Q q =>
  h H1 e _ fun p H2 _ e2 hp => hb H2 (e.trans e2) _ fun H3 e3 => by
    obtain ⟨ts, h1, h2⟩ := (hp.ex e3).sq
    obtain ⟨t, a, b⟩ := tup_get h2 hi
    exact ⟨p, _, i, _, rfl, rfl, h1, a, q t H3 (e2.trans e3) b⟩
theorem getD_mapU {α : Type} (f : α → V) (l : List (List α)) (n : Nat) : (l.map (List.map f)).getD n [] = (l.getD n []).map f := by
  rw [List.getD_eq_getElem?_getD, List.getD_eq_getElem?_getD, List.getElem?_map]
  cases l[n]? <;> rfl
theorem s_asgTu {D : Ends} {i : Nat} {xs : List V} (h : EvTu K te σ H xs) (k : ∀ t H1, Ex H H1 → SqT K H1 t xs → D.nx (σ.set i (some (.ref t))) H1) : tAsg te (gName i) D σ H := h H (Ex.refl H) _ fun t H1 e ht => k t H1 e ht
theorem q_asgTu {D : Ends} {tz : TS} {i : Nat} {xs : List V} (h : EvTu K te σ H xs) (k : ∀ t H1, Ex H H1 → SqT K H1 t xs → tz D (σ.set i (some (.ref t))) H1) : tSeq (tAsg te (gName i)) tz D σ H := s_asgTu (D := { D with nx := tz D }) h k
theorem s_retTu {D : Ends} {xs : List V} (h : EvTu K te σ H xs) (k : ∀ t H1, Ex H H1 → SqT K H1 t xs → D.rt (.ref t) H1) : tRet te D σ H := h H (Ex.refl H) _ fun t H1 e ht => k t H1 e ht
/-! defs that give a tuple -/
def RetTu (K : PySem.W.Frag) (xs : List V) (H : Hp) (Q : VK) : Prop := ∀ t H2, Ex H H2 → SqT K H2 t xs → Q (.ref t) H2
def spTu (K : PySem.W.Frag) (R : List V → Hp → List V → Prop) : Sp := fun ws H Q _ => ∃ xs, R ws H xs ∧ RetTu K xs H Q
theorem tu_call {R : List V → Hp → List V → Prop} {ws xs : List V} {E : XK} {ta : TA} (h : EvA ta σ H ws) (hs : ∀ H1, Ex H H1 → R ws H1 xs) : EvTu K (tCall (spTu K R) [] E ta) σ H xs := fun H1 e Q q =>
  h H1 e _ fun H2 e2 => ⟨xs, by rw [List.append_nil]; exact hs H2 (e.trans e2), fun t H3 e3 ht => q t H3 (e2.trans e3) ht⟩
theorem RetTu.go {xs : List V} {Q : VK} {H' : Hp} (k : RetTu K xs H Q) (e : Ex H H') {t : Addr} {H2 : Hp} (e2 : Ex H' H2) (h : SqT K H2 t xs) : Q (.ref t) H2 := k t H2 (e.trans e2) h
/-! slices, sums, copies -/
theorem paired_take {α β : Type} {F : α → β → Prop} : ∀ {a : List α} {b : List β} (n : Nat), Paired F a b → Paired F (a.take n) (b.take n)
  | _, _, 0, _ => .nil
  | _, _, n + 1, .nil => .nil
  | _, _, n + 1, .cons x r => .cons x (paired_take n r)
theorem paired_drop {α β : Type} {F : α → β → Prop} : ∀ {a : List α} {b : List β} (n : Nat), Paired F a b → Paired F (a.drop n) (b.drop n)
  | _, _, 0, h => h
  | _, _, n + 1, .nil => .nil
  | _, _, n + 1, .cons x r => paired_drop n r
theorem paired_cut {α β : Type} {F : α → β → Prop} {a : List α} {b : List β} (h : Paired F a b) (lo hi : Option Int) : Paired F (cutG a lo hi) (cutG b lo hi) := by
  unfold cutG
  rw [paired_len h]
  exact paired_take _ (paired_drop _ h)
theorem u2_slR {tlo thi : TO} {lo hi : Option Int} (h : Ev te σ H (.ref p)) (hp : IsLUr K H p l) (h1 : EvO tlo σ H lo) (h2 : EvO thi σ H hi) : EvU2 K (tSl (rSlL K) te tlo thi) σ H (cutG l lo hi) := fun H1 e Q q =>
  h H1 e _ fun H2 e2 => h1 H2 (e.trans e2) _ fun H3 e3 => h2 H3 ((e.trans e2).trans e3) _ fun H4 e4 => by
    obtain ⟨ts, a, b⟩ := hp.ex (((e.trans e2).trans e3).trans e4)
    refine ⟨p, _, rfl, a, fun r nr => q r _ (fresh_back ((e2.trans e3).trans e4) nr) (((e2.trans e3).trans e4).trans (Ex.new nr)) ⟨cutG ts lo hi, by rw [upd_same, cutV_map], tups_mono (fun _ _ => ex_t (Ex.new nr)) (paired_cut b lo hi)⟩⟩
theorem cutG_map {α β : Type} (f : α → β) (l : List α) (lo hi : Option Int) : cutG (l.map f) lo hi = (cutG l lo hi).map f := by
  unfold cutG
  rw [List.length_map, List.map_take, List.map_drop]
theorem cat_core {ts us : List Addr} {r : Addr} {Q : VK} (h1 : H p = some (.lst (ts.map V.ref))) (h2 : TupsAt K H ts l) (h3 : H r = some (.lst (us.map V.ref))) (h4 : TupsAt K H us m) (hz : l.length + m.length ≤ 100000)
    (q : ∀ z, H z = none → IsLU K (upd H z (.lst ((ts ++ us).map V.ref))) z (l ++ m) → Q (.ref z) (upd H z (.lst ((ts ++ us).map V.ref)))) : rCat (.ref p) (.ref r) H Q :=
  ⟨p, r, _, _, rfl, rfl, h1, h3, by rw [List.length_map, List.length_map, paired_len h2, paired_len h4]; exact sz_of hz, fun z nz => by
    rw [← List.map_append]
    exact q z nz ⟨ts ++ us, upd_same, tups_mono (fun _ _ => ex_t (Ex.new nz)) (paired_app h2 h4)⟩⟩
theorem u2_catRR {r : Addr} (ha : Ev ta σ H (.ref p)) (h : IsLU K H p l) (hb : Ev tb σ H (.ref r)) (h2 : IsLU K H r m) (hz : l.length + m.length ≤ 100000) : EvU2 K (tOp rCat ta tb) σ H (l ++ m) := fun H1 e Q q =>
  ha H1 e _ fun H2 e2 => hb H2 (e.trans e2) _ fun H3 e3 => by
    obtain ⟨ts, a1, a2⟩ := h.ex ((e.trans e2).trans e3)
    obtain ⟨us, b1, b2⟩ := h2.ex ((e.trans e2).trans e3)
    exact cat_core a1 a2 b1 b2 hz fun z nz hi => q z _ (fresh_back (e2.trans e3) nz) ((e2.trans e3).trans (Ex.new nz)) hi
theorem u2_catNN (ha : EvU2 K ta σ H l) (hb : EvU2 K tb σ H m) (hz : l.length + m.length ≤ 100000) : EvU2 K (tOp rCat ta tb) σ H (l ++ m) := fun H1 e Q q =>
  ha H1 e _ fun p H2 _ e2 hp => hb H2 (e.trans e2) _ fun r H3 _ e3 hr => by
    obtain ⟨ts, a1, a2⟩ := hp.ex e3
    obtain ⟨us, b1, b2⟩ := hr
    exact cat_core a1 a2 b1 b2 hz fun z nz hi => q z _ (fresh_back (e2.trans e3) nz) ((e2.trans e3).trans (Ex.new nz)) hi
theorem u2_catNR {r : Addr} (ha : EvU2 K ta σ H l) (hb : Ev tb σ H (.ref r)) (h2 : IsLU K H r m) (hz : l.length + m.length ≤ 100000) : EvU2 K (tOp rCat ta tb) σ H (l ++ m) := fun H1 e Q q =>
  ha H1 e _ fun p H2 _ e2 hp => hb H2 (e.trans e2) _ fun H3 e3 => by
    obtain ⟨ts, a1, a2⟩ := hp.ex e3
    obtain ⟨us, b1, b2⟩ := h2.ex ((e.trans e2).trans e3)
    exact cat_core a1 a2 b1 b2 hz fun z nz hi => q z _ (fresh_back (e2.trans e3) nz) ((e2.trans e3).trans (Ex.new nz)) hi
theorem call_listK {X : Cx} (K : PySem.W.Frag) (h : X.K = K := by rfl) : CallR X (.type "list") (rListS K) := h ▸ call_list_of
theorem u2_list (h : Ev te σ H (.ref p)) (hp : IsLUr K H p l) : EvU2 K (tCB (rListS K) (tCons te tNil)) σ H l := fun H1 e Q q =>
  h H1 e _ fun H2 e2 => by
    obtain ⟨ts, a, b⟩ := hp.ex (e.trans e2)
    exact ⟨p, _, rfl, Or.inl a, fun r nr => q r _ (fresh_back e2 nr) (e2.trans (Ex.new nr)) ⟨ts, upd_same, tups_mono (fun _ _ => ex_t (Ex.new nr)) b⟩⟩
/-! lengths -/
theorem e_lenLU (h : Ev te σ H (.ref p)) (hp : IsLUr K H p l) : Ev (tCB (rLenS K) (tCons te tNil)) σ H (.int (l.length : Int)) := fun H1 e Q q =>
  h H1 e _ fun H2 e2 => by
    obtain ⟨ts, a, b⟩ := hp.ex (e.trans e2)
    refine ⟨p, _, rfl, Or.inl a, ?_⟩
    rw [List.length_map, paired_len b]
    exact q H2 e2
theorem e_lenTu {α : Type} {f : α → V} {xs : List α} {t : Addr} (h : Ev te σ H (.ref t)) (hp : SqT K H t (xs.map f)) : Ev (tCB (rLenS K) (tCons te tNil)) σ H (.int (xs.length : Int)) := fun H1 e Q q =>
  h H1 e _ fun H2 e2 => ⟨t, _, rfl, Or.inr (ex_t (e.trans e2) hp), by
    rw [List.length_map]
    exact q H2 e2⟩
/-! the sort of a tuple -/
theorem tyx_tup {t : Addr} {xs : List V} (h : SqT K H t xs) : TyX K H (.ref t) (.type "tuple") := by
  rcases h with (h | ⟨o, h⟩) | ⟨o, _, _, h, hc, _⟩
  · exact .base (.tup h)
  · exact .fTuple h
  · exact .kTuple h hc
end
end Vf

/-! Own layer: == of tuples whose items are equal by a way of their own (dicts among them). -/
namespace PySem.SeqAt
open AutoSeq1 (wpAny_loadPart')
open MeetsSeq MeetsSeq2 MeetsSeq3 SeqRoads2
section
variable {P : Program} {w : World}
theorem vf_tuple_eqIn (a b : Addr) (xs ys : Array Value) (m m2 : Nat) (d1 d2 : Option Addr) (z1 z2 : Array (Option Value)) (hsz : xs.size = ys.size) :
    MeetsIn P w (Builtin.«tuple.__eq__» ⟨[.ref a, .ref b], []⟩)
      (fun A R s => s.heap.get? a = some { cls := .type "tuple", dict := d1, data := .seq xs m, slots := z1 } ∧ s.heap.get? b = some { cls := .type "tuple", dict := d2, data := .seq ys m2, slots := z2 } ∧
        (∀ j (h1 : j < xs.size) (h2 : j < ys.size), EqP P w A.in1 s xs[j] ys[j] true) ∧ R (.ok (.ret (.bool true))) s) := by
  intro A R s h
  obtain ⟨hp, g, d, tk, os⟩ := s
  obtain ⟨ha, hb, he, hR⟩ := h
  have f2 := AutoSeq1.sub_tuple_tuple
  have hZ : (xs.toList.zip ys.toList).length = xs.size := by simp [hsz]
  wp_walk using wpAny_loadPart' ha, wpAny_loadPart' hb, wpAny_forIn_list _ (fun rest b s' => b.1 = none ∧ s' = ⟨hp, g, d, tk, os⟩ ∧ ∃ i, rest = (xs.toList.zip ys.toList).drop i) _
  case turn =>
    rintro ⟨y, x⟩ rest b2 s2 ⟨hb2, rfl, i, hz⟩
    have hlt : i < (xs.toList.zip ys.toList).length := by
      rcases Nat.lt_or_ge i (xs.toList.zip ys.toList).length with h2 | h2
      · exact h2
      · rw [List.drop_of_length_le h2] at hz
        cases hz
    have h1 : i < xs.size := hZ ▸ hlt
    have h2 : i < ys.size := hsz ▸ h1
    rw [List.drop_eq_getElem_cons hlt] at hz
    injection hz with hyx hrest
    have hy : y = xs[i] := by
      have := congrArg Prod.fst hyx
      simpa using this
    have hx : x = ys[i] := by
      have := congrArg Prod.snd hyx
      simpa using this
    subst hy hx
    refine wpAny_bind (he i h1 h2 _ _ ?_)
    wp_walk
    exact ⟨rfl, rfl, i + 1, hrest⟩
  case fin =>
    rintro ⟨b1, b2⟩ s2 ⟨hb2, rfl, i, hz⟩
    simp only at hb2
    subst hb2
    wp_walk
    exact by simpa [Builtin.Tuple.tupleCompareSizes, hsz] using hR
  case h => exact ⟨rfl, rfl, 0, rfl⟩
theorem vf_rcP_tuples {A : Around} {s : Shared} {a b : Addr} {xs ys : Array Value} (ha : s.heap.IsTuple a xs) (hb : s.heap.IsTuple b ys) (hsz : xs.size = ys.size) (hu : A.units < cLine)
    (he : ∀ j (h1 : j < xs.size) (h2 : j < ys.size), EqP P w A.in1 s xs[j] ys[j] true) (E Q : Value → Shared → Prop) (h : Q (.bool true) s) : wpAny (model P w) A (richCompare .Eq (.ref a) (.ref b)) Q E s := by
  obtain ⟨⟨c1, e1, f1, z1⟩, ho, hc, m, hd⟩ := id ha
  obtain ⟨⟨c2, e2, f2, z2⟩, ho2, hc2, m2, hd2⟩ := id hb
  simp only at hc hd hc2 hd2
  subst hc hd hc2 hd2
  have ta : s.TypeIs (.ref a) "tuple" := ⟨_, ho, rfl⟩
  have tb : s.TypeIs (.ref b) "tuple" := ⟨_, ho2, rfl⟩
  exact wpAny_richCompare_same_room (op := .Eq) ta tb F.slot_tuple_eq (call_meetsIn F.slot_tuple_eq ta F.entry_tuple_eq (F.args_tuple_eq_2 _ _) (vf_tuple_eqIn a b xs ys m m2 e1 e2 z1 z2 hsz)
    ⟨ho, ho2, he, show Value.bool true ≠ Value.notImplemented ∧ Q (.bool true) s from ⟨(fun x => nomatch x), h⟩⟩) hu
theorem vf_tuple_neIn (a b : Addr) (xs ys : Array Value) (m m2 : Nat) (d1 d2 : Option Addr) (z1 z2 : Array (Option Value)) (hsz : xs.size = ys.size) :
    MeetsIn P w (Builtin.«tuple.__ne__» ⟨[.ref a, .ref b], []⟩)
      (fun A R s => s.heap.get? a = some { cls := .type "tuple", dict := d1, data := .seq xs m, slots := z1 } ∧ s.heap.get? b = some { cls := .type "tuple", dict := d2, data := .seq ys m2, slots := z2 } ∧
        (∀ j (h1 : j < xs.size) (h2 : j < ys.size), EqP P w A.in1 s xs[j] ys[j] true) ∧ R (.ok (.ret (.bool false))) s) := by
  intro A R s h
  obtain ⟨hp, g, d, tk, os⟩ := s
  obtain ⟨ha, hb, he, hR⟩ := h
  have f2 := AutoSeq1.sub_tuple_tuple
  have hZ : (xs.toList.zip ys.toList).length = xs.size := by simp [hsz]
  wp_walk using wpAny_loadPart' ha, wpAny_loadPart' hb, wpAny_forIn_list _ (fun rest b s' => b.1 = none ∧ s' = ⟨hp, g, d, tk, os⟩ ∧ ∃ i, rest = (xs.toList.zip ys.toList).drop i) _
  case turn =>
    rintro ⟨y, x⟩ rest b2 s2 ⟨hb2, rfl, i, hz⟩
    have hlt : i < (xs.toList.zip ys.toList).length := by
      rcases Nat.lt_or_ge i (xs.toList.zip ys.toList).length with h2 | h2
      · exact h2
      · rw [List.drop_of_length_le h2] at hz
        cases hz
    have h1 : i < xs.size := hZ ▸ hlt
    have h2 : i < ys.size := hsz ▸ h1
    rw [List.drop_eq_getElem_cons hlt] at hz
    injection hz with hyx hrest
    have hy : y = xs[i] := by
      have := congrArg Prod.fst hyx
      simpa using this
    have hx : x = ys[i] := by
      have := congrArg Prod.snd hyx
      simpa using this
    subst hy hx
    refine wpAny_bind (he i h1 h2 _ _ ?_)
    wp_walk
    exact ⟨rfl, rfl, i + 1, hrest⟩
  case fin =>
    rintro ⟨b1, b2⟩ s2 ⟨hb2, rfl, i, hz⟩
    simp only at hb2
    subst hb2
    wp_walk
    exact by simpa [Builtin.Tuple.tupleCompareSizes, hsz] using hR
  case h => exact ⟨rfl, rfl, 0, rfl⟩
theorem vf_rcP_tuples_ne {A : Around} {s : Shared} {a b : Addr} {xs ys : Array Value} (ha : s.heap.IsTuple a xs) (hb : s.heap.IsTuple b ys) (hsz : xs.size = ys.size) (hu : A.units < cLine)
    (he : ∀ j (h1 : j < xs.size) (h2 : j < ys.size), EqP P w A.in1 s xs[j] ys[j] true) (E Q : Value → Shared → Prop) (h : Q (.bool false) s) : wpAny (model P w) A (richCompare .NotEq (.ref a) (.ref b)) Q E s := by
  obtain ⟨⟨c1, e1, f1, z1⟩, ho, hc, m, hd⟩ := id ha
  obtain ⟨⟨c2, e2, f2, z2⟩, ho2, hc2, m2, hd2⟩ := id hb
  simp only at hc hd hc2 hd2
  subst hc hd hc2 hd2
  have ta : s.TypeIs (.ref a) "tuple" := ⟨_, ho, rfl⟩
  have tb : s.TypeIs (.ref b) "tuple" := ⟨_, ho2, rfl⟩
  exact wpAny_richCompare_same_room (op := .NotEq) ta tb F.slot_tuple_ne (call_meetsIn F.slot_tuple_ne ta F.entry_tuple_ne (F.args_tuple_ne_2 _ _) (vf_tuple_neIn a b xs ys m m2 e1 e2 z1 z2 hsz)
    ⟨ho, ho2, he, show Value.bool false ≠ Value.notImplemented ∧ Q (.bool false) s from ⟨(fun x => nomatch x), h⟩⟩) hu
end
end PySem.SeqAt

namespace Vf
open PySem PySem.Spec PyProof.Rows L2 TL Evl
/-! ## things that are equal item by item -/
def QR (K : PySem.W.Frag) (H : Hp) (E : V → V → Prop) (x y : V) : Prop := EqR K H E x y ∨ ∃ a b xs ys, x = .ref a ∧ y = .ref b ∧ SqT K H a xs ∧ SqT K H b ys ∧ Paired E xs ys
def QV (K : PySem.W.Frag) (H : Hp) : Nat → V → V → Prop
  | 0 => fun _ _ => False
  | n + 1 => fun x y => (x = y ∧ flatB x = true) ∨ (∃ a, x = .ref a ∧ y = .ref a) ∨ QR K H (QV K H n) x y
section
variable {X : Cx} {pins : List (Addr × Obj)} {σ : L2.St} {H : Hp} {s : Shared}
theorem tups_in {A : Around} {F : V → V → Prop} (I : Inv X pins σ H s) (ih : ∀ x y v u, F x y → RelV x v → RelV y u → SeqAt.EqP X.prog X.w A.in1 s v u true) {a b : Addr} {xs ys : List V} (ha : SqT X.K H a xs) (hb : SqT X.K H b ys) (hp : Paired F xs ys) :
    ∃ us ws : Array Value, s.heap.IsTuple a us ∧ s.heap.IsTuple b ws ∧ us.size = ws.size ∧ ∀ j (h1 : j < us.size) (h2 : j < ws.size), SeqAt.EqP X.prog X.w A.in1 s us[j] ws[j] true := by
  obtain ⟨us, r1, p1, _⟩ := I.tuple ha
  obtain ⟨ws, r2, p2, _⟩ := I.tuple hb
  refine ⟨us.toArray, ws.toArray, p1, p2, ?_, fun j h1 h2 => ?_⟩
  · rw [List.size_toArray, List.size_toArray, ← r1.length, ← r2.length]
    exact paired_len hp
  · have k := items_run ih hp r1 r2 j (by simpa using h1) (by simpa using h2)
    simpa using k
theorem qR_run (I : Inv X pins σ H s) {A : Around} {F : V → V → Prop} (hu : A.units < cLine) (ih : ∀ x y v u, F x y → RelV x v → RelV y u → SeqAt.EqP X.prog X.w A.in1 s v u true) {x y : V} {v u : Value} (h : QR X.K H F x y) (rx : RelV x v) (ry : RelV y u)
    (E Q : Value → Shared → Prop) (q : Q (.bool true) s) : wpAny (model X.prog X.w) A (richCompare .Eq v u) Q E s := by
  rcases h with h | ⟨a, b, xs, ys, rfl, rfl, ha, hb, hp⟩
  · exact eqR_run I hu ih h rx ry E Q q
  · cases (show v = Value.ref a from rx)
    cases (show u = Value.ref b from ry)
    obtain ⟨us, ws, p1, p2, hsz, hj⟩ := tups_in I ih ha hb hp
    exact SeqAt.vf_rcP_tuples p1 p2 hsz hu hj E Q q
theorem qV_run (I : Inv X pins σ H s) : ∀ (n : Nat) (A : Around), A.units + n < cLine → ∀ (x y : V) (v u : Value), QV X.K H n x y → RelV x v → RelV y u → SeqAt.EqP X.prog X.w A s v u true
  | 0, _, _, _, _, _, _, h, _, _ => (show False from h).elim
  | n + 1, A, hu, x, y, v, u, h, rx, ry => by
    rcases h with ⟨rfl, f⟩ | ⟨a, rfl, rfl⟩ | h
    · exact (eqAt_same rx ry f).eqP
    · cases (show v = Value.ref a from rx)
      cases (show u = Value.ref a from ry)
      exact (SeqAt.EqAt.same _).eqP
    · have step := qR_run I (A := A) (by omega) (qV_run I n A.in1 (by show A.units + 1 + n < cLine; omega)) h rx ry
      obtain ⟨a, b, rfl, rfl⟩ : ∃ a b, x = .ref a ∧ y = .ref b := by
        rcases h with (⟨a, b, _, _, e1, e2, _⟩ | ⟨a, b, _, _, e1, e2, _⟩) | ⟨a, b, _, _, e1, e2, _⟩ <;> exact ⟨a, b, e1, e2⟩
      cases (show v = Value.ref a from rx)
      cases (show u = Value.ref b from ry)
      by_cases e : a = b
      · subst e
        exact (SeqAt.EqAt.same _).eqP
      · exact SeqAt.eqP_refs e step
/-- equal, whatever the items; for lists, dicts and tuples -/
def rQEq (K : PySem.W.Frag) : R2 := fun x y H Q => ∃ n, n ≤ 60 ∧ QR K H (QV K H n) x y ∧ Q (.bl true) H
theorem op_qEqK (K : PySem.W.Frag) (hu : X.A.units + 64 < cLine) (h : X.K = K := by rfl) : OpR X (compareOp .Eq) (rQEq K) := by
  subst h
  intro pins s σ H x y v u Q I rx ry ⟨n, hn, h, q⟩
  exact qR_run I (A := X.A) (by omega) (qV_run I n X.A.in1 (by show X.A.units + 1 + n < cLine; omega)) h rx ry _ _ ⟨.bl true, H, I, rfl, q⟩
/-- not unequal: two tuples -/
def rQNeT (K : PySem.W.Frag) : R2 := fun x y H Q => ∃ n, n ≤ 60 ∧ (∃ a b xs ys, x = .ref a ∧ y = .ref b ∧ SqT K H a xs ∧ SqT K H b ys ∧ Paired (QV K H n) xs ys) ∧ Q (.bl false) H
theorem op_qNeTK (K : PySem.W.Frag) (hu : X.A.units + 64 < cLine) (h : X.K = K := by rfl) : OpR X (compareOp .NotEq) (rQNeT K) := by
  subst h
  intro pins s σ H x y v u Q I rx ry ⟨n, hn, ⟨a, b, xs, ys, e1, e2, ha, hb, hp⟩, q⟩
  subst e1 e2
  cases (show v = Value.ref a from rx)
  cases (show u = Value.ref b from ry)
  obtain ⟨us, ws, p1, p2, hsz, hj⟩ := tups_in (A := X.A) I (qV_run I n X.A.in1 (by show X.A.units + 1 + n < cLine; omega)) ha hb hp
  exact SeqAt.vf_rcP_tuples_ne p1 p2 hsz (by omega) hj _ _ ⟨.bl false, H, I, rfl, q⟩
end
end Vf

/-! Own layer: comprehensions to tuples; walks over lists of tuples; tuples of dicts; a text or a dict; calls that may raise. -/
namespace Vf
open PySem PySem.Spec PyProof.Rows L2 TL Evl
section
variable {K : PySem.W.Frag} {σ : L2.St} {H H1 H2 : Hp} {ta tb te td tl' : TE} {t : TT} {p pl d : Addr} {kvs : List (Key × V)} {jx i : Nat} {ws : List Nat} {D : Ends} {tz tu : TS}
/-! ## comprehensions to tuples, over lists -/
theorem u_filC {γ : Type} {f : γ → V} {m : List γ} (c : γ → Bool) (g : γ → List V) (dv : γ) {HB : Hp} {Q : VK} (hS : SqL K HB pl (m.map f)) (hz : m.length ≤ 40000)
    (ht : ∀ y ∈ m, EvT t ((wipe σ ws).set jx (some (f y))) HB (c y)) (he : ∀ y ∈ m, c y = true → EvU te ((wipe σ ws).set jx (some (f y))) HB (g y)) (hw : ∀ w, wipe ((wipe σ ws).set jx (some w)) ws = wipe σ ws)
    (q : ∀ Dl H', HB Dl = none → Ex HB H' → IsLU K H' Dl ((m.filter c).map g) → Q (.ref Dl) H') : ∀ Dl, HB Dl = none → ∃ W : Nat → Nat → Hp → Prop, (∃ n, W 0 n (upd HB Dl (.lst []))) ∧ ∀ k n H', W k n H' →
      ((Itl K pl).stop k H' ∧ Q (.ref Dl) H') ∨ ((Itl K pl).go k H' ∧ ∃ Nx : Hp → Prop, (∀ H3, Nx H3 → ∃ n', n' < n ∧ W (k + 1) n' H3) ∧ ∀ x H3, (Itl K pl).yld k H' x H3 → (gName jx) x (wipe σ ws) H3 fun σ2 H4 => wipe σ2 ws = wipe σ ws ∧ t σ2 H4 fun b H5 =>
        if b = true then te σ2 H5 fun y H6 => ∃ acc, H6 Dl = some (.lst acc) ∧ acc.length < sizeLine ∧ Nx (upd H6 Dl (.lst (acc ++ [y]))) else Nx H5) := fun Dl hD =>
  lc_list (xs := m.map f) (fun k H' => k ≤ m.length ∧ Tw K HB Dl (((m.take k).filter c).map g) H') ⟨Nat.zero_le _, by rw [List.take_zero]; exact tw_new hD⟩ (fun k H' _ hI => ex_l hI.2.2.1 hS) (fun k x H' hx hI => by
    obtain ⟨hk, hC⟩ := hI
    have hlt : k < m.length := by
      have := (List.getElem?_eq_some_iff.mp hx).1
      rw [List.length_map] at this
      exact this
    obtain ⟨hm, ew⟩ := map_at dv hx
    rw [ew]
    have hst := fil_take c g m k dv hlt
    have hl : (((m.take k).filter c).map g).length < 50000 := by
      rw [List.length_map]
      have h1 := List.length_filter_le c (m.take k)
      rw [List.length_take] at h1
      omega
    refine ⟨hw _, tw_turn hC hl (ht _ hm) (he _ hm) fun H6 _ h6 => ⟨hlt, ?_⟩⟩
    rw [hst]
    exact h6) (fun H' hI => by
    rw [List.length_map, List.take_length] at hI
    exact q Dl H' hI.2.1 hI.2.2.1 hI.2.2.2)
theorem u_filL {γ : Type} {f : γ → V} {m : List γ} (c : γ → Bool) (g : γ → List V) (dv : γ) (h : Ev tl' σ H (.ref pl)) (hS : SqL K H pl (m.map f)) (hz : m.length ≤ 40000)
    (ht : ∀ y ∈ m, EvT t ((wipe σ ws).set jx (some (f y))) H (c y)) (he : ∀ y ∈ m, c y = true → EvU te ((wipe σ ws).set jx (some (f y))) H (g y)) (hw : ∀ w, wipe ((wipe σ ws).set jx (some w)) ws = wipe σ ws := by exact fun _ => rfl) :
    EvU2 K (tLc (iList K tl') (gName jx) t te ws) σ H ((m.filter c).map g) := fun H0 e0 Q q => h H0 e0 _ fun H1 e1 => ⟨pl, rfl, ⟨_, ex_l (e0.trans e1) hS⟩,
  u_filC c g dv (ex_l (e0.trans e1) hS) hz (fun y hy => fun H3 e3 => ht y hy H3 ((e0.trans e1).trans e3)) (fun y hy hc => fun H3 e3 => he y hy hc H3 ((e0.trans e1).trans e3)) hw fun Dl H' hD e' hI => q Dl H' (fresh_back e1 hD) (e1.trans e') hI⟩
theorem u_filN {γ : Type} {f : γ → V} {m : List γ} (c : γ → Bool) (g : γ → List V) (dv : γ) (h : EvL tl' σ H (m.map f)) (hz : m.length ≤ 40000)
    (ht : ∀ y ∈ m, EvT t ((wipe σ ws).set jx (some (f y))) H (c y)) (he : ∀ y ∈ m, c y = true → EvU te ((wipe σ ws).set jx (some (f y))) H (g y)) (hw : ∀ w, wipe ((wipe σ ws).set jx (some w)) ws = wipe σ ws := by exact fun _ => rfl) :
    EvU2 K (tLc (iList K tl') (gName jx) t te ws) σ H ((m.filter c).map g) := fun H0 e0 Q q => h H0 e0 _ fun pl H1 np e1 hp => ⟨pl, rfl, ⟨_, sq_of hp⟩,
  u_filC c g dv (sq_of hp) hz (fun y hy => fun H3 e3 => ht y hy H3 ((e0.trans e1).trans e3)) (fun y hy hc => fun H3 e3 => he y hy hc H3 ((e0.trans e1).trans e3)) hw fun Dl H' hD e' hI => q Dl H' (fresh_back e1 hD) (e1.trans e') hI⟩
/-- over a tuple of plain things -/
theorem l_filU {β γ : Type} {f : γ → V} {f2 : β → V} {m : List γ} {tp : Addr} (c : γ → Bool) (g : γ → β) (dv : γ) (h : Ev tl' σ H (.ref tp)) (hS : SqT K H tp (m.map f)) (hz : m.length ≤ 40000)
    (ht : ∀ y ∈ m, EvT t ((wipe σ ws).set jx (some (f y))) H (c y)) (he : ∀ y ∈ m, c y = true → Ev te ((wipe σ ws).set jx (some (f y))) H (f2 (g y))) (hw : ∀ w, wipe ((wipe σ ws).set jx (some w)) ws = wipe σ ws := by exact fun _ => rfl) :
    EvL (tLc (iTup K tl') (gName jx) t te ws) σ H (((m.filter c).map g).map f2) := fun H0 e0 Q q => h H0 e0 _ fun H1 e1 => ⟨tp, rfl, ⟨_, ex_t (e0.trans e1) hS⟩, fun Dl hD =>
  lc_tup (xs := m.map f) (Cw H1 (fun k => c (m.getD k dv)) (fun k => f2 (g (m.getD k dv))) Dl) ⟨hD, Ex.new hD, upd_same⟩ (fun k H' _ hC => ex_t ((e0.trans e1).trans hC.2.1) hS) (fun k x H' hx hC => by
    obtain ⟨hm, ew⟩ := map_at dv hx
    have hlt := (List.getElem?_eq_some_iff.mp hx).1
    rw [List.length_map] at hlt
    rw [ew]
    exact ⟨hw _, cw_turn hC (by omega) (fun H3 e3 => ht _ hm H3 ((e0.trans e1).trans e3)) (fun hc => fun H3 e3 => he _ hm hc H3 ((e0.trans e1).trans e3))⟩) (fun H' hC => by
    have h3 := hC.2.2
    rw [List.length_map, given_filter] at h3
    exact q Dl H' (fresh_back e1 hC.1) (e1.trans hC.2.1) h3)⟩
/-- those of a list of tuples that fit: how many there are -/
theorem e_lenFil {l : List (List Tx)} (c : List Tx → Bool) (h : Ev tl' σ H (.ref pl)) (hp : IsLUr K H pl (l.map (List.map vs))) (hz : l.length ≤ 40000)
    (ht : ∀ q ∈ l, ∀ a H3, Ex H H3 → SqT K H3 a (q.map vs) → EvT t ((wipe σ ws).set jx (some (.ref a))) H3 (c q)) (he : ∀ a H3, Ev te ((wipe σ ws).set jx (some (.ref a))) H3 (.ref a)) (hw : ∀ w, wipe ((wipe σ ws).set jx (some w)) ws = wipe σ ws := by exact fun _ => rfl) :
    Ev (tCB (rLenS K) (tCons (tLc (iList K tl') (gName jx) t te ws) tNil)) σ H (.int ((l.filter c).length : Int)) := fun H0 e0 Q q => h H0 e0 _ fun H1 e1 => by
  obtain ⟨ts, h1, h2⟩ := hp.ex (e0.trans e1)
  refine ⟨pl, rfl, ⟨_, h1⟩, fun Dl hD => ?_⟩
  have hlen : ts.length = l.length := by rw [paired_len h2, List.length_map]
  refine lc_list (xs := ts.map V.ref) (fun k H' => k ≤ l.length ∧ H1 Dl = none ∧ Ex H1 H' ∧ ∃ us : List V, H' Dl = some (.lst us) ∧ us.length = ((l.take k).filter c).length) ⟨Nat.zero_le _, hD, Ex.new hD, [], upd_same, rfl⟩ (fun k H' _ hI => ex_l hI.2.2.1 h1) (fun k x H' hx hI => ?_) (fun H' hI => ?_)
  · obtain ⟨hk, _, e2, us, hu, hul⟩ := hI
    obtain ⟨a, y, rfl, hy, ha⟩ := tup_at (ts := ts) (i := k) h2 hx
    rw [List.getElem?_map] at hy
    cases hy2 : l[k]? with
    | none =>
      rw [hy2] at hy
      cases hy
    | some y2 =>
      rw [hy2] at hy
      have ey : y2.map vs = y := Option.some.inj hy
      subst ey
      have hlt := (List.getElem?_eq_some_iff.mp hy2).1
      have hst : (l.take (k + 1)).filter c = (l.take k).filter c ++ (if c y2 = true then [y2] else []) := by
        rw [List.take_add_one, hy2, List.filter_append]
        congr 1
        show [y2].filter c = _
        rw [List.filter_cons]
        rfl
      have hle : us.length ≤ 40000 := by
        rw [hul]
        have h5 := List.length_filter_le c (l.take k)
        rw [List.length_take] at h5
        omega
      refine ⟨hw _, ht y2 (List.mem_of_getElem? hy2) a H' ((e0.trans e1).trans e2) (ex_t e2 ha) H' (Ex.refl H') _ fun H3 e3 => ?_⟩
      cases hc : c y2 with
      | false =>
        rw [if_neg Bool.false_ne_true]
        rw [hc, if_neg Bool.false_ne_true, List.append_nil] at hst
        exact ⟨hlt, hD, e2.trans e3, us, e3 Dl _ hu, by rw [hst]; exact hul⟩
      | true =>
        rw [if_pos rfl]
        rw [hc, if_pos rfl] at hst
        refine he a H3 H3 (Ex.refl H3) _ fun H4 e4 => ⟨us, e4 Dl _ (e3 Dl _ hu), sz_lt (by omega), hlt, hD, Ex.mut ((e2.trans e3).trans e4) hD, us ++ [.ref a], upd_same, ?_⟩
        rw [hst, List.length_append, List.length_append, hul]
        rfl
  · obtain ⟨_, _, e2, us, hu, hul⟩ := hI
    rw [List.length_map, hlen, List.take_length] at hul
    refine ⟨Dl, us, rfl, Or.inl (sq_of hu), ?_⟩
    rw [hul]
    exact q H' (e1.trans e2)
/-! ## a walk over a list of tuples -/
def BodyOkU (K : PySem.W.Frag) {S R : Type} (tu : TS) (D : Ends) (j : Nat) (step : S → List Tx → Stp S R) (l : List (List Tx)) (s0 : S) (Rep : S → L2.St → Hp → Prop) : Prop :=
  ∀ (Nx Bk : L2.St → Hp → Prop) (i : Nat) (s : S) (y : List Tx) (a : Addr) (σ1 : L2.St) (H1 : Hp), l[i]? = some y → runL step (l.take i) s0 = .go s → Rep s σ1 H1 → SqT K H1 a (y.map vs) → (∀ s2 σ2 H2, step s y = .go s2 → Rep s2 σ2 H2 → Nx σ2 H2) → (∀ s2 σ2 H2, step s y = .brk s2 → Rep s2 σ2 H2 → Bk σ2 H2) →
    (∀ r, step s y = .ret r → runL step l s0 = .ret r) → tu { D with nx := Nx, ct := Nx, bk := Bk } (σ1.set j (some (.ref a))) H1
theorem q_loopU {S R : Type} {l : List (List Tx)} (step : S → List Tx → Stp S R) (s0 : S) (Rep : List Addr → S → L2.St → Hp → Prop) {j : Nat} {H0 : Hp} (h : Ev tl' σ H (.ref pl)) (hS : IsLUr K H0 pl (l.map (List.map vs))) (r0 : RX H0 H)
    (h0 : ∀ ts H1, Ex H H1 → SqL K H0 pl (ts.map V.ref) → TupsAt K H0 ts (l.map (List.map vs)) → Rep ts s0 σ H1) (hl : ∀ ts s σ1 H1, SqL K H0 pl (ts.map V.ref) → TupsAt K H0 ts (l.map (List.map vs)) → Rep ts s σ1 H1 → SqL K H1 pl (ts.map V.ref) ∧ TupsAt K H1 ts (l.map (List.map vs)))
    (hb : ∀ ts, BodyOkU K tu D j step l s0 (Rep ts)) (ho : ∀ ts, OutOk tz D step l s0 (Rep ts)) : tSeq (tFor (iList K tl') (gName j) tu) tz D σ H := by
  obtain ⟨ts, hA, hB⟩ := hS
  have hlen : ts.length = l.length := by
    rw [paired_len hB, List.length_map]
  refine q_forLn h (rx_l r0 hA) (fun i σ1 H1 => ∃ s, runL step (l.take i) s0 = .go s ∧ Rep ts s σ1 H1) (fun H1 e => ⟨s0, rfl, h0 ts H1 e hA hB⟩) (fun i σ1 H1 _ ⟨s, _, q⟩ => (hl ts s σ1 H1 hA hB q).1) (fun i x σ1 H1 hx q => ?_) (fun σ1 H1 q => loop_end (ho ts) (by rw [List.length_map]; exact hlen) q)
  obtain ⟨s, hr, hq⟩ := q
  obtain ⟨a, y, rfl, hy, ha⟩ := tup_at (ts := ts) (i := i) (hl ts s σ1 H1 hA hB hq).2 hx
  cases hy2 : l[i]? with
  | none =>
    rw [List.getElem?_map, hy2] at hy
    cases hy
  | some y2 =>
    rw [List.getElem?_map, hy2] at hy
    have e : y2.map vs = y := Option.some.inj hy
    subst e
    have hn := runL_next hr hy2
    exact hb ts _ _ i s y2 a σ1 H1 hy2 hr hq ha (fun s2 σ2 H2 e q => ⟨s2, hn.trans e, q⟩) (fun s2 σ2 H2 e q => ho ts s2 σ2 H2 (Or.inr (runL_out (hn.trans e) (fun _ z => by cases z))) q) (fun r e => runL_out (hn.trans e) (fun _ z => by cases z))
/-! ## deep data compared -/
def EvP (K : PySem.W.Frag) (te : TE) (σ : L2.St) (H : Hp) (d : PyData) : Prop := ∀ H1, Ex H H1 → ∀ Q : VK, (∀ v H2, Ex H1 H2 → Dp K H2 v d → Q v H2) → te σ H1 Q
theorem dp_LUr {l : List (List Tx)} (h : IsLUr K H p (l.map (List.map vs))) : Dp K H (.ref p) (duD l) := by
  obtain ⟨ts, a, b⟩ := h
  exact .lst a (dp_tups b)
theorem ep_u2 {l : List (List Tx)} (h : EvU2 K te σ H (l.map (List.map vs))) : EvP K te σ H (duD l) := fun H1 e Q q => h H1 e _ fun p H2 _ e2 hp => q _ H2 e2 (dp_LUr hp.r)
theorem ep_lu {l : List (List Tx)} (h : Ev te σ H (.ref p)) (hp : IsLUr K H p (l.map (List.map vs))) : EvP K te σ H (duD l) := fun H1 e Q q => h H1 e _ fun H2 e2 => q _ H2 e2 (dp_LUr (hp.ex (e.trans e2)))
theorem dp_ex {v : V} {d : PyData} (e : Ex H H2) (h : Dp K H v d) : Dp K H2 v d := by
  refine Dp.rec (motive_1 := fun v d _ => Dp K H2 v d) (motive_2 := fun v d _ => DpAll K H2 v d) .non .bl .int .str (fun a _ ih => .lst (ex_l e a) ih) (fun a _ ih => .tup (ex_t e a) ih) .nil (fun _ _ a b => .cons a b) h
theorem e_eqP {a b : PyData} (ha : EvP K ta σ H a) (hb : EvP K tb σ H b) (sa : SeqAt.shaped a = true) (sb : SeqAt.shaped b = true) : Ev (tOp (rEqD K) ta tb) σ H (.bl (PyData.eqv a b)) := fun H1 e1 Q q =>
  ha H1 e1 _ fun v H2 e2 hv => hb H2 (e1.trans e2) _ fun u H3 e3 hu => ⟨a, b, dp_ex e3 hv, hu, sa, sb, q H3 (e2.trans e3)⟩
theorem e_neP {a b : PyData} (ha : EvP K ta σ H a) (hb : EvP K tb σ H b) (sa : SeqAt.shaped a = true) (sb : SeqAt.shaped b = true) : Ev (tOp (rNeD K) ta tb) σ H (.bl (!PyData.eqv a b)) := fun H1 e1 Q q =>
  ha H1 e1 _ fun v H2 e2 hv => hb H2 (e1.trans e2) _ fun u H3 e3 hu => ⟨a, b, dp_ex e3 hv, hu, sa, sb, q H3 (e2.trans e3)⟩
theorem op_neDK {X : Cx} (K : PySem.W.Frag) (hu : X.A.units + 64 < cLine) (h : X.K = K := by rfl) : OpR X (compareOp .NotEq) (rNeD K) := h ▸ op_neD hu
theorem eqv_strs : ∀ q r : List Tx, PyData.eqvAll (q.map fun p => PyData.str (mk p)) (r.map fun p => PyData.str (mk p)) = decide (q = r)
  | [], [] => rfl
  | [], _ :: _ => rfl
  | _ :: _, [] => rfl
  | a :: q, b :: r => by
    have ih := eqv_strs q r
    show (PyData.eqv (.str (mk a)) (.str (mk b)) && PyData.eqvAll _ _) = _
    rw [ih]
    have h1 : PyData.eqv (.str (mk a)) (.str (mk b)) = decide (a = b) := by
      show (mk a == mk b) = _
      by_cases h : a = b
      · subst h
        rw [decide_eq_true rfl]
        exact beq_self_eq_true _
      · rw [decide_eq_false h]
        exact beq_eq_false_iff_ne.mpr fun z => h (mk_inj z)
    rw [h1]
    by_cases h : a = b
    · subst h
      by_cases h2 : q = r
      · subst h2
        simp
      · simp [h2]
    · simp [h]
theorem eqv_tups : ∀ l m : List (List Tx), PyData.eqvAll (l.map fun q => PyData.tuple (q.map fun p => .str (mk p))) (m.map fun q => PyData.tuple (q.map fun p => .str (mk p))) = decide (l = m)
  | [], [] => rfl
  | [], _ :: _ => rfl
  | _ :: _, [] => rfl
  | a :: q, b :: r => by
    have ih := eqv_tups q r
    have h1 : PyData.eqv (.tuple (a.map fun p => .str (mk p))) (.tuple (b.map fun p => .str (mk p))) = decide (a = b) := eqv_strs a b
    show (PyData.eqv _ _ && PyData.eqvAll _ _) = _
    rw [ih, h1]
    by_cases h : a = b
    · subst h
      by_cases h2 : q = r
      · subst h2
        simp
      · simp [h2]
    · simp [h]
theorem eqv_duD (l m : List (List Tx)) : PyData.eqv (duD l) (duD m) = decide (l = m) := eqv_tups l m
theorem e_eqLUd {l m : List (List Tx)} (ha : EvP K ta σ H (duD l)) (hb : EvP K tb σ H (duD m)) (sa : ∀ q ∈ l, ∀ p ∈ q, okT p) (sb : ∀ q ∈ m, ∀ p ∈ q, okT p) : Ev (tOp (rEqD K) ta tb) σ H (.bl (decide (l = m))) := eqv_duD l m ▸ e_eqP ha hb (shaped_LU sa) (shaped_LU sb)
theorem e_neLUd {l m : List (List Tx)} (ha : EvP K ta σ H (duD l)) (hb : EvP K tb σ H (duD m)) (sa : ∀ q ∈ l, ∀ p ∈ q, okT p) (sb : ∀ q ∈ m, ∀ p ∈ q, okT p) : Ev (tOp (rNeD K) ta tb) σ H (.bl (!decide (l = m))) := eqv_duD l m ▸ e_neP ha hb (shaped_LU sa) (shaped_LU sb)
end
end Vf

/-! Own layer: several except clauses, each with a name. -/
namespace Vf
open PySem PySem.Spec PyProof.Rows L2 TL Evl
abbrev HL := List (Value × (Addr → Value → Option Addr → TS))
/-- what named clauses wish of an error of the body -/
def wManyA (K : PySem.W.Frag) (i : Nat) (Wz : WX) (D : Ends) : HL → WX
  | [] => Wz
  | (c, ts) :: r => fun cls d σ H => ∃ b, PySem.W.exmOne K cls c = some b ∧ (b = true → ∀ a, H a = none → ts a cls d { D with nx := fun σ2 H2 => D.nx (σ2.set i none) H2, bk := fun σ2 H2 => D.bk (σ2.set i none) H2, ct := fun σ2 H2 => D.ct (σ2.set i none) H2 } (σ.set i (some (.ref a))) H) ∧ (b = false → wManyA K i Wz D r cls d σ H)
inductive HdsA (X : Cx) (n : Str) : List ExceptHandler → HL → Prop
  | nil : HdsA X n [] []
  | cons {x : Str} {c : Value} {ts : Addr → Value → Option Addr → TS} {b0 : Stmt} {su : List Stmt} {np pz : Pos} {hds : List ExceptHandler} {l : HL} (hc : Names X x c)
      (hsu : ∀ (a : Addr) (oe : Obj) (cls : Value) (d : Option Addr) (pn : List (Addr × Obj)), L2N.Zn cls d oe → (∃ us, oe.data = .fields us) → PSs (X.suite a ((a, oe) :: pn)) (b0 :: su) (ts a cls d)) (r : HdsA X n hds l) :
      HdsA X n (.ExceptHandler (some (.Name x np)) (some n) (b0 :: su) pz :: hds) ((c, ts) :: l)
section
variable {X : Cx} {body : List Stmt} {n : Str} {i : Nat} {h0 : ExceptHandler} {hds : List ExceptHandler} {l : HL} {pos : Pos} {tb : WX → TS} {Wz : WX}
theorem ps_try_manyA (hs : X.stack = X.env :: X.outer) (hf : X.env.frame = some X.env.locals) (hN : X.N.Nodup) (hi : X.N[i]? = some n) (hln : X.env.kindOf n = some .local) (tk : L2N.Takes X Wz)
    (hb : ∀ (W : WX) (pn : List (Addr × Obj)) (xe : Value → Shared → Prop), L2N.Takes (X.tr pn xe) W → PassesOwn (model X.prog X.w) X.A X.env xe → PSs (X.tr pn xe) body (tb W))
    (hh : HdsA X n (h0 :: hds) l) : PS X (.Try body (h0 :: hds) [] [] pos) (fun D σ H => tb (wManyA X.K i Wz D l) D σ H) := by
  refine ⟨fun pins s σ H D I h => ?_⟩
  have ok := I.ok
  have hfrm : X.A.frames = some (X.env :: X.outer) := by rw [ok.frames, hs]
  have hloc2 : Loc X.env.scope n := .inl hln
  refine wpAny_Try_except ?_
  refine wpAny_mono ((hb (wManyA X.K i Wz D l) (X.pn ++ pins) (fun e s1 => wpAny (model X.prog X.w) X.A (noteFrame e X.env) (fun _ s2 => wpAny (model X.prog X.w) X.A (setFlight e none) (fun _ s3 =>
    wpAny (model X.prog X.w) X.A (handleBy e X.env (h0 :: hds)) (SP X pins D) X.xe s3) X.xe s2) X.xe s1) (fun u sb xx => ?_) PassesOwn.looking).run [] s σ H D (I.toTry _) h) (fun f s1 hsp => ?_) (fun e s1 he => he)
  · obtain ⟨a, B, sI, pinsb, σb, Hb, cls, d, rfl, Jb, nb, up, sky, na, os, ag, w⟩ := xx
    have J : Inv X pins σb Hb sI := Jb.ofTry ok
    have skyb : Sky B (X.env :: X.outer) a (L2N.Zn cls d) X.env.locals sb.heap := by rw [← hs]; exact sky
    show wpAny (model X.prog X.w) X.A (noteFrame (.ref a) X.env) _ _ _
    refine L2N.Sky.land L2N.Zn.steady hfrm hf skyb fun hA fA upA => ?_
    have JA : Inv X pins σb Hb { sb with heap := hA } := J.landed nb fA.1 (up.trans upA) os ag
    obtain ⟨oeA, vsA, heA, hzA, hdA⟩ := fA.there
    have notF : ∀ {h : Heap} {o : Obj} {us : Array Value}, h.FunFrames B (X.env :: X.outer) → h.get? a = some o → o.data = .fields us → a ∉ frs (X.env :: X.outer) := fun {h o us} ff e dd hm => by
      obtain ⟨_, o2, e2, hnf⟩ := ff.mem hm
      rw [e] at e2
      cases e2
      exact hnf _ dd
    have nfrA := notF fA.2.2.1 heA hdA
    have nLA : a ≠ X.env.locals := fun z => nfrA (List.mem_filterMap.mpr ⟨X.env, List.mem_cons_self, by rw [hf, z]⟩)
    have nFA : a ∉ X.fs := fun hm => by
      obtain ⟨e, he, q⟩ := List.mem_filterMap.mp hm
      exact nfrA (List.mem_filterMap.mpr ⟨e, List.mem_cons_of_mem _ he, q⟩)
    have SA := JA.suite heA hdA na nLA nFA
    have go : ∀ {hds2 : List ExceptHandler} {l2 : HL}, HdsA X n hds2 l2 → wManyA X.K i Wz D l2 cls d σb Hb → wpAny (model X.prog X.w) X.A (handleBy (.ref a) X.env hds2) (SP X pins D) X.xe { sb with heap := hA } := by
      intro hds2 l2 hk
      induction hk with
      | nil =>
        intro w
        refine wpAny_handleBy_nil ?_
        obtain ⟨k1, k2, k3, oe, us, T, oT, tsb, he, hz, hd, h1, hr⟩ := id fA
        unfold PySem.passOn
        refine wpAny_bind (wpAny_field he hd h1 ?_)
        rw [if_neg (show ¬ ((Value.ref T == Value.none) = true) by simp)]
        have fin : wpAny (model X.prog X.w) X.A (setFlight (.ref a) X.env.frame) (fun _ s4 => wpAny (model X.prog X.w) X.A (throw (.ref a) : Sem Flow) (SP X pins D) X.xe s4) X.xe { sb with heap := hA } := by
          rw [hf]
          refine HandSPX.setFlight_upZ fA fun hB hhB upB => wpAny_throw (tk _ _ ?_)
          exact ⟨a, B, sI, pins, σb, Hb, cls, d, rfl, J, nb, (up.trans upA).trans upB, .inr (.inr (by rw [hs]; exact hhB)), na, os, ag, w⟩
        first
          | exact wpAny_bind (wpAny_pure (wpAny_bind fin))
          | exact wpAny_bind fin
      | @cons x c ts b0 su np pz hds3 l3 hc hsu r ih =>
        intro w
        obtain ⟨b, hb1, hyes, hno⟩ := w
        refine wpAny_handleBy_cons (codeAny_handlers_test ?_) (by intro q; cases q)
        have LT : PySem.W.Looks (model X.prog X.w) hA (typeOf (.ref a)) cls := fun A Q E s k q => wpAny_typeOf_ref (k _ _ heA) (by rw [hzA.1]; exact q)
        have LM := PySem.W.exm_one (M := model X.prog X.w) JA.kIn LT hb1
        have test : ∀ {Q : Value → Shared → Prop} {E : Value → Shared → Prop}, Q c { sb with heap := hA } → wpAny (model X.prog X.w) (X.A.mark (some (.ref a))) (eval (.Name x np) X.env) Q E { sb with heap := hA } := fun {Q E} q => by
          obtain ⟨hg, hdbg, hm | ⟨hm, hv, hnn⟩⟩ := hc
          · exact ld_glob (X := X.suite a ((a, oeA) :: (X.pn ++ pins))) SA hg hm q hdbg
          · exact ld_blt (X := X.suite a ((a, oeA) :: (X.pn ++ pins))) SA hg hm hv q hnn hdbg
        refine test (LM.here ?_)
        cases b with
        | true =>
          refine codeAny_handlers_suite_as ?_
          refine HandSPX.lands_againZ fA fun hB fB upB => ?_
          have JB : Inv X pins σb Hb { sb with heap := hB } := J.landed nb fB.1 ((up.trans upA).trans upB) os ag
          obtain ⟨oeB, vsB, heB, hzB, hdB⟩ := fB.there
          have SB := JB.suite heB hdB na nLA nFA
          refine store_ok (X := X.suite a ((a, oeB) :: (X.pn ++ pins))) (v := .ref a) SB hN hi hloc2 rfl (fun s5 S5 => ?_) (.inr hln)
          refine wpAny_mono ((hsu a oeB cls d (X.pn ++ pins) hzB ⟨_, hdB⟩).run [] s5 _ Hb _ S5 (hyes rfl a na)) (fun f s6 hsp => ?_) (fun _ _ z => False.elim z)
          have fin : ∀ {σ6 : L2.St} {H6 : Hp} {Q : Shared → Prop}, Inv (X.suite a ((a, oeB) :: (X.pn ++ pins))) [] σ6 H6 s6 → (∀ s7, Inv X pins (σ6.set i none) H6 s7 → Q s7) →
              wpAny (model X.prog X.w) X.A (do bindName X.env n .none; unbindBehindTheSuite X.env n pz) (fun _ s7 => Q s7) X.xe s6 := fun {σ6 H6 Q} S6 hq => gone_ok (S6.unsuite ok) hN hi hln hq
          cases f with
          | next =>
            obtain ⟨σ6, H6, S6, q6⟩ := hsp
            exact fin S6 fun s7 J7 => ⟨_, _, J7, q6⟩
          | brk =>
            obtain ⟨σ6, H6, S6, q6⟩ := hsp
            exact fin S6 fun s7 J7 => ⟨_, _, J7, q6⟩
          | cont =>
            obtain ⟨σ6, H6, S6, q6⟩ := hsp
            exact fin S6 fun s7 J7 => ⟨_, _, J7, q6⟩
          | ret u =>
            obtain ⟨v6, σ6, H6, S6, r6, q6⟩ := hsp
            exact fin S6 fun s7 J7 => ⟨_, _, _, J7, r6, q6⟩
        | false =>
          show wpAny _ X.A (handleBy (.ref a) X.env hds3) _ _ _
          exact ih (hno rfl)
    exact go hh w
  · cases f with
    | next =>
      obtain ⟨σb, Hb, Jb, q⟩ := hsp
      exact wpAny_execs_nil ⟨σb, Hb, Jb.ofTry ok, q⟩
    | brk =>
      obtain ⟨σb, Hb, Jb, q⟩ := hsp
      exact ⟨σb, Hb, Jb.ofTry ok, q⟩
    | cont =>
      obtain ⟨σb, Hb, Jb, q⟩ := hsp
      exact ⟨σb, Hb, Jb.ofTry ok, q⟩
    | ret u =>
      obtain ⟨v, σb, Hb, Jb, r, q⟩ := hsp
      exact ⟨v, σb, Hb, Jb.ofTry ok, r, q⟩
end
end Vf

/-! Own layer: tuples of dicts; a text or a dict; calls that may raise. -/
namespace Vf
open PySem PySem.Spec PyProof.Rows L2 TL Evl
section
variable {K : PySem.W.Frag} {σ : L2.St} {H H1 H2 : Hp} {ta tb tc te td tl' : TE} {t : TT} {p pl d a b c : Addr} {k1 k2 k3 : List (Key × V)} {i j k : Nat} {D : Ends} {tz tu : TS}
/-! ## tuples of dicts -/
def RetT2 (k1 k2 : List (Key × V)) (H : Hp) (Q : VK) : Prop := ∀ p a b H2, H p = none → H a = none → H b = none → a ≠ b → Ex H H2 → H2 p = some (.tup [.ref a, .ref b]) → H2 a = some (.dK k1) → H2 b = some (.dK k2) → Q (.ref p) H2
def RetT3 (k1 k2 k3 : List (Key × V)) (H : Hp) (Q : VK) : Prop := ∀ p a b c H2, H p = none → H a = none → H b = none → H c = none → a ≠ b → a ≠ c → b ≠ c → Ex H H2 → H2 p = some (.tup [.ref a, .ref b, .ref c]) → H2 a = some (.dK k1) → H2 b = some (.dK k2) → H2 c = some (.dK k3) → Q (.ref p) H2
def spT2 (R : List V → Hp → List (Key × V) × List (Key × V) → Prop) : Sp := fun ws H Q _ => ∃ r, R ws H r ∧ RetT2 r.1 r.2 H Q
def spT3 (R : List V → Hp → List (Key × V) × List (Key × V) × List (Key × V) → Prop) : Sp := fun ws H Q _ => ∃ r, R ws H r ∧ RetT3 r.1 r.2.1 r.2.2 H Q
theorem pg_tupK {X : Cx} (K : PySem.W.Frag) {es : List Expr} {k n : Nat} {pos : Pos} {t : TGs} (hc : X.calm = true) (h : PGs X es t) (hK : X.K = K := by rfl)
    (hn : (assignEach es X.env).length = n := by rfl) (hst : (assignEach es X.env).findIdx? (·.1) = none := by rfl) : PG X (.Tuple es k pos) (gTup K n t) := hK ▸ pg_tup hc h hn hst
theorem ne_dt {x y : Addr} {o u : HO} (h1 : H x = some o) (h2 : H y = some u) (h : o ≠ u) : x ≠ y := fun z => by
  subst z
  rw [h1] at h2
  exact h (Option.some.inj h2)
theorem s_unpT2 {R : List V → Hp → List (Key × V) × List (Key × V) → Prop} {t : TA} {E : XK} {ws : List V} (h : EvA t σ H ws) (hR : ∀ H1, Ex H H1 → R ws H1 (k1, k2))
    (q : ∀ a b H1, H a = none → H b = none → a ≠ b → Ex H H1 → H1 a = some (.dK k1) → H1 b = some (.dK k2) → D.nx ((σ.set i (some (.ref a))).set j (some (.ref b))) H1) :
    tAsg (tCall (spT2 R) [] E t) (gTup K 2 (gCons (gName i) (gCons (gName j) gNil))) D σ H :=
  h H (Ex.refl H) _ fun H1 e1 => ⟨(k1, k2), by rw [List.append_nil]; exact hR H1 e1, fun p a b H2 np na nb ne e2 hp ha hb =>
    ⟨p, _, rfl, st_of hp, rfl, _, _, rfl, _, _, rfl, ⟨rfl, q a b H2 (fresh_back e1 na) (fresh_back e1 nb) ne (e1.trans e2) ha hb⟩⟩⟩
theorem q_unpT2 {R : List V → Hp → List (Key × V) × List (Key × V) → Prop} {t : TA} {E : XK} {ws : List V} (h : EvA t σ H ws) (hR : ∀ H1, Ex H H1 → R ws H1 (k1, k2))
    (q : ∀ a b H1, H a = none → H b = none → a ≠ b → Ex H H1 → H1 a = some (.dK k1) → H1 b = some (.dK k2) → tz D ((σ.set i (some (.ref a))).set j (some (.ref b))) H1) :
    tSeq (tAsg (tCall (spT2 R) [] E t) (gTup K 2 (gCons (gName i) (gCons (gName j) gNil)))) tz D σ H := s_unpT2 (D := { D with nx := tz D }) h hR q
theorem s_unpT3 {R : List V → Hp → List (Key × V) × List (Key × V) × List (Key × V) → Prop} {t : TA} {E : XK} {ws : List V} (h : EvA t σ H ws) (hR : ∀ H1, Ex H H1 → R ws H1 (k1, k2, k3))
    (q : ∀ a b c H1, H a = none → H b = none → H c = none → a ≠ b → a ≠ c → b ≠ c → Ex H H1 → H1 a = some (.dK k1) → H1 b = some (.dK k2) → H1 c = some (.dK k3) → D.nx (((σ.set i (some (.ref a))).set j (some (.ref b))).set k (some (.ref c))) H1) :
    tAsg (tCall (spT3 R) [] E t) (gTup K 3 (gCons (gName i) (gCons (gName j) (gCons (gName k) gNil)))) D σ H :=
  h H (Ex.refl H) _ fun H1 e1 => ⟨(k1, k2, k3), by rw [List.append_nil]; exact hR H1 e1, fun p a b c H2 np na nb nc n1 n2 n3 e2 hp ha hb hc =>
    ⟨p, _, rfl, st_of hp, rfl, _, _, rfl, _, _, rfl, _, _, rfl, ⟨rfl, q a b c H2 (fresh_back e1 na) (fresh_back e1 nb) (fresh_back e1 nc) n1 n2 n3 (e1.trans e2) ha hb hc⟩⟩⟩
theorem q_unpT3 {R : List V → Hp → List (Key × V) × List (Key × V) × List (Key × V) → Prop} {t : TA} {E : XK} {ws : List V} (h : EvA t σ H ws) (hR : ∀ H1, Ex H H1 → R ws H1 (k1, k2, k3))
    (q : ∀ a b c H1, H a = none → H b = none → H c = none → a ≠ b → a ≠ c → b ≠ c → Ex H H1 → H1 a = some (.dK k1) → H1 b = some (.dK k2) → H1 c = some (.dK k3) → tz D (((σ.set i (some (.ref a))).set j (some (.ref b))).set k (some (.ref c))) H1) :
    tSeq (tAsg (tCall (spT3 R) [] E t) (gTup K 3 (gCons (gName i) (gCons (gName j) (gCons (gName k) gNil))))) tz D σ H := s_unpT3 (D := { D with nx := tz D }) h hR q
theorem q_asgT2 (ha : EvK ta σ H k1) (hb : EvK tb σ H k2)
    (q : ∀ p a b H1, H p = none → H a = none → H b = none → a ≠ b → Ex H H1 → H1 p = some (.tup [.ref a, .ref b]) → H1 a = some (.dK k1) → H1 b = some (.dK k2) → tz D (σ.set i (some (.ref p))) H1) :
    tSeq (tAsg (tTup (tCons ta (tCons tb tNil))) (gName i)) tz D σ H :=
  ha H (Ex.refl H) _ fun a H1 na e1 h1 => hb H1 e1 _ fun b H2 nb e2 h2 => ⟨sz_of (by simp), fun p np =>
    q p a b _ (fresh_back (e1.trans e2) np) na (fresh_back e1 nb) (ne_of_none h1 nb) ((e1.trans e2).trans (Ex.new np)) upd_same (Ex.new np a _ (e2 a _ h1)) (Ex.new np b _ h2)⟩
theorem q_asgT3 (ha : EvK ta σ H k1) (hb : EvK tb σ H k2) (hc : EvK tc σ H k3)
    (q : ∀ p a b c H1, H p = none → H a = none → H b = none → H c = none → a ≠ b → a ≠ c → b ≠ c → Ex H H1 → H1 p = some (.tup [.ref a, .ref b, .ref c]) → H1 a = some (.dK k1) → H1 b = some (.dK k2) → H1 c = some (.dK k3) → tz D (σ.set i (some (.ref p))) H1) :
    tSeq (tAsg (tTup (tCons ta (tCons tb (tCons tc tNil)))) (gName i)) tz D σ H :=
  ha H (Ex.refl H) _ fun a H1 na e1 h1 => hb H1 e1 _ fun b H2 nb e2 h2 => hc H2 (e1.trans e2) _ fun c H3 nc e3 h3 => ⟨sz_of (by simp), fun p np =>
    q p a b c _ (fresh_back ((e1.trans e2).trans e3) np) na (fresh_back e1 nb) (fresh_back (e1.trans e2) nc) (ne_of_none h1 nb) (ne_of_none (e2 a _ h1) nc) (ne_of_none h2 nc) (((e1.trans e2).trans e3).trans (Ex.new np)) upd_same
      (Ex.new np a _ (e3 a _ (e2 a _ h1))) (Ex.new np b _ (e3 b _ h2)) (Ex.new np c _ h3)⟩
/-! == of tuples of dicts -/
theorem qv_dict {l m : List (Tx × Tx)} (h1 : H a = some (.dK (kd vs l))) (h2 : H b = some (.dK (kd vs m))) (h : dsame l m) : QV K H 2 (.ref a) (.ref b) :=
  Or.inr (Or.inr (Or.inl (Or.inr ⟨a, b, _, _, rfl, rfl, h1, h2, (dsame_kd h).1, fun q hq => ⟨q.2, ((dsame_kd h).2 q hq).1, Or.inl ⟨rfl, ((dsame_kd h).2 q hq).2⟩⟩⟩)))
theorem e_eqTs {xs ys : List V} (h : EvU ta σ H xs) (hb : Ev tb σ H (.ref p)) (hp : H p = some (.tup ys)) (hq : ∀ H1, Ex H H1 → Paired (QV K H1 2) xs ys) : Ev (tOp (rQEq K) ta tb) σ H (.bl true) := fun H1 e1 Q q =>
  h H1 e1 _ fun r H2 _ e2 hr => hb H2 (e1.trans e2) _ fun H3 e3 => ⟨2, by decide, Or.inr ⟨r, p, xs, ys, rfl, rfl, st_of (e3 r _ hr), st_of (((e1.trans e2).trans e3) p _ hp), hq H3 ((e1.trans e2).trans e3)⟩, q H3 (e2.trans e3)⟩
theorem e_neTs {xs ys : List V} (h : EvU ta σ H xs) (hb : Ev tb σ H (.ref p)) (hp : H p = some (.tup ys)) (hq : ∀ H1, Ex H H1 → Paired (QV K H1 2) xs ys) : Ev (tOp (rQNeT K) ta tb) σ H (.bl false) := fun H1 e1 Q q =>
  h H1 e1 _ fun r H2 _ e2 hr => hb H2 (e1.trans e2) _ fun H3 e3 => ⟨2, by decide, ⟨r, p, xs, ys, rfl, rfl, st_of (e3 r _ hr), st_of (((e1.trans e2).trans e3) p _ hp), hq H3 ((e1.trans e2).trans e3)⟩, q H3 (e2.trans e3)⟩
end
/-! ## a text or a dict -/
inductive Wd where
  | txt (t : Tx) : Wd
  | dct (l : List (Tx × Tx)) : Wd
deriving DecidableEq
def RetW (r : Wd) (H : Hp) (Q : VK) : Prop := match r with
  | .txt t => RetV (vs t) H Q
  | .dct l => RetK (kd vs l) H Q
def spW (R : List V → Hp → Wd → Prop) : Sp := fun ws H Q _ => ∃ r, R ws H r ∧ RetW r H Q
/-- what stands at a name that has either -/
def WAt (H : Hp) (v : V) (r : Wd) : Prop := match r with
  | .txt t => v = vs t
  | .dct l => ∃ p, v = .ref p ∧ H p = some (.dK (kd vs l))
section
variable {K : PySem.W.Frag} {σ : L2.St} {H H1 H2 : Hp} {ta tb te : TE} {i : Nat} {D : Ends} {tz : TS} {r r2 : Wd} {v : V} {Q : VK} {S : Type} {d : Addr}
theorem WAt.ex (h : WAt H v r) (e : Ex H H2) : WAt H2 v r := by
  cases r with
  | txt t => exact h
  | dct l =>
    obtain ⟨p, a, b⟩ := h
    exact ⟨p, a, e p _ b⟩
def EvW (te : TE) (σ : L2.St) (H : Hp) (r : Wd) : Prop := ∀ H1, Ex H H1 → ∀ Q : VK, (∀ v H2, Ex H1 H2 → WAt H2 v r → Q v H2) → te σ H1 Q
theorem ew_call {R : List V → Hp → Wd → Prop} {ws : List V} {E : XK} {t : TA} (h : EvA t σ H ws) (hR : ∀ H1, Ex H H1 → R ws H1 r) : EvW (tCall (spW R) [] E t) σ H r := fun H1 e Q q =>
  h H1 e _ fun H2 e2 => ⟨r, by rw [List.append_nil]; exact hR H2 (e.trans e2), by
    cases r with
    | txt t => exact fun H3 e3 => q _ H3 (e2.trans e3) rfl
    | dct l => exact fun p H3 np e3 hp => q _ H3 (e2.trans e3) ⟨p, rfl, hp⟩⟩
theorem ew_var {n : Nat} (hs : σ[n]? = some (some v)) (h : WAt H v r) : EvW (tVar n) σ H r := fun H1 e Q q => ⟨v, hs, q v H1 (Ex.refl H1) (h.ex e)⟩
theorem q_asgW (h : EvW te σ H r) (k : ∀ v H1, Ex H H1 → WAt H1 v r → tz D (σ.set i (some v)) H1) : tSeq (tAsg te (gName i)) tz D σ H := h H (Ex.refl H) _ fun v H1 e hv => k v H1 e hv
theorem retW_T {b : Bool} {x y : Wd} (k : RetW (if b = true then x else y) H Q) (hb : b = true) : RetW x H Q := by
  rw [if_pos hb] at k
  exact k
theorem retW_F {b : Bool} {x y : Wd} (k : RetW (if b = true then x else y) H Q) (hb : b = false) : RetW y H Q := by
  rw [hb, if_neg Bool.false_ne_true] at k
  exact k
theorem retW_run {o : Stp S Wd} {g : S → Wd} {r : Wd} (k : RetW (aftL o g) H Q) (h : o = .ret r) : RetW r H Q := by
  rw [h] at k
  exact k
theorem retW_go {o : Stp S Wd} {g : S → Wd} {s : S} (k : RetW (aftL o g) H Q) (h : o = .go s ∨ o = .brk s) : RetW (g s) H Q := by
  rcases h with h | h
  · rw [h] at k
    exact k
  · rw [h] at k
    exact k
/-- a rule by either of two -/
theorem op_or {X : Cx} {f : Value → Value → Sem Value} {r1 r2 : R2} (h1 : OpR X f r1) (h2 : OpR X f r2) : OpR X f (fun x y H Q => r1 x y H Q ∨ r2 x y H Q) := by
  intro pins s σ H x y v u Q I rx ry h
  rcases h with h | h
  · exact h1 pins s σ H x y v u Q I rx ry h
  · exact h2 pins s σ H x y v u Q I rx ry h
/-- two of these that are alike -/
def alikeW (r r2 : Wd) : Prop := match r, r2 with
  | .txt t, .txt u => t = u
  | .dct l, .dct m => dsame l m
  | _, _ => False
theorem e_eqWW (ha : EvW ta σ H r) (hb : EvW tb σ H r2) (h : alikeW r r2) : Ev (tOp (fun x y H Q => rEq x y H Q ∨ rEqDA x y H Q) ta tb) σ H (.bl true) := fun H1 e Q q =>
  ha H1 e _ fun v H2 e2 hv => hb H2 (e.trans e2) _ fun u H3 e3 hu => by
    have hv3 := hv.ex e3
    cases r with
    | txt t =>
      cases r2 with
      | txt t2 =>
        have hv4 : v = vs t := hv3
        have hu4 : u = vs t2 := hu
        have h4 : t = t2 := h
        subst h4
        subst hv4 hu4
        refine Or.inl ?_
        have h5 := rv_eq (x := vs t) (y := vs t) (H := H3) rfl H3 (Ex.refl H3) Q fun H4 e4 => by
          rw [decide_eq_true rfl]
          exact q H4 ((e2.trans e3).trans e4)
        exact h5
      | dct m => exact absurd h id
    | dct l =>
      cases r2 with
      | txt t2 => exact absurd h id
      | dct m =>
        obtain ⟨p, ep, hp⟩ := hv3
        obtain ⟨p2, ep2, hp2⟩ := hu
        have h4 : dsame l m := h
        exact Or.inr ⟨p, p2, _, _, ep, ep2, hp, hp2, (dsame_kd h4).1, (dsame_kd h4).2, q H3 (e2.trans e3)⟩
theorem e_neWD {l m : List (Tx × Tx)} (ha : EvW ta σ H r) (hb : Ev tb σ H (.ref d)) (hd : H d = some (.dK (kd vs m))) (hr : r = .dct l) (h : dsame l m) : Ev (tOp rNeDA ta tb) σ H (.bl false) := fun H1 e Q q =>
  ha H1 e _ fun v H2 e2 hv => hb H2 (e.trans e2) _ fun H3 e3 => by
    have hv3 := hv.ex e3
    rw [hr] at hv3
    obtain ⟨p, ep, hp⟩ := hv3
    exact ⟨p, d, _, _, ep, rfl, hp, ((e.trans e2).trans e3) d _ hd, (dsame_kd h).1, (dsame_kd h).2, q H3 (e2.trans e3)⟩
end
/-! ## arguments of which some are new -/
def EvAx (t : TA) (σ : L2.St) (H : Hp) (P : List V → Hp → Prop) : Prop := ∀ H1, Ex H H1 → ∀ Q : List V → Hp → Prop, (∀ ws H2, Ex H1 H2 → P ws H2 → Q ws H2) → t σ H1 Q
section
variable {K : PySem.W.Frag} {σ : L2.St} {H : Hp} {te : TE} {tr : TA} {P : List V → Hp → Prop}
theorem ax_nil : EvAx tNil σ H (fun ws _ => ws = []) := fun H1 _ Q q => q [] H1 (Ex.refl H1) rfl
theorem ax_v {v : V} (h : Ev te σ H v) (hr : EvAx tr σ H P) : EvAx (tCons te tr) σ H (fun ws H2 => ∃ w2, ws = v :: w2 ∧ P w2 H2) := fun H1 e Q q => h H1 e _ fun H2 e2 => hr H2 (e.trans e2) _ fun ws H3 e3 hp => q (v :: ws) H3 (e2.trans e3) ⟨ws, rfl, hp⟩
theorem ax_u2 {l : List (List V)} (h : EvU2 K te σ H l) (hr : EvAx tr σ H P) : EvAx (tCons te tr) σ H (fun ws H2 => ∃ p w2, ws = .ref p :: w2 ∧ IsLU K H2 p l ∧ P w2 H2) := fun H1 e Q q => h H1 e _ fun p H2 _ e2 h2 => hr H2 (e.trans e2) _ fun ws H3 e3 hp => q (.ref p :: ws) H3 (e2.trans e3) ⟨p, ws, rfl, h2.ex e3, hp⟩
theorem ax_k {kvs : List (Key × V)} (h : EvK te σ H kvs) (hr : EvAx tr σ H P) : EvAx (tCons te tr) σ H (fun ws H2 => ∃ p w2, ws = .ref p :: w2 ∧ H2 p = some (.dK kvs) ∧ P w2 H2) := fun H1 e Q q => h H1 e _ fun p H2 _ e2 h2 => hr H2 (e.trans e2) _ fun ws H3 e3 hp => q (.ref p :: ws) H3 (e2.trans e3) ⟨p, ws, rfl, e3 p _ h2, hp⟩
theorem x_callA {α : Type} {Cs : Nat → Addr} {Rp : α → Hp → VK → Prop} {R : List V → Hp → Res α → Prop} {E : L2.St → XK} {t : TA} {r : Res α} {Q : VK} (h : EvAx t σ H P) (hR : ∀ ws H1, Ex H H1 → P ws H1 → R ws H1 r)
    (ho : ∀ a, r = .ok a → ∀ H1, Ex H H1 → Rp a H1 Q) (hx : ∀ k, r = .exc k → ∀ H1, Ex H H1 → E σ (.ref (Cs k)) none H1) : tCallS (spX Cs Rp R) E t σ H Q :=
  h H (Ex.refl H) _ fun ws H1 e1 hp => ⟨r, hR ws H1 e1 hp, fun a e => ho a e H1 e1, fun k e H2 e2 => hx k e H2 (e1.trans e2)⟩
end
/-! ## calls that may raise -/
section
variable {α β γ : Type} {Cs : Nat → Addr} {Rp : α → Hp → VK → Prop} {H : Hp} {Q : VK} {E : XK} {K : PySem.W.Frag} {σ : L2.St} {i : Nat} {D : Ends} {tz : TS}
theorem retX_ok {r : Res β} {g : β → Res α} {x : Nat → Res α} {a : β} (k : PX Cs Rp (resM r g x) H Q E) (h : r = .ok a) : PX Cs Rp (g a) H Q E := by
  rw [h] at k
  exact k
theorem retX_exc {r : Res β} {g : β → Res α} {x : Nat → Res α} {n : Nat} (k : PX Cs Rp (resM r g x) H Q E) (h : r = .exc n) : PX Cs Rp (x n) H Q E := by
  rw [h] at k
  exact k
theorem kq_ok {r : Res β} {g : β → γ} {x : Nat → γ} {a : β} {q : γ} (kq : q = resM r g x) (h : r = .ok a) : q = g a := by
  rw [kq, h]
  rfl
theorem kq_exc {r : Res β} {g : β → γ} {x : Nat → γ} {n : Nat} {q : γ} (kq : q = resM r g x) (h : r = .exc n) : q = x n := by
  rw [kq, h]
  rfl
theorem s_asgX {R : List V → Hp → Res α → Prop} {t : TA} {F : L2.St → XK} {ws : List V} {r : Res α} (h : EvA t σ H ws) (hR : ∀ H1, Ex H H1 → R ws H1 r)
    (ho : ∀ a, r = .ok a → ∀ H1, Ex H H1 → Rp a H1 (fun v H2 => D.nx (σ.set i (some v)) H2)) (hx : ∀ k, r = .exc k → ∀ H1, Ex H H1 → F σ (.ref (Cs k)) none H1) : tAsg (tCallS (spX Cs Rp R) F t) (gName i) D σ H :=
  x_call h hR ho hx
theorem q_asgX {R : List V → Hp → Res α → Prop} {t : TA} {F : L2.St → XK} {ws : List V} {r : Res α} (h : EvA t σ H ws) (hR : ∀ H1, Ex H H1 → R ws H1 r)
    (ho : ∀ a, r = .ok a → ∀ H1, Ex H H1 → Rp a H1 (fun v H2 => tz D (σ.set i (some v)) H2)) (hx : ∀ k, r = .exc k → ∀ H1, Ex H H1 → F σ (.ref (Cs k)) none H1) : tSeq (tAsg (tCallS (spX Cs Rp R) F t) (gName i)) tz D σ H :=
  x_call h hR ho hx
theorem q_asgXA {P : List V → Hp → Prop} {R : List V → Hp → Res α → Prop} {t : TA} {F : L2.St → XK} {r : Res α} (h : EvAx t σ H P) (hR : ∀ ws H1, Ex H H1 → P ws H1 → R ws H1 r)
    (ho : ∀ a, r = .ok a → ∀ H1, Ex H H1 → Rp a H1 (fun v H2 => tz D (σ.set i (some v)) H2)) (hx : ∀ k, r = .exc k → ∀ H1, Ex H H1 → F σ (.ref (Cs k)) none H1) : tSeq (tAsg (tCallS (spX Cs Rp R) F t) (gName i)) tz D σ H :=
  x_callA h hR ho hx
end
section
variable {K : PySem.W.Frag} {σ : L2.St} {H : Hp} {ta tb te : TE} {D : Ends} {tz : TS} {p : Addr}
theorem pi_tupK (K : PySem.W.Frag) {X : Cx} {tg l : Expr} {tl' : TE} (hl : PE X l tl') (h : X.K = K := by rfl) : PI X tg l (iTup K tl') := h ▸ pi_tup hl
theorem dec_vo (x : Option Tx) (y : Tx) : decide (vo x = vs y) = decide (x = some y) := by
  cases x with
  | none => rw [decide_eq_false (fun h : (none : Option Tx) = some y => nomatch h)]; exact decide_eq_false (fun h => nomatch h)
  | some z =>
    show decide (vs z = vs y) = _
    rw [dec_vs]
    by_cases h : z = y
    · subst h
      rw [decide_eq_true rfl, decide_eq_true rfl]
    · rw [decide_eq_false h, decide_eq_false (fun e => h (Option.some.inj e))]
theorem e_neOT {x : Option Tx} {y : Tx} (ha : Ev ta σ H (vo x)) (hb : Ev tb σ H (vs y)) : Ev (tOp rNe ta tb) σ H (.bl (!decide (x = some y))) := dec_vo x y ▸ ev_op ha hb (rv_ne (by cases x <;> rfl))
/-- x.clear() -/
theorem s_clearU {l : List (List V)} (ha : Ev ta σ H (.ref p)) (h : IsLU K H p l) (q : ∀ H1, Mu H p (.lst []) H1 → D.nx σ H1) : tDrop (tBM0 K "list" rClear ta) D σ H := by
  obtain ⟨ts, h1, _⟩ := h
  exact ha H (Ex.refl H) _ fun H1 e1 => ⟨Or.inl ⟨rfl, _, sq_of (e1 p _ h1)⟩, p, _, rfl, rfl, e1 p _ h1, q _ ⟨H1, e1, rfl⟩⟩
theorem q_clearU {l : List (List V)} (ha : Ev ta σ H (.ref p)) (h : IsLU K H p l) (q : ∀ H1, Mu H p (.lst []) H1 → tz D σ H1) : tSeq (tDrop (tBM0 K "list" rClear ta)) tz D σ H := s_clearU (D := { D with nx := tz D }) ha h q

end
section
variable {K : PySem.W.Frag} {D C : Addr} {b : Bool}
theorem exm_bb (h : PySem.W.subIn K (.ref C) (.type "BaseException") = some true) (i : PySem.W.isClsIn K C = true) (t : PySem.W.typeIn K (.ref C) = some (.type "type")) (s : PySem.W.subIn K (.ref D) (.ref C) = some b) : PySem.W.exmOne K (.ref D) (.ref C) = some b := by
  unfold PySem.W.exmOne
  rw [h]
  exact kit_b i t s
/-- of a class that is raised, where several clauses wait -/
structure ErrD (K : PySem.W.Frag) (Cs : Nat → Addr) (js : List Nat) (k : Nat) : Prop where
  ec : ExcC K (Cs k)
  kit : PySem.W.kitOne K (.ref (Cs k)) (.ref (Cs 0)) = some true
  ex : ∀ j ∈ js, PySem.W.exmOne K (.ref (Cs k)) (.ref (Cs j)) = some (decide (j = k))
end
theorem map_map2 {α β γ : Type} (g : β → γ) (f : α → β) (l : List α) : l.map (fun y => g (f y)) = (l.map f).map g := by
  rw [List.map_map]
  rfl
theorem of_notF {b : Bool} (h : (!b) = false) : b = true := by
  cases b
  · cases h
  · rfl
theorem rep_one (p : Tx) : rep p (if true = true then 1 else 0) = p := by
  unfold rep
  show (List.replicate 1 p).flatten = p
  simp
end Vf


namespace K05
open PySem PySem.Spec PyProof.Rows L2 TL Evl Vf
/-! ## written texts -/
def lDot : Tx := tx "."
theorem len_lDot : lDot.length = 1 := by decide +kernel
def lDots : Tx := tx ".."
theorem len_lDots : lDots.length = 2 := by decide +kernel
def lSigns : Tx := tx "abcdefghijklmnopqrstuvwxyzABCDEFGHIJKLMNOPQRSTUVWXYZ0123456789.-_"
theorem len_lSigns : lSigns.length = 65 := by decide +kernel
def lSl : Tx := tx "/"
theorem len_lSl : lSl.length = 1 := by decide +kernel
def lCut : Tx := tx "cut"
theorem len_lCut : lCut.length = 3 := by decide +kernel
def lPut : Tx := tx "put"
theorem len_lPut : lPut.length = 3 := by decide +kernel
def lNil : Tx := tx ""
theorem len_lNil : lNil.length = 0 := by decide +kernel
def l0x : Tx := tx "0x"
theorem len_l0x : l0x.length = 2 := by decide +kernel
def lAny1 : Tx := tx " !\"#$&'()*+,-./0123456789:;<=>?@ABCDEFGHIJKLMNOPQRSTUVWXYZ[\\]^_`"
theorem len_lAny1 : lAny1.length = 64 := by decide +kernel
def lAny2 : Tx := tx "abcdefghijklmnopqrstuvwxyz{|}~\n\t"
theorem len_lAny2 : lAny2.length = 32 := by decide +kernel
def l_b2f10bc2 : Tx := tx "a/../b"
theorem len_l_b2f10bc2 : l_b2f10bc2.length = 6 := by decide +kernel
def l_7dbde935 : Tx := tx "a b"
theorem len_l_7dbde935 : l_7dbde935.length = 3 := by decide +kernel
def l_4fe0b609 : Tx := tx "NoPath"
theorem len_l_4fe0b609 : l_4fe0b609.length = 6 := by decide +kernel
def l_a1dd7037 : Tx := tx "NoFile"
theorem len_l_a1dd7037 : l_a1dd7037.length = 6 := by decide +kernel
def l_7c383fa6 : Tx := tx "InTheWay"
theorem len_l_7c383fa6 : l_7c383fa6.length = 8 := by decide +kernel
def lTops : Tx := tx "tops"
theorem len_lTops : lTops.length = 4 := by decide +kernel
def lSlx : Tx := tx "/x"
theorem len_lSlx : lSlx.length = 2 := by decide +kernel
def l_03e927a7 : Tx := tx "b/b"
theorem len_l_03e927a7 : l_03e927a7.length = 3 := by decide +kernel
def lX : Tx := tx "x"
theorem len_lX : lX.length = 1 := by decide +kernel
def l_4b1e81f8 : Tx := tx "gone/gone/gone/gone/gone/gone/gone/gone"
theorem len_l_4b1e81f8 : l_4b1e81f8.length = 39 := by decide +kernel
def l_7269bde5 : Tx := tx "/q"
theorem len_l_7269bde5 : l_7269bde5.length = 2 := by decide +kernel
def lY : Tx := tx "y"
theorem len_lY : lY.length = 1 := by decide +kernel

/-- the word of a class of errors -/
def word : Nat → Tx
  | 1 => tx "NoPath"
  | 2 => tx "NoFile"
  | 3 => tx "InTheWay"
  | 4 => tx "NoClash"
  | 5 => tx "Clashed"
  | 6 => tx "NoVersion"
  | _ => tx "SameVersion"

def toW (r : Res (List (Tx × Tx))) : Wd := match r with
  | .ok l => .dct l
  | .exc k => .txt (word k)

/-! ## mirrors -/
/-! ### is_part -/
def m_is_part (ptext : Tx) : Bool := (if (decide (ptext ∈ [lDot, lDots])) = true then false else ((decide ((1 : Int) ≤ (ptext.length : Int)) && decide ((ptext.length : Int) ≤ (12 : Int))) && ((ptext.map (fun k0 : Nat => (decide (k0 ∈ lSigns)))).all id)))
/-! ### is_path -/
def m_is_path_v1 (ptext : Tx) : List Tx := (cuts 47 ptext)
def m_is_path (ptext : Tx) : Bool := ((decide (((m_is_path_v1 ptext).length : Int) ≤ (8 : Int))) && (((m_is_path_v1 ptext).map (fun k0 : Tx => (m_is_part k0))).all id))
/-! ### above -/
def m_above_v1 (ppath : Tx) : List Tx := (cuts 47 ppath)
def m_above (ppath : Tx) : List Tx := ((List.range (((m_above_v1 ppath).length : Int) - (1 : Int)).toNat).map (fun k0 : Nat => (joinL lSl (cutG (m_above_v1 ppath) none (some ((1 : Int) + (k0 : Int)))))))
/-! ### is_beneath -/
def m_is_beneath (ppath : Tx) (pupper : Tx) : Bool := ((pupper ++ lSl).isPrefixOf ppath)
/-! ### is_blocked -/
def m_is_blocked (ptree : List (Tx × Tx)) (ppath : Tx) : Bool := (if (((m_above ppath).map (fun k0 : Tx => (dhas ptree k0))).any id) = true then true else (((dkeys ptree).map (fun k0 : Tx => (m_is_beneath k0 ppath))).any id))
/-! ### done -/
def m_done_v1 (pdeed : List Tx) : Tx := (pdeed.getD (1 : Int).toNat [])
def m_done_v2 (ptree : List (Tx × Tx)) : List (Tx × Tx) := ptree
def m_done_v3 (ptree : List (Tx × Tx)) (pdeed : List Tx) : List (Tx × Tx) := ddel (m_done_v2 ptree) (m_done_v1 pdeed)
def m_done_v4 (ptree : List (Tx × Tx)) (pdeed : List Tx) : List (Tx × Tx) := dput (m_done_v2 ptree) (m_done_v1 pdeed) (pdeed.getD (2 : Int).toNat [])
def m_done (ptree : List (Tx × Tx)) (pdeed : List Tx) : Res (List (Tx × Tx)) := (if (!(m_is_path (m_done_v1 pdeed))) = true then (.exc 1) else (if (decide ((pdeed.getD (0 : Int).toNat []) = lCut)) = true then (if (!dhas (m_done_v2 ptree) (m_done_v1 pdeed)) = true then (.exc 2) else (.ok (m_done_v3 ptree pdeed))) else (if (m_is_blocked ptree (m_done_v1 pdeed)) = true then (.exc 3) else (.ok (m_done_v4 ptree pdeed)))))
/-! ### changed -/
def m_changed_v1 (ptree : List (Tx × Tx)) : List (Tx × Tx) := ptree
def m_changed_step1  : List (Tx × Tx) → List Tx → Stp (List (Tx × Tx)) ((Res (List (Tx × Tx)))) := fun s1 y1 => (resM (m_done s1 y1) (fun lT2 => (Stp.go lT2)) (fun kT2 => (Stp.ret (.exc kT2))))
def m_changed (ptree : List (Tx × Tx)) (pdeeds : List (List Tx)) : Res (List (Tx × Tx)) := (aftL (runL m_changed_step1 pdeeds (m_changed_v1 ptree)) (fun s1 => (.ok s1)))
/-! ### between -/
def m_between_v1 (pold : List (Tx × Tx)) (pnew : List (Tx × Tx)) : List (List Tx) := (((srt (dkeys pold)).filter (fun k0 : Tx => (!dhas pnew k0))).map (fun k0 : Tx => [lCut, k0]))
def m_between_v2 (pnew : List (Tx × Tx)) (pold : List (Tx × Tx)) : List (List Tx) := (((srt (dkeys pnew)).filter (fun k0 : Tx => (!decide ((dget pold k0) = some ((dget pnew k0).getD []))))).map (fun k0 : Tx => [lPut, k0, ((dget pnew k0).getD [])]))
def m_between (pold : List (Tx × Tx)) (pnew : List (Tx × Tx)) : List (List Tx) := ((m_between_v1 pold pnew) ++ (m_between_v2 pnew pold))
/-! ### _law_cell_at -/
def m_law_cell_at (p_script : List Int) (p_k : Int) : Int := (if (decide (p_k < (p_script.length : Int))) = true then (p_script.getD p_k.toNat 0) else (0 : Int))
/-! ### _law_sign_by -/
def m_law_sign_by (p_k : Int) : Tx := [lSigns.getD (p_k % (65 : Int)).toNat 0]
/-! ### _law_name_by -/
def m_law_name_by_v1  : Int := (1 : Int)
def m_law_name_by_v2 (p_shift : Int) : Int := if (decide (((p_shift / (65 : Int)) % (3 : Int)) = (1 : Int))) = true then ((1 : Int) + ((p_shift / (195 : Int)) % (12 : Int))) else m_law_name_by_v1
def m_law_name_by_v3 (p_shift : Int) : Int := ((p_shift / (5 : Int)) % (4 : Int))
def m_law_name_by_v4 (p_shift : Int) (p_k : Int) : List Tx := ((List.range (12 : Int).toNat).map (fun k0 : Nat => (m_law_sign_by (((p_shift / (195 : Int)) + ((7 : Int) * (k0 : Int))) + (p_k * (if (decide ((m_law_name_by_v3 p_shift) = (0 : Int))) = true then (1 : Int) else 0))))))
def m_law_name_by_v5 (p_shift : Int) : Int := (((p_shift / (20 : Int)) % (m_law_name_by_v2 p_shift)) * (if (decide ((m_law_name_by_v3 p_shift) = (1 : Int))) = true then (1 : Int) else 0))
def m_law_name_by_v6 (p_shift : Int) (p_k : Int) : Tx := (m_law_sign_by (p_shift + (p_k * ([(1 : Int), (26 : Int)].getD (if (decide ((m_law_name_by_v3 p_shift) = (3 : Int))) = true then (1 : Int) else 0).toNat 0))))
def m_law_name_by_v7 (p_shift : Int) (p_k : Int) : Tx := (((joinL lNil (cutG (m_law_name_by_v4 p_shift p_k) none (some (m_law_name_by_v5 p_shift)))) ++ (m_law_name_by_v6 p_shift p_k)) ++ (joinL lNil (cutG (m_law_name_by_v4 p_shift p_k) (some (m_law_name_by_v5 p_shift)) (some ((m_law_name_by_v2 p_shift) - (1 : Int))))))
def m_law_name_by_v8 (p_shift : Int) (p_k : Int) : Tx := if (decide ((m_law_name_by_v3 p_shift) = (2 : Int))) = true then (joinL lNil (cutG (m_law_name_by_v4 p_shift p_k) none (some ((1 : Int) + (((p_shift / (65 : Int)) + p_k) % (12 : Int)))))) else (m_law_name_by_v7 p_shift p_k)
def m_law_name_by (p_k : Int) (p_shift : Int) : Tx := (if ((decide ((m_law_name_by_v8 p_shift p_k) = lDot)) || (decide ((m_law_name_by_v8 p_shift p_k) = lDots))) = true then l0x else (m_law_name_by_v8 p_shift p_k))
/-! ### _law_path_by -/
def m_law_path_by_v1 (p_cell : Int) : Int := ([(1 : Int), (1 : Int), (2 : Int), (2 : Int), (3 : Int)].getD (p_cell % (5 : Int)).toNat 0)
def m_law_path_by_v2 (p_cell : Int) (p_shift : Int) : List Tx := ((List.range (m_law_path_by_v1 p_cell).toNat).map (fun k0 : Nat => (m_law_name_by (((p_cell / (5 : Int)) / ([(1 : Int), (3 : Int), (9 : Int)].getD (k0 : Int).toNat 0)) % (3 : Int)) p_shift)))
def m_law_path_by_v3 (p_shift : Int) (p_cell : Int) : List Tx := (((List.range ((1 : Int) + ((p_shift / (7 : Int)) % (4 : Int))).toNat).map (fun k0 : Nat => (m_law_name_by ((3 : Int) + (k0 : Int)) p_shift))) ++ (m_law_path_by_v2 p_cell p_shift))
def m_law_path_by (p_cell : Int) (p_shift : Int) : Tx := (if (!decide ((p_shift % (7 : Int)) = (3 : Int))) = true then (joinL lSl (m_law_path_by_v2 p_cell p_shift)) else (if (decide ((p_cell % (13 : Int)) = (6 : Int))) = true then (joinL lSl (cutG (m_law_path_by_v3 p_shift p_cell) none (some ((1 : Int) + ((p_cell / (13 : Int)) % ((m_law_path_by_v3 p_shift p_cell).length : Int)))))) else (joinL lSl (m_law_path_by_v3 p_shift p_cell))))
/-! ### _law_line_by -/
def m_law_line_by_v1  : Tx := lAny1
def m_law_line_by_v2  : Tx := (m_law_line_by_v1 ++ lAny2)
def m_law_line_by_v3 (p_shift : Int) : Int := ((3 : Int) + (p_shift % (60 : Int)))
def m_law_line_by_v4 (p_shift : Int) : Int := if (decide (((p_shift / (60 : Int)) % (4 : Int)) = (3 : Int))) = true then ((3 : Int) + ((p_shift / (240 : Int)) % (600 : Int))) else (m_law_line_by_v3 p_shift)
def m_law_line_by (p_k : Int) (p_shift : Int) : Tx := (if (decide ((p_k % (4 : Int)) < (3 : Int))) = true then (joinL lNil ((List.range (p_k % (4 : Int)).toNat).map (fun k0 : Nat => [m_law_line_by_v2.getD (((p_shift + ((5 : Int) * p_k)) + (k0 : Int)) % (96 : Int)).toNat 0]))) else (joinL lNil ((List.range (m_law_line_by_v4 p_shift).toNat).map (fun k0 : Nat => [m_law_line_by_v2.getD (((p_shift + ((5 : Int) * p_k)) + (k0 : Int)) % (96 : Int)).toNat 0]))))
/-! ### _law_is_free -/
def m_law_is_free_step1 (p_path : Tx) : Unit → Tx → Stp (Unit) ((Bool)) := fun s1 y1 => (if (((p_path ++ lSl).isPrefixOf y1) || ((y1 ++ lSl).isPrefixOf p_path)) = true then (Stp.ret false) else (Stp.go ()))
def m_law_is_free (p_tree : List (Tx × Tx)) (p_path : Tx) : Bool := (aftL (runL (m_law_is_free_step1 p_path) (dkeys p_tree) ()) (fun s1 => true))
/-! ### _law_grown -/
def m_law_grown_v1 (p_tree : List (Tx × Tx)) : List (Tx × Tx) := p_tree
def m_law_grown_v2 (p_cell : Int) (p_shift : Int) : Tx := (m_law_path_by p_cell p_shift)
def m_law_grown_v3 (p_tree : List (Tx × Tx)) (p_cell : Int) (p_shift : Int) : List (Tx × Tx) := ddel (m_law_grown_v1 p_tree) (m_law_grown_v2 p_cell p_shift)
def m_law_grown_v4 (p_tree : List (Tx × Tx)) (p_cell : Int) (p_shift : Int) : List (Tx × Tx) := dput (m_law_grown_v1 p_tree) (m_law_grown_v2 p_cell p_shift) (m_law_line_by (p_cell / (405 : Int)) p_shift)
def m_law_grown_v5 (p_tree : List (Tx × Tx)) (p_cell : Int) (p_shift : Int) : List (Tx × Tx) := if (m_law_is_free (m_law_grown_v1 p_tree) (m_law_grown_v2 p_cell p_shift)) = true then (m_law_grown_v4 p_tree p_cell p_shift) else (m_law_grown_v1 p_tree)
def m_law_grown_v6 (p_cell : Int) (p_shift : Int) (p_tree : List (Tx × Tx)) : List (Tx × Tx) := if ((dhas (m_law_grown_v1 p_tree) (m_law_grown_v2 p_cell p_shift)) && (decide (((p_cell / (135 : Int)) % (3 : Int)) = (0 : Int)))) = true then (m_law_grown_v3 p_tree p_cell p_shift) else (m_law_grown_v5 p_tree p_cell p_shift)
def m_law_grown (p_tree : List (Tx × Tx)) (p_cell : Int) (p_shift : Int) : List (Tx × Tx) := (m_law_grown_v6 p_cell p_shift p_tree)
/-! ### _law_word_of -/
def m_law_word_of_v1 (p_tree : List (Tx × Tx)) : List (Tx × Tx) := p_tree
def m_law_word_of_v2 (s1 : List (Tx × Tx)) (y1 : List Tx) : List (Tx × Tx) := ddel s1 (y1.getD (1 : Int).toNat [])
def m_law_word_of_v3 (s1 : List (Tx × Tx)) (y1 : List Tx) : List (Tx × Tx) := dput s1 (y1.getD (1 : Int).toNat []) (y1.getD (2 : Int).toNat [])
def m_law_word_of_step1  : List (Tx × Tx) → List Tx → Stp (List (Tx × Tx)) ((Wd)) := fun s1 y1 => (if (decide ((y1.getD (1 : Int).toNat []) ∈ [lNil, l_b2f10bc2, l_7dbde935])) = true then (Stp.ret (.txt l_4fe0b609)) else (if ((decide ((y1.getD (0 : Int).toNat []) = lCut)) && (!dhas s1 (y1.getD (1 : Int).toNat []))) = true then (Stp.ret (.txt l_a1dd7037)) else (if (decide ((y1.getD (0 : Int).toNat []) = lCut)) = true then (Stp.go (m_law_word_of_v2 s1 y1)) else (if (!(m_law_is_free s1 (y1.getD (1 : Int).toNat []))) = true then (Stp.ret (.txt l_7c383fa6)) else (Stp.go (m_law_word_of_v3 s1 y1))))))
def m_law_word_of (p_tree : List (Tx × Tx)) (p_deeds : List (List Tx)) : Wd := (aftL (runL m_law_word_of_step1 p_deeds (m_law_word_of_v1 p_tree)) (fun s1 => (.dct s1)))
/-! ### _law_is_deed -/
def m_law_is_deed (p_deed : List Tx) : Bool := (if ((!true) || ((decide ((p_deed.length : Int) < (2 : Int))) || (decide ((p_deed.length : Int) > (3 : Int))))) = true then false else (decide ((((p_deed.filter (fun k0 : Tx => (!true))).map (fun k0 : Tx => k0)).length : Int) = (0 : Int))))
/-! ### _law_told -/
def m_law_told (p_tree : List (Tx × Tx)) (p_deeds : List (List Tx)) : Wd := toW (m_changed p_tree p_deeds)
/-! ### _law_trees -/
def m_law_trees_v1 (p_script : List Int) : Int := (m_law_cell_at p_script (0 : Int))
def m_law_trees_v2  : List (Tx × Tx) := []
def m_law_trees_v3 (s1 : List (Tx × Tx)) (p_script : List Int) (y1 : Nat) : List (Tx × Tx) := (m_law_grown s1 (m_law_cell_at p_script ((3 : Int) + (y1 : Int))) (m_law_trees_v1 p_script))
def m_law_trees_step1 (p_script : List Int) : List (Tx × Tx) → Nat → Stp (List (Tx × Tx)) (Unit) := fun s1 y1 => (Stp.go (m_law_trees_v3 s1 p_script y1))
def m_law_trees_v4 (p_script : List Int) : List (Tx × Tx) := outL (runL (m_law_trees_step1 p_script) (List.range ((m_law_cell_at p_script (1 : Int)) % (8 : Int)).toNat) m_law_trees_v2)
def m_law_trees_v5 (s2 : List (Tx × Tx)) (y2 : Nat) (p_script : List Int) : List (Tx × Tx) := dput s2 ((lTops ++ (dec (y2 : Int))) ++ lSlx) (m_law_line_by ((y2 : Int) % (3 : Int)) (m_law_trees_v1 p_script))
def m_law_trees_v6 (y2 : Nat) (s2 : List (Tx × Tx)) (p_script : List Int) : List (Tx × Tx) := if (!dhas s2 (lTops ++ (dec (y2 : Int)))) = true then (m_law_trees_v5 s2 y2 p_script) else s2
def m_law_trees_step2 (p_script : List Int) : List (Tx × Tx) → Nat → Stp (List (Tx × Tx)) (Unit) := fun s2 y2 => (Stp.go (m_law_trees_v6 y2 s2 p_script))
def m_law_trees_v7 (p_script : List Int) : List (Tx × Tx) := outL (runL (m_law_trees_step2 p_script) (List.range ([(0 : Int), (60 : Int), (0 : Int), (0 : Int), (170 : Int), (0 : Int), (0 : Int), (0 : Int), (0 : Int), (60 : Int), (0 : Int), (0 : Int), (0 : Int), (0 : Int), (0 : Int), (0 : Int)].getD (((m_law_cell_at p_script (1 : Int)) / (8 : Int)) % (16 : Int)).toNat 0).toNat) (m_law_trees_v4 p_script))
def m_law_trees_v8 (p_script : List Int) : List (Tx × Tx) := (m_law_trees_v7 p_script)
def m_law_trees_v9  : List (Tx × Tx) := []
def m_law_trees_v10 (p_script : List Int) : List (Tx × Tx) := if (decide (((m_law_cell_at p_script (2 : Int)) % (5 : Int)) = (1 : Int))) = true then m_law_trees_v9 else (m_law_trees_v8 p_script)
def m_law_trees_v11 (s3 : List (Tx × Tx)) (p_script : List Int) (y3 : Nat) : List (Tx × Tx) := (m_law_grown s3 (m_law_cell_at p_script ((11 : Int) + (y3 : Int))) (m_law_trees_v1 p_script))
def m_law_trees_step3 (p_script : List Int) : List (Tx × Tx) → Nat → Stp (List (Tx × Tx)) (Unit) := fun s3 y3 => (Stp.go (m_law_trees_v11 s3 p_script y3))
def m_law_trees_v12 (p_script : List Int) : List (Tx × Tx) := outL (runL (m_law_trees_step3 p_script) (List.range (((m_law_cell_at p_script (2 : Int)) / (5 : Int)) % (7 : Int)).toNat) (m_law_trees_v10 p_script))
def m_law_trees (p_script : List Int) : (List (Tx × Tx)) × (List (Tx × Tx)) := ((m_law_trees_v7 p_script), (m_law_trees_v12 p_script))
/-! ### _law_odd_deed -/
def m_law_odd_deed_v1 (p_new : List (Tx × Tx)) : List Tx := ((srt (dkeys p_new)) ++ [l_03e927a7])
def m_law_odd_deed_v2 (p_new : List (Tx × Tx)) (p_cell : Int) : Tx := ((m_law_odd_deed_v1 p_new).getD ((p_cell / (6 : Int)) % ((m_law_odd_deed_v1 p_new).length : Int)).toNat [])
def m_law_odd_deed_v3  : List (List Tx) := [[lCut, l_b2f10bc2], [lPut, lNil, lX], [lCut, l_4b1e81f8], [lPut, l_7dbde935, lNil]]
def m_law_odd_deed (p_cell : Int) (p_new : List (Tx × Tx)) : List Tx := ((m_law_odd_deed_v3 ++ [[lPut, ((m_law_odd_deed_v2 p_new p_cell) ++ l_7269bde5), lX], [lPut, ((cuts 47 (m_law_odd_deed_v2 p_new p_cell)).getD (0 : Int).toNat []), lY]]).getD (p_cell % (6 : Int)).toNat [])
/-! ### law -/
def m_law_v1 (p_script : List Int) : List (Tx × Tx) := (m_law_trees p_script).1
def m_law_v2 (p_script : List Int) : List (Tx × Tx) := (m_law_trees p_script).2
def m_law_v3 (p_script : List Int) : List (Tx × Tx) := (m_law_v1 p_script)
def m_law_v4 (p_script : List Int) : List (Tx × Tx) := (m_law_v2 p_script)
def m_law_v5 (p_script : List Int) : List (List Tx) := (((srt (dkeys (m_law_v1 p_script))).filter (fun k0 : Tx => (!dhas (m_law_v2 p_script) k0))).map (fun k0 : Tx => [lCut, k0]))
def m_law_v6 (p_script : List Int) : List (List Tx) := ((m_law_v5 p_script) ++ (((srt (dkeys (m_law_v2 p_script))).filter (fun k0 : Tx => ((!dhas (m_law_v1 p_script) k0) || (!decide (((dget (m_law_v1 p_script) k0).getD []) = ((dget (m_law_v2 p_script) k0).getD [])))))).map (fun k0 : Tx => [lPut, k0, ((dget (m_law_v2 p_script) k0).getD [])])))
def m_law_v7 (p_script : List Int) : List (List Tx) := (m_between (m_law_v1 p_script) (m_law_v2 p_script))
def m_law_v8 (p_script : List Int) : List (List Tx) := (m_law_v7 p_script)
def m_law_v9 (lT10 : List (Tx × Tx)) : List (Tx × Tx) := dput lT10 lX lY
def m_law_v10 (p_script : List Int) : Int := (((m_law_cell_at p_script (18 : Int)) / (6 : Int)) % (((m_law_v6 p_script).length : Int) + (1 : Int)))
def m_law_v11 (p_script : List Int) : Int := ((m_law_v10 p_script) + (((m_law_cell_at p_script (19 : Int)) / (6 : Int)) % ((((m_law_v6 p_script).length : Int) + (1 : Int)) - (m_law_v10 p_script))))
def m_law_v12 (p_script : List Int) : List (List Tx) := (((cutG (m_law_v6 p_script) none (some (m_law_v10 p_script))) ++ [(m_law_odd_deed ((m_law_cell_at p_script (18 : Int)) + ((m_law_cell_at p_script (20 : Int)) / (6 : Int))) (m_law_v2 p_script))]) ++ (cutG (m_law_v6 p_script) (some (m_law_v10 p_script)) (some (m_law_v11 p_script))))
def m_law_v13 (p_script : List Int) : List (List Tx) := (((m_law_v12 p_script) ++ [(m_law_odd_deed ((m_law_cell_at p_script (19 : Int)) + (m_law_cell_at p_script (20 : Int))) (m_law_v2 p_script))]) ++ (cutG (m_law_v6 p_script) (some (m_law_v11 p_script)) none))
def m_law_v14 (p_script : List Int) : List (List Tx) := (m_law_v13 p_script)
def m_law_v15 (p_script : List Int) : Wd := (m_law_told (m_law_v1 p_script) (m_law_v14 p_script))
def m_law (p_script : List Int) : Bool := (if ((!true) || ((decide ((((m_law_v7 p_script).filter (fun k0 : List Tx => (!(m_law_is_deed k0)))).length : Int) > (0 : Int))) || (!decide ((m_law_v7 p_script) = (m_law_v6 p_script))))) = true then false else (resM (m_changed (m_law_v1 p_script) (m_law_v8 p_script)) (fun lT9 => (resM (m_changed (m_law_v2 p_script) []) (fun lT10 => (if ((!true) || (false || ((!true) || (false || (!decide ((m_law_v8 p_script) = (m_law_v6 p_script))))))) = true then false else (if (false || (false || (!decide ((m_between (m_law_v1 p_script) (m_law_v2 p_script)) = (m_law_v6 p_script))))) = true then false else (true && ((decide ((m_law_v14 p_script) = (m_law_v13 p_script))) && true))))) (fun kT10 => false))) (fun kT9 => false)))

theorem lNil_eq : lNil = [] := rfl
theorem lSl_eq : lSl = [47] := rfl
theorem b01 (b : Bool) : 0 ≤ (if b = true then (1 : Int) else 0) ∧ (if b = true then (1 : Int) else 0) ≤ 1 := by cases b <;> decide
theorem g26 (n : Nat) : 0 ≤ [(1 : Int), (26 : Int)].getD n 0 ∧ [(1 : Int), (26 : Int)].getD n 0 ≤ 26 := by
  match n with
  | 0 => decide
  | 1 => decide
  | n + 2 => exact ⟨by simp, by simp⟩
theorem jl_nil : ∀ l : List Tx, joinL [] l = l.flatten
  | [] => rfl
  | [p] => by simp [joinL]
  | p :: q :: r => by
    show p ++ ([] ++ joinL [] (q :: r)) = _
    rw [jl_nil (q :: r)]
    simp
theorem sumLen_flat : ∀ l : List Tx, l.flatten.length = sumLen l
  | [] => rfl
  | p :: r => by rw [List.flatten_cons, List.length_append, sumLen_flat r, sumLen_cons]
theorem jl0 (l : List Tx) : (joinL lNil l).length = sumLen l := by rw [lNil_eq, jl_nil, sumLen_flat]
theorem sum_ones {α : Type} (g : α → Tx) (hg : ∀ k, (g k).length = 1) : ∀ l : List α, sumLen (l.map g) = l.length
  | [] => rfl
  | k :: r => by
    rw [List.map_cons, sumLen_cons, hg, sum_ones g hg r, List.length_cons]
    omega
theorem sum_le {n : Nat} : ∀ {l : List Tx}, (∀ p ∈ l, p.length ≤ n) → sumLen l ≤ n * l.length
  | [], _ => by simp [sumLen_nil]
  | p :: r, h => by
    have h1 := h p List.mem_cons_self
    have h2 := sum_le (l := r) (fun q hq => h q (List.mem_cons_of_mem _ hq))
    rw [sumLen_cons, List.length_cons, Nat.mul_succ]
    omega
theorem getD_mem {l : List Nat} {i : Nat} (h : i < l.length) : l.getD i 0 ∈ l := by
  rw [List.getD_eq_getElem?_getD, List.getElem?_eq_getElem h]
  exact List.getElem_mem h
theorem mem_cut {α : Type} {l : List α} {a b : Option Int} {x : α} (h : x ∈ cutG l a b) : x ∈ l := List.mem_of_mem_drop (List.mem_of_mem_take h)

/-! names -/
/-- a part of a path, as the document has it -/
def Part (p : Tx) : Prop := (1 ≤ p.length ∧ p.length ≤ 12) ∧ (∀ c ∈ p, c ∈ lSigns) ∧ p ≠ lDot ∧ p ≠ lDots
instance (p : Tx) : Decidable (Part p) := by unfold Part; exact inferInstance
theorem signs_ne : ∀ c ∈ lSigns, c ≠ 47 ∧ c < 128 := by decide +kernel
theorem Part.no {p : Tx} (h : Part p) : 47 ∉ p := fun m => (signs_ne _ (h.2.1 _ m)).1 rfl
theorem sign_mem (k : Int) : ∀ c ∈ m_law_sign_by k, c ∈ lSigns := fun c h => by
  unfold m_law_sign_by at h
  rw [List.mem_singleton.mp h]
  exact getD_mem (by rw [len_lSigns]; omega)
theorem name_v2 (s : Int) : 1 ≤ m_law_name_by_v2 s ∧ m_law_name_by_v2 s ≤ 12 := by
  unfold m_law_name_by_v2 m_law_name_by_v1
  split <;> omega
theorem name_v4 (s k : Int) : sumLen (m_law_name_by_v4 s k) = 12 := sum_ones _ (fun _ => rfl) _
theorem name_v5 (s : Int) : 0 ≤ m_law_name_by_v5 s ∧ m_law_name_by_v5 s < m_law_name_by_v2 s := by
  have h2 := name_v2 s
  unfold m_law_name_by_v5
  have h3 := Int.emod_nonneg (s / 20) (b := m_law_name_by_v2 s) (by omega)
  have h4 := Int.emod_lt_of_pos (s / 20) (b := m_law_name_by_v2 s) (by omega)
  cases decide (m_law_name_by_v3 s = 1)
  · rw [if_neg (by decide), Int.mul_zero]
    omega
  · rw [if_pos rfl, Int.mul_one]
    omega
theorem v4_one (s k : Int) : ∀ p ∈ m_law_name_by_v4 s k, p.length = 1 ∧ ∀ c ∈ p, c ∈ lSigns := fun p h => by
  obtain ⟨j, _, rfl⟩ := List.mem_map.mp h
  exact ⟨rfl, sign_mem _⟩
theorem flat_ones : ∀ {l : List Tx}, (∀ p ∈ l, p.length = 1 ∧ ∀ c ∈ p, c ∈ lSigns) → l.flatten.length = l.length ∧ ∀ c ∈ l.flatten, c ∈ lSigns
  | [], _ => ⟨rfl, fun c h => by cases h⟩
  | p :: r, h => by
    obtain ⟨a, b⟩ := flat_ones (l := r) fun q hq => h q (List.mem_cons_of_mem _ hq)
    obtain ⟨c, d⟩ := h p List.mem_cons_self
    refine ⟨by rw [List.flatten_cons, List.length_append, a, c, List.length_cons]; omega, fun x hx => ?_⟩
    rw [List.flatten_cons] at hx
    rcases List.mem_append.mp hx with e | e
    · exact d x e
    · exact b x e
theorem cut_ones (s k : Int) (a b : Option Int) : (joinL lNil (cutG (m_law_name_by_v4 s k) a b)).length = (cutG (m_law_name_by_v4 s k) a b).length ∧ ∀ c ∈ joinL lNil (cutG (m_law_name_by_v4 s k) a b), c ∈ lSigns := by
  rw [lNil_eq, jl_nil]
  exact flat_ones fun p hp => v4_one s k p (mem_cut hp)
theorem cut_to {α : Type} (l : List α) {i : Int} (h : 0 ≤ i) : cutG l none (some i) = l.take i.toNat := by
  obtain ⟨n, rfl⟩ := Int.eq_ofNat_of_zero_le h
  exact cutG_to l n
theorem cut_mid_len {α : Type} (l : List α) {i j : Int} (h : 0 ≤ i) (hj : i ≤ j) (hl : j ≤ l.length) : ((cutG l (some i) (some j)).length : Int) = j - i := by
  obtain ⟨n, rfl⟩ := Int.eq_ofNat_of_zero_le h
  obtain ⟨m, rfl⟩ := Int.eq_ofNat_of_zero_le (Int.le_trans h hj)
  unfold cutG
  rw [HT.sIx_nat, HT.sIx_nat, List.length_take, List.length_drop]
  omega
theorem name_len (s k : Int) : (1 ≤ (m_law_name_by_v8 s k).length ∧ (m_law_name_by_v8 s k).length ≤ 12) ∧ ∀ c ∈ m_law_name_by_v8 s k, c ∈ lSigns := by
  have h2 := name_v2 s
  have h5 := name_v5 s
  have hl : (m_law_name_by_v4 s k).length = 12 := rfl
  unfold m_law_name_by_v8
  split
  · have h := cut_ones s k none (some (1 + ((s / 65 + k) % 12)))
    refine ⟨?_, h.2⟩
    rw [h.1, cut_to _ (by omega), List.length_take, hl]
    omega
  · unfold m_law_name_by_v7
    have ha := cut_ones s k none (some (m_law_name_by_v5 s))
    have hb := cut_ones s k (some (m_law_name_by_v5 s)) (some (m_law_name_by_v2 s - 1))
    have hc := cut_mid_len (m_law_name_by_v4 s k) h5.1 (show m_law_name_by_v5 s ≤ m_law_name_by_v2 s - 1 by omega) (by rw [hl]; omega)
    have h6 : (m_law_name_by_v6 s k).length = 1 := rfl
    refine ⟨?_, fun c h => ?_⟩
    · rw [List.length_append, List.length_append, ha.1, hb.1, h6, cut_to _ h5.1, List.length_take, hl]
      omega
    · rcases List.mem_append.mp h with e | e
      · rcases List.mem_append.mp e with e | e
        · exact ha.2 c e
        · exact sign_mem _ c e
      · exact hb.2 c e
theorem name_part (k s : Int) : Part (m_law_name_by k s) := by
  have h := name_len s k
  unfold m_law_name_by
  cases e : (decide (m_law_name_by_v8 s k = lDot) || decide (m_law_name_by_v8 s k = lDots)) with
  | true =>
    rw [if_pos rfl]
    exact ⟨by decide, by decide, by decide, by decide⟩
  | false =>
    rw [if_neg Bool.false_ne_true]
    have e2 := Bool.or_eq_false_iff.mp e
    exact ⟨h.1, h.2, of_decide_eq_false e2.1, of_decide_eq_false e2.2⟩

/-! paths as rows of parts -/
def Parts (l : List Tx) : Prop := (1 ≤ l.length ∧ l.length ≤ 8) ∧ ∀ p ∈ l, Part p
instance (l : List Tx) : Decidable (Parts l) := by unfold Parts; exact inferInstance
theorem Parts.sum {l : List Tx} (h : Parts l) : sumLen l ≤ 96 := by
  have h1 := sum_le (n := 12) (l := l) fun p hp => (h.2 p hp).1.2
  have h2 := h.1
  omega
theorem Parts.len {l : List Tx} (h : Parts l) : (joinL lSl l).length ≤ 104 := by
  have h1 := joinL_len lSl l
  have h2 := h.sum
  have h3 := h.1
  rw [lSl_eq] at h1 ⊢
  simp only [List.length_cons, List.length_nil] at h1
  omega
/-- the text of a path -/
def Pth (p : Tx) : Prop := ∃ l, Parts l ∧ p = joinL lSl l
theorem Pth.len {p : Tx} (h : Pth p) : p.length ≤ 104 := by
  obtain ⟨l, hl, rfl⟩ := h
  exact hl.len
theorem Parts.cuts {l : List Tx} (h : Parts l) : cuts 47 (joinL lSl l) = l := spl_join (List.length_pos_iff.mp h.1.1) fun p hp => (h.2 p hp).no
theorem cuts_two : ∀ (a r : Tx), cuts 47 (a ++ 47 :: r) = cuts 47 a ++ cuts 47 r
  | [], r => by rw [List.nil_append, cuts_hit, cuts_nil]; rfl
  | d :: a, r => by
    rw [List.cons_append]
    by_cases h : d = 47
    · subst h
      rw [cuts_hit, cuts_hit, cuts_two a r]
      rfl
    · rw [cuts_miss h, cuts_miss h, cuts_two a r]
      cases e : cuts 47 a with
      | nil => exact absurd e (cuts_ne 47 a)
      | cons p q => rfl
theorem joinL_two (c : Nat) : ∀ (P R : List Tx), P ≠ [] → R ≠ [] → joinL [c] (P ++ R) = joinL [c] P ++ c :: joinL [c] R
  | [], _, h, _ => absurd rfl h
  | [p], R, _, h => by
    cases R with
    | nil => exact absurd rfl h
    | cons q r => rfl
  | p :: q :: r, R, _, h => by
    have ih := joinL_two c (q :: r) R (by simp) h
    show p ++ ([c] ++ joinL [c] ((q :: r) ++ R)) = _
    rw [ih]
    simp [joinL]
/-- a text's parts put together again are the text -/
theorem join_cuts : ∀ p : Tx, joinL [47] (cuts 47 p) = p
  | [] => rfl
  | d :: r => by
    have ih := join_cuts r
    by_cases h : d = 47
    · subst h
      rw [cuts_hit]
      cases e : cuts 47 r with
      | nil => exact absurd e (cuts_ne 47 r)
      | cons p q =>
        rw [e] at ih
        show [] ++ ([47] ++ joinL [47] (p :: q)) = 47 :: r
        rw [ih]
        rfl
    · rw [cuts_miss h]
      cases e : cuts 47 r with
      | nil => exact absurd e (cuts_ne 47 r)
      | cons p q =>
        rw [e] at ih
        rw [← ih]
        cases q <;> rfl
instance (p : Tx) : Decidable (Pth p) := decidable_of_iff (Parts (cuts 47 p)) ⟨fun h => ⟨_, h, (join_cuts p).symm⟩, fun ⟨l, h, e⟩ => by rw [e, h.cuts]; exact h⟩
theorem pth_iff (p : Tx) : Pth p ↔ Parts (cuts 47 p) := ⟨fun ⟨l, h, e⟩ => by rw [e, h.cuts]; exact h, fun h => ⟨_, h, (join_cuts p).symm⟩⟩
/-- the one lies beneath the other -/
def Ben (p u : Tx) : Prop := (cuts 47 u).length < (cuts 47 p).length ∧ (cuts 47 p).take (cuts 47 u).length = cuts 47 u
instance (p u : Tx) : Decidable (Ben p u) := by unfold Ben; exact inferInstance
theorem prefix_ben (p u : Tx) : (u ++ lSl).isPrefixOf p = decide (Ben p u) := by
  rw [lSl_eq]
  by_cases h : Ben p u
  · rw [decide_eq_true h]
    have e : cuts 47 p = cuts 47 u ++ (cuts 47 p).drop (cuts 47 u).length := by
      conv => lhs; rw [← List.take_append_drop (cuts 47 u).length (cuts 47 p), h.2]
    have hd : (cuts 47 p).drop (cuts 47 u).length ≠ [] := fun z => by
      have := congrArg List.length z
      rw [List.length_drop, List.length_nil] at this
      have := h.1
      omega
    have e2 := congrArg (joinL [47]) e
    rw [joinL_two 47 _ _ (cuts_ne 47 u) hd, join_cuts, join_cuts] at e2
    rw [e2]
    exact List.isPrefixOf_iff_prefix.mpr ⟨joinL [47] ((cuts 47 p).drop (cuts 47 u).length), by simp⟩
  · rw [decide_eq_false h]
    cases e : (u ++ [47]).isPrefixOf p with
    | false => rfl
    | true =>
      obtain ⟨r, hr⟩ := List.isPrefixOf_iff_prefix.mp e
      have h1 := congrArg (cuts 47) hr
      rw [List.append_assoc, show [47] ++ r = 47 :: r from rfl, cuts_two] at h1
      have h2 : 0 < (cuts 47 r).length := List.length_pos_iff.mpr (cuts_ne 47 r)
      exact absurd ⟨by rw [← h1, List.length_append]; omega, by rw [← h1, List.take_left]⟩ h
theorem cuts_inj {p q : Tx} (h : cuts 47 p = cuts 47 q) : p = q := by rw [← join_cuts p, h, join_cuts]

theorem is_part_of (p : Tx) : m_is_part p = decide (Part p) := by
  unfold m_is_part
  by_cases h1 : p ∈ [lDot, lDots]
  · rw [decide_eq_true h1, if_pos rfl, decide_eq_false]
    intro h
    rcases List.mem_cons.mp h1 with e | e
    · exact h.2.2.1 e
    · exact h.2.2.2 (List.mem_singleton.mp e)
  · rw [decide_eq_false h1, if_neg Bool.false_ne_true]
    have e : (p.map (fun k0 : Nat => (decide (k0 ∈ lSigns)))).all id = p.all (fun k => decide (k ∈ lSigns)) := by rw [List.all_map]; rfl
    rw [e]
    by_cases h : Part p
    · rw [decide_eq_true h, decide_eq_true (by have := h.1; omega), decide_eq_true (by have := h.1; omega)]
      exact List.all_eq_true.mpr fun c hc => decide_eq_true (h.2.1 c hc)
    · rw [decide_eq_false h]
      by_cases h2 : 1 ≤ p.length ∧ p.length ≤ 12
      · rw [decide_eq_true (by omega), decide_eq_true (by omega)]
        show p.all _ = false
        cases h3 : p.all (fun k => decide (k ∈ lSigns)) with
        | false => rfl
        | true =>
          refine absurd ⟨h2, fun c hc => of_decide_eq_true (List.all_eq_true.mp h3 c hc), fun z => h1 ?_, fun z => h1 ?_⟩ h
          · rw [z]; exact List.mem_cons_self
          · rw [z]; exact List.mem_cons_of_mem _ List.mem_cons_self
      · by_cases h3 : (1 : Int) ≤ (p.length : Int)
        · rw [decide_eq_false (show ¬ (p.length : Int) ≤ 12 by omega), Bool.and_false]
          rfl
        · rw [decide_eq_false h3]
          rfl
theorem is_path_of (p : Tx) : m_is_path p = decide (Pth p) := by
  unfold m_is_path
  show (decide (((cuts 47 p).length : Int) ≤ 8) && ((cuts 47 p).map (fun k0 : Tx => m_is_part k0)).all id) = _
  have hn := List.length_pos_iff.mpr (cuts_ne 47 p)
  have e : ((cuts 47 p).map (fun k0 : Tx => m_is_part k0)).all id = (cuts 47 p).all (fun k => decide (Part k)) := by
    rw [List.all_map]
    congr 1
    funext k
    exact is_part_of k
  rw [e]
  by_cases h : Pth p
  · have h2 := (pth_iff p).mp h
    rw [decide_eq_true h, decide_eq_true (by have := h2.1; omega)]
    exact List.all_eq_true.mpr fun k hk => decide_eq_true (h2.2 k hk)
  · rw [decide_eq_false h]
    by_cases h3 : ((cuts 47 p).length : Int) ≤ 8
    · rw [decide_eq_true h3]
      show (cuts 47 p).all _ = false
      cases h4 : (cuts 47 p).all (fun k => decide (Part k)) with
      | false => rfl
      | true => exact absurd ((pth_iff p).mpr ⟨⟨hn, by omega⟩, fun k hk => of_decide_eq_true (List.all_eq_true.mp h4 k hk)⟩) h
    · rw [decide_eq_false h3]
      rfl

theorem above_mem {p u : Tx} : u ∈ m_above p ↔ Ben p u := by
  have e : m_above p = (List.range ((cuts 47 p).length - 1)).map fun k => joinL [47] ((cuts 47 p).take (k + 1)) := by
    unfold m_above m_above_v1
    rw [lSl_eq]
    have e3 : (((cuts 47 p).length : Nat) : Int) - 1 = (((cuts 47 p).length - 1 : Nat) : Int) := by
      have := List.length_pos_iff.mpr (cuts_ne 47 p)
      omega
    rw [e3, Int.toNat_natCast]
    apply List.map_congr_left
    intro k hk
    show joinL [47] (cutG (cuts 47 p) none (some ((1 : Int) + (k : Int)))) = _
    rw [show (1 : Int) + (k : Int) = ((k + 1 : Nat) : Int) by omega, cutG_to]
  have nost : ∀ (n : Nat), ∀ x ∈ (cuts 47 p).take n, 47 ∉ x := fun n x hx => cuts_free 47 p x (List.mem_of_mem_take hx)
  rw [e]
  constructor
  · intro hm
    obtain ⟨k, hk, rfl⟩ := List.mem_map.mp hm
    have hk2 := List.mem_range.mp hk
    have hne : (cuts 47 p).take (k + 1) ≠ [] := fun z => by
      have h5 := congrArg List.length z
      rw [List.length_take, List.length_nil] at h5
      have := List.length_pos_iff.mpr (cuts_ne 47 p)
      omega
    have ec : cuts 47 (joinL [47] ((cuts 47 p).take (k + 1))) = (cuts 47 p).take (k + 1) := spl_join hne (nost _)
    refine ⟨by rw [ec, List.length_take]; omega, ?_⟩
    rw [ec, List.length_take, Nat.min_eq_left (by omega)]
  · intro h
    have hu := List.length_pos_iff.mpr (cuts_ne 47 u)
    refine List.mem_map.mpr ⟨(cuts 47 u).length - 1, List.mem_range.mpr (by have := h.1; omega), ?_⟩
    rw [Nat.sub_add_cancel hu, h.2, join_cuts]

theorem above_cnt (p : Tx) : (m_above p).length ≤ p.length := by
  have h := cuts_len 47 p
  unfold m_above m_above_v1
  rw [List.length_map, List.length_range]
  omega

theorem path_v1 (c : Int) : 1 ≤ m_law_path_by_v1 c ∧ m_law_path_by_v1 c ≤ 3 := by
  unfold m_law_path_by_v1
  have h : ∀ n : Nat, n < 5 → 1 ≤ [(1 : Int), (1 : Int), (2 : Int), (2 : Int), (3 : Int)].getD n 0 ∧ [(1 : Int), (1 : Int), (2 : Int), (2 : Int), (3 : Int)].getD n 0 ≤ 3 := by decide
  exact h _ (by omega)
theorem g139 (n : Nat) : 0 ≤ [(1 : Int), (3 : Int), (9 : Int)].getD n 0 ∧ [(1 : Int), (3 : Int), (9 : Int)].getD n 0 ≤ 9 ∧ (n < 3 → 0 < [(1 : Int), (3 : Int), (9 : Int)].getD n 0) := by
  match n with
  | 0 => decide
  | 1 => decide
  | 2 => decide
  | n + 3 => exact ⟨by simp, by simp, fun h => by omega⟩
theorem map_parts {n : Nat} (g : Nat → Int) (s : Int) : ∀ p ∈ (List.range n).map (fun k => m_law_name_by (g k) s), Part p := fun p hp => by
  obtain ⟨k, _, rfl⟩ := List.mem_map.mp hp
  exact name_part _ _
theorem path_v2 (c s : Int) : ((m_law_path_by_v2 c s).length : Int) = m_law_path_by_v1 c ∧ ∀ p ∈ m_law_path_by_v2 c s, Part p := by
  have h := path_v1 c
  exact ⟨by unfold m_law_path_by_v2; rw [List.length_map, List.length_range]; omega, map_parts _ _⟩

/-- nothing beneath the path, nothing above it -/
def Free (ks : List Tx) (p : Tx) : Prop := ∀ k ∈ ks, ¬ Ben k p ∧ ¬ Ben p k
instance (ks : List Tx) (p : Tx) : Decidable (Free ks p) := by unfold Free; exact inferInstance
theorem free_run (p : Tx) : ∀ ks : List Tx, aftL (runL (m_law_is_free_step1 p) ks ()) (fun s1 => true) = decide (Free ks p)
  | [] => (decide_eq_true (fun k h => nomatch h)).symm
  | y :: r => by
    have ih := free_run p r
    have e : ((p ++ lSl).isPrefixOf y || (y ++ lSl).isPrefixOf p) = (decide (Ben y p) || decide (Ben p y)) := by rw [prefix_ben, prefix_ben]
    by_cases h : (decide (Ben y p) || decide (Ben p y)) = true
    · have h1 : m_law_is_free_step1 p () y = .ret false := by
        show (if _ = true then _ else _) = _
        rw [e, if_pos h]
      have hf : ¬ Free (y :: r) p := fun f => by
        have := f y List.mem_cons_self
        rw [Bool.or_eq_true, decide_eq_true_eq, decide_eq_true_eq] at h
        exact h.elim this.1 this.2
      rw [runL_ret h1, decide_eq_false hf]
      rfl
    · have h1 : m_law_is_free_step1 p () y = .go () := by
        show (if _ = true then _ else _) = _
        rw [e, if_neg h]
      rw [runL_go h1, ih]
      have hn : ¬ Ben y p ∧ ¬ Ben p y := by
        rw [Bool.or_eq_true, decide_eq_true_eq, decide_eq_true_eq, not_or] at h
        exact h
      by_cases f : Free r p
      · rw [decide_eq_true f]
        exact (decide_eq_true (p := Free (y :: r) p) fun k hk => (List.mem_cons.mp hk).elim (fun z => by rw [z]; exact hn) (f k)).symm
      · rw [decide_eq_false f]
        exact (decide_eq_false (p := Free (y :: r) p) fun g => f fun k hk => g k (List.mem_cons_of_mem _ hk)).symm
theorem free_of (l : List (Tx × Tx)) (p : Tx) : m_law_is_free l p = decide (Free (dkeys l) p) := free_run p _

/-! files -/
def okV (t : Tx) : Prop := t.length ≤ 602 ∧ ∀ c ∈ t, c < 128
structure Good (l : List (Tx × Tx)) : Prop where
  nd : (dkeys l).Nodup
  pth : ∀ k ∈ dkeys l, Pth k
  val : ∀ q ∈ l, okV q.2
theorem Good.nil : Good [] := ⟨List.nodup_nil, fun k h => (nomatch h), fun q h => (nomatch h)⟩
theorem Good.put {l : List (Tx × Tx)} {k v : Tx} (g : Good l) (hk : Pth k) (hv : okV v) : Good (dput l k v) :=
  ⟨nodup_put g.nd, fun j h => (mem_keys_put.mp h).elim (fun e => e ▸ hk) (g.pth j), fun q h => (mem_put h).elim (fun e => by rw [e]; exact hv) (g.val q)⟩
theorem Good.del {l : List (Tx × Tx)} {k : Tx} (g : Good l) : Good (ddel l k) :=
  ⟨nodup_del g.nd, fun j h => g.pth j (mem_keys_del.mp h).1, fun q h => g.val q (mem_del h)⟩
theorem Good.len {l : List (Tx × Tx)} (g : Good l) : ∀ k ∈ dkeys l, k.length ≤ 104 := fun k h => (g.pth k h).len
theorem pth_sign {p : Tx} (h : Pth p) : ∀ c ∈ p, c < 128 := by
  obtain ⟨l, hl, rfl⟩ := h
  have h2 := hl.2
  clear hl
  rw [lSl_eq]
  induction l with
  | nil => exact fun c h => nomatch h
  | cons q r ih =>
    have hq : ∀ c ∈ q, c < 128 := fun c hc => (signs_ne c ((h2 q List.mem_cons_self).2.1 c hc)).2
    cases r with
    | nil => exact hq
    | cons q2 r2 =>
      intro c hc
      have hc2 : c ∈ q ++ ([47] ++ joinL [47] (q2 :: r2)) := hc
      rcases List.mem_append.mp hc2 with e | e
      · exact hq c e
      · rcases List.mem_append.mp e with e | e
        · rw [List.mem_singleton.mp e]
          decide
        · exact ih (fun p hp => h2 p (List.mem_cons_of_mem _ hp)) c e

theorem above_sum (p : Tx) : sumLen (m_above_v1 p) ≤ p.length := cuts_sum 47 p

/-- a deed, as the law makes it -/
def okDeed (d : List Tx) : Prop := (d.length = 3 ∨ (d.length = 2 ∧ d.getD 0 [] = lCut)) ∧ ∀ t ∈ d, t.length ≤ 800
theorem deed_two {d : List Tx} (h : okDeed d) : 2 ≤ d.length := by
  rcases h.1 with e | e
  · omega
  · omega
theorem deed_path {d : List Tx} (h : okDeed d) : (m_done_v1 d).length ≤ 900 := by
  have h2 := deed_two h
  unfold m_done_v1
  rw [List.getD_eq_getElem?_getD, List.getElem?_eq_getElem (show (1 : Int).toNat < d.length by show 1 < _; omega)]
  exact Nat.le_trans (h.2 _ (List.getElem_mem _)) (by decide)
theorem deed_three {d : List Tx} (h : okDeed d) (hb : decide ((d.getD (0 : Int).toNat []) = lCut) = false) : d.length = 3 := by
  rcases h.1 with e | e
  · exact e
  · exact absurd e.2 (of_decide_eq_false hb)
theorem has_of_not {b : Bool} (h : (!b) = false) : b = true := by
  cases b
  · cases h
  · rfl
/-- what is due of a deed -/
def Due (t : List (Tx × Tx)) (c : Bool) (p line : Tx) : Res (List (Tx × Tx)) :=
  if Pth p then (if c = true then (if p ∈ dkeys t then .ok (ddel t p) else .exc 2) else (if Free (dkeys t) p then .ok (dput t p line) else .exc 3)) else .exc 1
theorem Good.le9 {l : List (Tx × Tx)} (g : Good l) : ∀ k ∈ dkeys l, k.length ≤ 900 := fun k h => Nat.le_trans (g.len k h) (by decide)

theorem blocked_of (l : List (Tx × Tx)) (p : Tx) : m_is_blocked l p = !decide (Free (dkeys l) p) := by
  have e1 : ((m_above p).map (fun k0 : Tx => dhas l k0)).any id = (m_above p).any fun u => dhas l u := by rw [List.any_map]; rfl
  have e2 : ((dkeys l).map (fun k0 : Tx => m_is_beneath k0 p)).any id = (dkeys l).any fun k => decide (Ben k p) := by
    rw [List.any_map]
    apply congrArg (fun f => (dkeys l).any f)
    funext k
    exact prefix_ben k p
  unfold m_is_blocked
  rw [e1, e2]
  by_cases f : Free (dkeys l) p
  · rw [decide_eq_true f]
    have h1 : ((m_above p).any fun u => dhas l u) = false := by
      rw [List.any_eq_false]
      intro u hu z
      exact (f u ((has_iff _ _).mp z)).2 (above_mem.mp hu)
    have h2 : ((dkeys l).any fun k => decide (Ben k p)) = false := by
      rw [List.any_eq_false]
      intro k hk z
      exact (f k hk).1 (of_decide_eq_true z)
    rw [h1, if_neg Bool.false_ne_true, h2]
    rfl
  · rw [decide_eq_false f]
    cases h1 : ((m_above p).any fun u => dhas l u) with
    | true =>
      rw [if_pos rfl]
      rfl
    | false =>
      rw [if_neg Bool.false_ne_true]
      cases h2 : ((dkeys l).any fun k => decide (Ben k p)) with
      | true => rfl
      | false =>
        refine absurd (fun k hk => ⟨fun z => ?_, fun z => ?_⟩) f
        · rw [List.any_eq_false] at h2
          exact h2 k hk (decide_eq_true z)
        · rw [List.any_eq_false] at h1
          exact h1 k (above_mem.mpr z) ((has_iff _ _).mpr hk)

theorem done_is (t : List (Tx × Tx)) (d : List Tx) (g : Good t) : m_done t d = Due t (decide (d.getD 0 [] = lCut)) (d.getD 1 []) (d.getD 2 []) := by
  have e1 : m_done_v1 d = d.getD 1 [] := rfl
  have e2 : m_done_v2 t = t := rfl
  unfold m_done Due
  rw [is_path_of, e1, e2]
  by_cases h1 : Pth (d.getD 1 [])
  · rw [decide_eq_true h1, if_neg (by decide), if_pos h1]
    by_cases h2 : d.getD 0 [] = lCut
    · have h3 : decide (d.getD (0 : Int).toNat [] = lCut) = true := decide_eq_true h2
      rw [h3, if_pos rfl, decide_eq_true h2, if_pos rfl]
      rw [has_dec]
      by_cases h4 : d.getD 1 [] ∈ dkeys t
      · rw [decide_eq_true h4, if_pos h4, if_neg (by decide)]
        rfl
      · rw [decide_eq_false h4, if_neg h4, if_pos (by decide)]
    · have h3 : decide (d.getD (0 : Int).toNat [] = lCut) = false := decide_eq_false h2
      rw [h3, if_neg Bool.false_ne_true, decide_eq_false h2, if_neg Bool.false_ne_true]
      rw [blocked_of]
      by_cases h4 : Free (dkeys t) (d.getD 1 [])
      · rw [decide_eq_true h4, if_pos h4, if_neg (by decide)]
        rfl
      · rw [decide_eq_false h4, if_neg h4, if_pos (by decide)]
  · rw [decide_eq_false h1, if_pos (by decide), if_neg h1]

/-! names that are no tops -/
def sg (n : Int) : Nat := lSigns.getD (n % 65).toNat 0
theorem sg_mod (n : Int) : sg n = sg ((n % 65).toNat : Int) := by
  unfold sg
  congr 1
  omega
theorem sg_add (n : Int) : sg (n + 7) = sg (((n % 65).toNat : Int) + 7) := by
  unfold sg
  congr 1
  omega
theorem sg_no : ∀ m < 65, ¬ (sg ((m : Nat) : Int) = 116 ∧ sg ((m : Int) + 7) = 111) ∧ ¬ (sg (m : Int) = 111 ∧ sg ((m : Int) + 7) = 112) ∧ ¬ (sg (m : Int) = 112 ∧ sg ((m : Int) + 7) = 115) := by decide +kernel
theorem sg_gap (n : Int) : ¬ (sg n = 116 ∧ sg (n + 7) = 111) ∧ ¬ (sg n = 111 ∧ sg (n + 7) = 112) ∧ ¬ (sg n = 112 ∧ sg (n + 7) = 115) := by
  rw [sg_mod n, sg_add n]
  exact sg_no _ (by omega)
def rest (s k : Int) : Tx := (List.range 12).map fun j : Nat => sg (((s / 195) + 7 * (j : Int)) + (k * (if (decide (m_law_name_by_v3 s = 0)) = true then 1 else 0)))
theorem flat_map1 {α : Type} (g : α → Nat) : ∀ l : List α, (l.map fun x => [g x]).flatten = l.map g
  | [] => rfl
  | x :: r => by rw [List.map_cons, List.flatten_cons, flat_map1 g r]; rfl
theorem rest_cut (s k : Int) (lo hi : Option Int) : joinL lNil (cutG (m_law_name_by_v4 s k) lo hi) = cutG (rest s k) lo hi := by
  have e : m_law_name_by_v4 s k = (List.range 12).map fun j : Nat => [sg (((s / 195) + 7 * (j : Int)) + (k * (if (decide (m_law_name_by_v3 s = 0)) = true then 1 else 0)))] := rfl
  rw [lNil_eq, jl_nil, e, cutG_map, flat_map1]
  unfold rest
  rw [cutG_map]
theorem rest_is (s k : Int) : ∃ a : Int, rest s k = [sg a, sg (a + 7), sg (a + 7 + 7)] ++ (rest s k).drop 3 := by
  refine ⟨(s / 195) + (k * (if (decide (m_law_name_by_v3 s = 0)) = true then 1 else 0)), ?_⟩
  show rest s k = _
  conv => lhs; rw [← List.take_append_drop 3 (rest s k)]
  congr 1
  generalize hB : (k * (if (decide (m_law_name_by_v3 s = 0)) = true then 1 else 0)) = B
  have e : (rest s k).take 3 = [sg (s / 195 + 7 * (0 : Int) + B), sg (s / 195 + 7 * (1 : Int) + B), sg (s / 195 + 7 * (2 : Int) + B)] := by
    rw [← hB]
    rfl
  rw [e, show s / 195 + 7 * (0 : Int) + B = s / 195 + B by omega, show s / 195 + 7 * (1 : Int) + B = s / 195 + B + 7 by omega, show s / 195 + 7 * (2 : Int) + B = s / 195 + B + 7 + 7 by omega]
theorem rest_len (s k : Int) : (rest s k).length = 12 := by
  unfold rest
  rw [List.length_map, List.length_range]
theorem no_tops_text {a : Int} {r : Tx} {t : Nat} {n : Nat} {d : Tx} (i : Nat) (hn : i ≤ n) : ([sg a, sg (a + 7), sg (a + 7 + 7)] ++ r).take i ++ ([t] ++ (([sg a, sg (a + 7), sg (a + 7 + 7)] ++ r).drop i).take (n - i)) ≠ [116, 111, 112, 115] ++ d := by
  have g1 := sg_gap a
  have g2 := sg_gap (a + 7)
  intro h
  match i with
  | 0 =>
    rw [List.take_zero, List.drop_zero, List.nil_append] at h
    match n with
    | 0 => simp at h
    | 1 => simp at h
    | n + 2 =>
      simp at h
      exact g1.2.1 ⟨h.2.1, h.2.2.1⟩
  | 1 =>
    match n, hn with
    | 1, _ => simp at h
    | 2, _ => simp at h
    | n + 3, _ =>
      simp at h
      exact g2.2.2 ⟨h.2.2.1, h.2.2.2.1⟩
  | i + 2 =>
    simp at h
    exact g1.1 ⟨h.1, h.2.1⟩
theorem name_no_tops (s k : Int) (d : Tx) : m_law_name_by k s ≠ [116, 111, 112, 115] ++ d := by
  have h2 := name_v2 s
  have h5 := name_v5 s
  obtain ⟨a, ha⟩ := rest_is s k
  unfold m_law_name_by
  split
  · intro h
    have : l0x = [48, 120] := rfl
    rw [this] at h
    simp at h
  · unfold m_law_name_by_v8
    split
    · rw [rest_cut, cut_to _ (by omega), ha]
      intro h
      generalize hm : (1 + ((s / 65 + k) % 12)).toNat = m at h
      match m with
      | 0 => simp at h
      | 1 => simp at h
      | m + 2 =>
        simp at h
        exact (sg_gap a).1 ⟨h.1, h.2.1⟩
    · unfold m_law_name_by_v7
      have e6 : m_law_name_by_v6 s k = [sg (s + (k * ([(1 : Int), (26 : Int)].getD (if (decide ((m_law_name_by_v3 s) = (3 : Int))) = true then (1 : Int) else 0).toNat 0)))] := rfl
      rw [rest_cut, rest_cut, e6, cut_to _ h5.1]
      have e7 : cutG (rest s k) (some (m_law_name_by_v5 s)) (some (m_law_name_by_v2 s - 1)) = ((rest s k).drop (m_law_name_by_v5 s).toNat).take ((m_law_name_by_v2 s - 1).toNat - (m_law_name_by_v5 s).toNat) := by
        obtain ⟨x, hx⟩ := Int.eq_ofNat_of_zero_le h5.1
        obtain ⟨y, hy⟩ := Int.eq_ofNat_of_zero_le (show 0 ≤ m_law_name_by_v2 s - 1 by omega)
        rw [hx, hy]
        unfold cutG
        rw [HT.sIx_nat, HT.sIx_nat, rest_len]
        have h12 : y ≤ 12 := by omega
        have h13 : x ≤ 12 := by omega
        rw [Nat.min_eq_left h12, Nat.min_eq_left h13]
        rfl
      rw [e7, ha, List.append_assoc]
      exact no_tops_text _ (by omega)

/-! paths -/
theorem path_two (c s : Int) : Parts (m_law_path_by_v2 c s) := by
  have h := path_v1 c
  have h2 := path_v2 c s
  exact ⟨by omega, h2.2⟩
theorem path_v3 (s c : Int) : Parts (m_law_path_by_v3 s c) ∧ (m_law_path_by_v3 s c).length ≤ 7 := by
  have h := path_v1 c
  have h2 := path_v2 c s
  have hl : (m_law_path_by_v3 s c).length ≤ 7 ∧ 1 ≤ (m_law_path_by_v3 s c).length := by
    unfold m_law_path_by_v3
    rw [List.length_append, List.length_map, List.length_range]
    omega
  refine ⟨⟨⟨hl.2, by omega⟩, fun p hp => ?_⟩, hl.1⟩
  unfold m_law_path_by_v3 at hp
  rcases List.mem_append.mp hp with e | e
  · exact map_parts _ _ p e
  · exact h2.2 p e
theorem path_ix (s c : Int) : 0 ≤ (c / 13) % ((m_law_path_by_v3 s c).length : Int) ∧ (c / 13) % ((m_law_path_by_v3 s c).length : Int) < ((m_law_path_by_v3 s c).length : Int) := by
  have h := (path_v3 s c).1.1
  exact ⟨Int.emod_nonneg _ (by omega), Int.emod_lt_of_pos _ (by omega)⟩
theorem path_cut3 (s c : Int) : sumLen (cutG (m_law_path_by_v3 s c) none (some (1 + ((c / 13) % ((m_law_path_by_v3 s c).length : Int))))) ≤ 96 ∧ (cutG (m_law_path_by_v3 s c) none (some (1 + ((c / 13) % ((m_law_path_by_v3 s c).length : Int))))).length ≤ 8 :=
  ⟨Nat.le_trans (cut_sum _ _ _) (path_v3 s c).1.sum, Nat.le_trans (cut_len _ _ _) (path_v3 s c).1.1.2⟩
/-- the parts of a path that the law makes -/
theorem path_shape (c s : Int) : ∃ l, Parts l ∧ l.length ≤ 7 ∧ m_law_path_by c s = joinL lSl l ∧ ∃ k r, l = m_law_name_by k s :: r := by
  have h1 := path_v1 c
  have h3 := path_v3 s c
  have first : ∀ {n : Nat} (g : Nat → Int), 1 ≤ n → ∃ k r, (List.range n).map (fun j => m_law_name_by (g j) s) = m_law_name_by k s :: r := fun {n} g hn => by
    obtain ⟨m, rfl⟩ := Nat.exists_eq_add_of_le' hn
    rw [List.range_succ_eq_map, List.map_cons]
    exact ⟨_, _, rfl⟩
  have first3 : ∃ k r, m_law_path_by_v3 s c = m_law_name_by k s :: r := by
    obtain ⟨k, r, e⟩ := first (n := ((1 : Int) + ((s / (7 : Int)) % (4 : Int))).toNat) (fun j => (3 : Int) + (j : Int)) (by omega)
    refine ⟨k, r ++ m_law_path_by_v2 c s, ?_⟩
    unfold m_law_path_by_v3
    rw [e]
    rfl
  unfold m_law_path_by
  split
  · have h2 := path_two c s
    refine ⟨_, h2, ?_, rfl, ?_⟩
    · have := (path_v2 c s).1
      omega
    · exact first (n := (m_law_path_by_v1 c).toNat) _ (by omega)
  · split
    · have hx := path_ix s c
      refine ⟨_, ⟨?_, fun p hp => h3.1.2 p (mem_cut hp)⟩, ?_, rfl, ?_⟩
      · rw [cut_to _ (by omega), List.length_take]
        have := h3.1.1
        omega
      · exact Nat.le_trans (cut_len _ _ _) h3.2
      · obtain ⟨k, r, e⟩ := first3
        rw [cut_to _ (by omega), e]
        obtain ⟨m, hm⟩ := Nat.exists_eq_add_of_le' (show 1 ≤ (1 + ((c / 13) % (((m_law_name_by k s :: r).length : Nat) : Int))).toNat by
          have := Int.emod_nonneg (c / 13) (b := (((m_law_name_by k s :: r).length : Nat) : Int)) (by simp; omega)
          omega)
        rw [hm]
        exact ⟨k, r.take m, rfl⟩
    · exact ⟨_, h3.1, h3.2, rfl, first3⟩
theorem path_ok (c s : Int) : Pth (m_law_path_by c s) := by
  obtain ⟨l, hl, _, e, _⟩ := path_shape c s
  exact ⟨l, hl, e⟩
theorem path_cuts (c s : Int) : (cuts 47 (m_law_path_by c s)).length ≤ 7 ∧ ∃ k r, cuts 47 (m_law_path_by c s) = m_law_name_by k s :: r := by
  obtain ⟨l, hl, h7, e, f⟩ := path_shape c s
  rw [e, hl.cuts]
  exact ⟨h7, f⟩
/-! texts -/
theorem anys : ∀ c ∈ m_law_line_by_v2, c < 128 := by decide +kernel
theorem line_v4 (s : Int) : 3 ≤ m_law_line_by_v4 s ∧ m_law_line_by_v4 s ≤ 602 := by
  unfold m_law_line_by_v4 m_law_line_by_v3
  split <;> omega
theorem line_sumk (k s n : Int) : sumLen ((List.range n.toNat).map (fun k0 : Nat => [m_law_line_by_v2.getD (((s + ((5 : Int) * k)) + (k0 : Int)) % (96 : Int)).toNat 0])) = n.toNat := by
  rw [sum_ones _ (fun _ => rfl), List.length_range]
theorem line_chars (k s : Int) (n : Nat) : ∀ c ∈ joinL lNil ((List.range n).map (fun k0 : Nat => [m_law_line_by_v2.getD (((s + ((5 : Int) * k)) + (k0 : Int)) % (96 : Int)).toNat 0])), c < 128 := fun c hc => by
  rw [lNil_eq, jl_nil] at hc
  obtain ⟨p, hp, hcp⟩ := List.mem_flatten.mp hc
  obtain ⟨j, _, rfl⟩ := List.mem_map.mp hp
  rw [List.mem_singleton.mp hcp]
  exact anys _ (getD_mem (by rw [show List.length m_law_line_by_v2 = 96 by decide +kernel]; omega))
theorem line_ok (k s : Int) : (m_law_line_by k s).length ≤ 602 ∧ ∀ c ∈ m_law_line_by k s, c < 128 := by
  have h4 := line_v4 s
  unfold m_law_line_by
  split
  · refine ⟨?_, line_chars k s _⟩
    rw [jl0, line_sumk]
    omega
  · refine ⟨?_, line_chars k s _⟩
    rw [jl0, line_sumk]
    omega
/-! trees -/
def tops (j : Nat) : Tx := lTops ++ dec (j : Int)
structure G7 (l : List (Tx × Tx)) : Prop where
  g : Good l
  tree : ∀ a ∈ dkeys l, ∀ b ∈ dkeys l, ¬ Ben b a
  p7 : ∀ k ∈ dkeys l, (cuts 47 k).length ≤ 7
theorem G7.nil : G7 [] := ⟨Good.nil, fun a h => (nomatch h), fun a h => (nomatch h)⟩
theorem ben_irr (p : Tx) : ¬ Ben p p := fun h => Nat.lt_irrefl _ h.1
theorem G7.put {l : List (Tx × Tx)} {k v : Tx} (h : G7 l) (hk : Pth k) (h7 : (cuts 47 k).length ≤ 7) (hv : okV v) (f : Free (dkeys l) k) : G7 (dput l k v) := by
  refine ⟨h.g.put hk hv, fun a ha b hb => ?_, fun q hq => ?_⟩
  · rcases mem_keys_put.mp ha with e | e
    · rcases mem_keys_put.mp hb with e2 | e2
      · rw [e, e2]
        exact ben_irr k
      · rw [e]
        exact (f b e2).1
    · rcases mem_keys_put.mp hb with e2 | e2
      · rw [e2]
        exact (f a e).2
      · exact h.tree a e b e2
  · rcases mem_keys_put.mp hq with e | e
    · rw [e]
      exact h7
    · exact h.p7 q e
theorem G7.del {l : List (Tx × Tx)} {k : Tx} (h : G7 l) : G7 (ddel l k) :=
  ⟨h.g.del, fun a ha b hb => h.tree a (mem_keys_del.mp ha).1 b (mem_keys_del.mp hb).1, fun q hq => h.p7 q (mem_keys_del.mp hq).1⟩
theorem grown_v2 (c s : Int) : (m_law_grown_v2 c s).length ≤ 900 := Nat.le_trans (path_ok c s).len (by decide)
theorem grown_keys (t : List (Tx × Tx)) (c s : Int) : ∀ k ∈ dkeys (m_law_grown t c s), k ∈ dkeys t ∨ k = m_law_path_by c s := fun k hk => by
  unfold m_law_grown m_law_grown_v6 at hk
  split at hk
  · exact Or.inl (mem_keys_del.mp hk).1
  · unfold m_law_grown_v5 at hk
    split at hk
    · exact (mem_keys_put.mp hk).elim Or.inr Or.inl
    · exact Or.inl hk
theorem grown_ok (t : List (Tx × Tx)) (c s : Int) (n : Nat) (h : t.length ≤ n ∧ G7 t) : (m_law_grown t c s).length ≤ n + 1 ∧ G7 (m_law_grown t c s) := by
  unfold m_law_grown m_law_grown_v6
  split
  · exact ⟨Nat.le_trans (del_len _ _) (Nat.le_succ_of_le h.1), h.2.del⟩
  · unfold m_law_grown_v5
    split
    · rename_i hf
      rw [free_of] at hf
      exact ⟨Nat.le_trans (put_len _ _ _) (Nat.succ_le_succ h.1), h.2.put (path_ok c s) (path_cuts c s).1 (line_ok _ _) (of_decide_eq_true hf)⟩
    · exact ⟨Nat.le_succ_of_le h.1, h.2⟩
theorem trees1 (sc : List Int) {i y : Nat} {s : List (Tx × Tx)} (h : runL (m_law_trees_step1 sc) ((List.range ((m_law_cell_at sc (1 : Int)) % (8 : Int)).toNat).take i) m_law_trees_v2 = .go s) (hy : (List.range ((m_law_cell_at sc (1 : Int)) % (8 : Int)).toNat)[i]? = some y) : Good s ∧ s.length ≤ 1000 := by
  have hi := (List.getElem?_eq_some_iff.mp hy).1
  have := run_cnt (g := fun s y => m_law_trees_v3 s sc y) (fun _ _ => rfl) (I := fun n s => s.length ≤ n ∧ G7 s) h (Nat.le_of_lt hi) ⟨Nat.le_refl _, G7.nil⟩ fun n s y _ h => grown_ok _ _ _ n h
  rw [List.length_range] at hi
  exact ⟨this.2.g, by have := this.1; omega⟩
/-- what old is ahead of the tops -/
def Nm (sh : Int) (l : List (Tx × Tx)) : Prop := ∀ k ∈ dkeys l, (∃ j r, cuts 47 k = m_law_name_by j sh :: r) ∨ (cuts 47 k).length ≤ 2
theorem v4_all (sc : List Int) : ((m_law_trees_v4 sc).length ≤ 7 ∧ G7 (m_law_trees_v4 sc)) ∧ Nm (m_law_trees_v1 sc) (m_law_trees_v4 sc) := by
  have := out_cnt (step := m_law_trees_step1 sc) (g := fun s y => m_law_trees_v3 s sc y) (fun _ _ => rfl) (I := fun n s => (s.length ≤ n ∧ G7 s) ∧ Nm (m_law_trees_v1 sc) s) (l := List.range ((m_law_cell_at sc (1 : Int)) % (8 : Int)).toNat) (s0 := m_law_trees_v2) ⟨⟨Nat.le_refl _, G7.nil⟩, fun k h => (nomatch h)⟩ fun n s y _ h =>
    ⟨grown_ok _ _ _ n h.1, fun k hk => (grown_keys _ _ _ k hk).elim (h.2 k) fun e => Or.inl (by rw [e]; exact (path_cuts _ _).2)⟩
  rw [List.length_range] at this
  exact ⟨⟨Nat.le_trans this.1.1 (by omega), this.1.2⟩, this.2⟩
theorem dec_all : ∀ y < 170, (dec ((y : Nat) : Int)).length ≤ 3 ∧ Part (lTops ++ dec (y : Int)) := by decide +kernel
theorem dec_len (y : Nat) (h : y < 170) : (dec (y : Int)).length ≤ 3 := (dec_all y h).1
theorem small_log (y : Nat) (h : y < 170) : (y : Int).natAbs.log2 < 1920 := by
  have h2 : (y : Int).natAbs < 170 := by omega
  have h3 : ∀ n < 170, n.log2 < 1920 := by decide +kernel
  exact h3 _ h2
theorem tops_parts (y : Nat) (h : y < 170) : Parts [tops y, tx "x"] := ⟨⟨(by simp), (by simp)⟩, fun p hp => by
  rcases List.mem_cons.mp hp with e | e
  · rw [e]
    exact (dec_all y h).2
  · rw [List.mem_singleton.mp e]
    decide⟩
theorem tops_pth (y : Nat) (h : y < 170) : Pth ((lTops ++ (dec (y : Int))) ++ lSlx) := ⟨[tops y, tx "x"], tops_parts y h, rfl⟩
theorem tops_cuts (y : Nat) (h : y < 170) : cuts 47 ((lTops ++ (dec (y : Int))) ++ lSlx) = [tops y, tx "x"] := (tops_parts y h).cuts
theorem tops_one (y : Nat) (h : y < 170) : cuts 47 (tops y) = [tops y] := (show Parts [tops y] from ⟨⟨(by simp), (by simp)⟩, fun p hp => by rw [List.mem_singleton.mp hp]; exact (dec_all y h).2⟩).cuts
theorem tops_free {sh : Int} {l : List (Tx × Tx)} (y : Nat) (h : y < 170) (hN : Nm sh l) (hn : tops y ∉ dkeys l) : Free (dkeys l) ((lTops ++ (dec (y : Int))) ++ lSlx) := fun k hk => by
  refine ⟨fun b => ?_, fun b => ?_⟩
  · have b1 := b.1
    have b2 := b.2
    rw [tops_cuts y h] at b1 b2
    rcases hN k hk with ⟨j, r, e⟩ | e
    · rw [e] at b2
      have b3 : m_law_name_by j sh = tops y := by
        have := congrArg (fun z => z.getD 0 []) b2
        exact this
      exact name_no_tops sh j (dec (y : Int)) b3
    · have b4 : [tops y, tx "x"].length = 2 := rfl
      omega
  · have b1 := b.1
    have b2 := b.2
    rw [tops_cuts y h] at b1 b2
    have hp := List.length_pos_iff.mpr (cuts_ne 47 k)
    have b4 : [tops y, tx "x"].length = 2 := rfl
    have h1 : (cuts 47 k).length = 1 := by omega
    rw [h1] at b2
    have e : cuts 47 k = cuts 47 (tops y) := by
      rw [tops_one y h, ← b2]
      rfl
    exact hn ((cuts_inj e) ▸ hk)
theorem tops_range (n : Nat) : 0 ≤ [(0 : Int), (60 : Int), (0 : Int), (0 : Int), (170 : Int), (0 : Int), (0 : Int), (0 : Int), (0 : Int), (60 : Int), (0 : Int), (0 : Int), (0 : Int), (0 : Int), (0 : Int), (0 : Int)].getD n 0 ∧ [(0 : Int), (60 : Int), (0 : Int), (0 : Int), (170 : Int), (0 : Int), (0 : Int), (0 : Int), (0 : Int), (60 : Int), (0 : Int), (0 : Int), (0 : Int), (0 : Int), (0 : Int), (0 : Int)].getD n 0 ≤ 170 := by
  rcases Nat.lt_or_ge n 16 with h | h
  · revert n
    decide
  · rw [List.getD_eq_getElem?_getD, List.getElem?_eq_none (by simpa using h)]
    exact ⟨by decide, by decide⟩
def mny (sc : List Int) : Nat := ([(0 : Int), (60 : Int), (0 : Int), (0 : Int), (170 : Int), (0 : Int), (0 : Int), (0 : Int), (0 : Int), (60 : Int), (0 : Int), (0 : Int), (0 : Int), (0 : Int), (0 : Int), (0 : Int)].getD (((m_law_cell_at sc (1 : Int)) / (8 : Int)) % (16 : Int)).toNat 0).toNat
theorem mny_le (sc : List Int) : mny sc ≤ 170 := by
  have := tops_range (((m_law_cell_at sc (1 : Int)) / (8 : Int)) % (16 : Int)).toNat
  unfold mny
  omega
theorem step2_ok (sc : List Int) (m n : Nat) (s : List (Tx × Tx)) (y : Nat) (hy : y < 170) (h : (s.length ≤ m + n ∧ G7 s) ∧ Nm (m_law_trees_v1 sc) s) : ((m_law_trees_v6 y s sc).length ≤ m + (n + 1) ∧ G7 (m_law_trees_v6 y s sc)) ∧ Nm (m_law_trees_v1 sc) (m_law_trees_v6 y s sc) := by
  unfold m_law_trees_v6
  split
  · rename_i hb
    have hn : tops y ∉ dkeys s := fun z => by
      rw [has_dec, decide_eq_true (show lTops ++ dec (y : Int) ∈ dkeys s from z)] at hb
      cases hb
    refine ⟨⟨Nat.le_trans (put_len _ _ _) (Nat.succ_le_succ h.1.1), h.1.2.put (tops_pth y hy) ?_ (line_ok _ _) (tops_free y hy h.2 hn)⟩, fun k hk => ?_⟩
    · rw [tops_cuts y hy]
      show 2 ≤ 7
      decide
    · rcases mem_keys_put.mp hk with e | e
      · rw [e, tops_cuts y hy]
        exact Or.inr (Nat.le_refl _)
      · exact h.2 k e
  · exact ⟨⟨Nat.le_succ_of_le h.1.1, h.1.2⟩, h.2⟩
theorem tops_y {sc : List Int} {n y : Nat} (hy : (List.range (mny sc))[n]? = some y) : y < 170 := Nat.lt_of_lt_of_le (List.mem_range.mp (List.mem_of_getElem? hy)) (mny_le sc)
theorem trees2 (sc : List Int) {i y : Nat} {s : List (Tx × Tx)} (h : runL (m_law_trees_step2 sc) ((List.range (mny sc)).take i) (m_law_trees_v4 sc) = .go s) (hy : (List.range (mny sc))[i]? = some y) : s.length ≤ 177 ∧ y < 170 := by
  have hi := (List.getElem?_eq_some_iff.mp hy).1
  have := run_cnt (g := fun s y => m_law_trees_v6 y s sc) (fun _ _ => rfl) (I := fun n s => (s.length ≤ 7 + n ∧ G7 s) ∧ Nm (m_law_trees_v1 sc) s) h (Nat.le_of_lt hi) (v4_all sc) fun n s y e h => step2_ok sc 7 n s y (tops_y e) h
  rw [List.length_range] at hi
  have h2 := mny_le sc
  exact ⟨by have := this.1.1; omega, tops_y hy⟩
theorem v7_all (sc : List Int) : (m_law_trees_v7 sc).length ≤ 177 ∧ G7 (m_law_trees_v7 sc) := by
  have := out_cnt (step := m_law_trees_step2 sc) (g := fun s y => m_law_trees_v6 y s sc) (fun _ _ => rfl) (I := fun n s => (s.length ≤ 7 + n ∧ G7 s) ∧ Nm (m_law_trees_v1 sc) s) (l := List.range (mny sc)) (s0 := m_law_trees_v4 sc) (v4_all sc) fun n s y e h => step2_ok sc 7 n s y (tops_y e) h
  rw [List.length_range] at this
  have h2 := mny_le sc
  exact ⟨Nat.le_trans this.1.1 (by omega), this.1.2⟩
theorem v10_all (sc : List Int) : (m_law_trees_v10 sc).length ≤ 177 ∧ G7 (m_law_trees_v10 sc) := by
  unfold m_law_trees_v10
  split
  · exact ⟨Nat.zero_le _, G7.nil⟩
  · exact v7_all sc
theorem trees3 (sc : List Int) {i y : Nat} {s : List (Tx × Tx)} (h : runL (m_law_trees_step3 sc) ((List.range (((m_law_cell_at sc (2 : Int)) / (5 : Int)) % (7 : Int)).toNat).take i) (m_law_trees_v10 sc) = .go s) (hy : (List.range (((m_law_cell_at sc (2 : Int)) / (5 : Int)) % (7 : Int)).toNat)[i]? = some y) : Good s ∧ s.length ≤ 1000 := by
  have hi := (List.getElem?_eq_some_iff.mp hy).1
  have := run_cnt (g := fun s y => m_law_trees_v11 s sc y) (fun _ _ => rfl) (I := fun n s => s.length ≤ 177 + n ∧ G7 s) h (Nat.le_of_lt hi) (v10_all sc) fun n s y _ h => grown_ok _ _ _ _ h
  rw [List.length_range] at hi
  exact ⟨this.2.g, by have := this.1; omega⟩
theorem v12_all (sc : List Int) : (m_law_trees_v12 sc).length ≤ 183 ∧ G7 (m_law_trees_v12 sc) := by
  have := out_cnt (step := m_law_trees_step3 sc) (g := fun s y => m_law_trees_v11 s sc y) (fun _ _ => rfl) (I := fun n s => s.length ≤ 177 + n ∧ G7 s) (l := List.range (((m_law_cell_at sc (2 : Int)) / (5 : Int)) % (7 : Int)).toNat) (s0 := m_law_trees_v10 sc) (v10_all sc) fun n s y _ h => grown_ok _ _ _ _ h
  rw [List.length_range] at this
  exact ⟨Nat.le_trans this.1 (by omega), this.2⟩

/-! rows of deeds -/
def bads : List Tx := [lNil, tx "a/../b", tx "a b"]
theorem bads_no : ∀ p ∈ bads, ¬ Pth p := by decide +kernel
structure okD (d : List Tx) : Prop where
  dd : okDeed d
  pt : Pth (d.getD 1 []) ∨ d.getD 1 [] ∈ bads
  val : okV (d.getD 2 [])
def okRow (ds : List (List Tx)) : Prop := ∀ d ∈ ds, okD d
theorem run_ind {α S R : Type} {step : S → α → Stp S R} {I : Nat → S → Prop} {l : List α} {s0 : S} (h0 : I 0 s0) (hs : ∀ n s y s2, l[n]? = some y → I n s → step s y = .go s2 → I (n + 1) s2) : ∀ (i : Nat) (s : S), i ≤ l.length → runL step (l.take i) s0 = .go s → I i s
  | 0, s, _, h => by
    rw [List.take_zero] at h
    have e : s0 = s := by
      have h2 : (Stp.go s0 : Stp S R) = .go s := h
      injection h2
    exact e ▸ h0
  | i + 1, s, hi, h => by
    have hl : i < l.length := by omega
    have hy : l[i]? = some l[i] := List.getElem?_eq_getElem hl
    cases e : runL step (l.take i) s0 with
    | go s1 =>
      have h2 := runL_next e hy
      rw [h] at h2
      exact hs i s1 _ s hy (run_ind h0 hs i s1 (by omega) e) h2.symm
    | brk s1 =>
      rw [List.take_add_one, hy, runL_app, e] at h
      cases h
    | ret r =>
      rw [List.take_add_one, hy, runL_app, e] at h
      cases h
theorem done_cases {t : List (Tx × Tx)} {d : List Tx} {l : List (Tx × Tx)} (g : Good t) (h : m_done t d = .ok l) : l = ddel t (d.getD 1 []) ∨ (Pth (d.getD 1 []) ∧ l = dput t (d.getD 1 []) (d.getD 2 [])) := by
  rw [done_is _ _ g] at h
  unfold Due at h
  split at h
  · rename_i hp
    split at h
    · split at h
      · exact Or.inl (Res.ok.inj h).symm
      · cases h
    · split at h
      · exact Or.inr ⟨hp, (Res.ok.inj h).symm⟩
      · cases h
  · cases h
theorem done_good {t : List (Tx × Tx)} {d : List Tx} {l : List (Tx × Tx)} (g : Good t) (hd : okD d) (h : m_done t d = .ok l) : Good l ∧ l.length ≤ t.length + 1 := by
  rcases done_cases g h with rfl | ⟨hp, rfl⟩
  · exact ⟨g.del, Nat.le_succ_of_le (del_len _ _)⟩
  · exact ⟨g.put hp hd.val, put_len _ _ _⟩
theorem kinds_done {t : List (Tx × Tx)} {d : List Tx} {k : Nat} (g : Good t) (h : m_done t d = .exc k) : k = 1 ∨ k = 2 ∨ k = 3 := by
  rw [done_is _ _ g] at h
  unfold Due at h
  split at h
  · split at h
    · split at h
      · cases h
      · cases h
        exact Or.inr (Or.inl rfl)
    · split at h
      · cases h
      · cases h
        exact Or.inr (Or.inr rfl)
  · cases h
    exact Or.inl rfl
theorem chg_step {t l : List (Tx × Tx)} {d : List Tx} (h : m_changed_step1 t d = .go l) : m_done t d = .ok l := by
  unfold m_changed_step1 at h
  cases e : m_done t d with
  | ok a =>
    rw [e] at h
    have h2 : (Stp.go a : Stp (List (Tx × Tx)) (Res (List (Tx × Tx)))) = .go l := h
    injection h2 with h3
    rw [h3]
  | exc k =>
    rw [e] at h
    cases h
theorem changed_loop {t : List (Tx × Tx)} {ds : List (List Tx)} (hp : okRow ds ∧ Good t ∧ t.length + ds.length ≤ 1000) {i : Nat} {s : List (Tx × Tx)} {y : List Tx} (h : runL m_changed_step1 (ds.take i) (m_changed_v1 t) = .go s) (hy : ds[i]? = some y) : okDeed y ∧ Good s ∧ s.length ≤ 1000 := by
  have hi := (List.getElem?_eq_some_iff.mp hy).1
  have := run_ind (I := fun n s => Good s ∧ s.length ≤ t.length + n) (l := ds) (s0 := m_changed_v1 t) ⟨hp.2.1, Nat.le_refl _⟩ (fun n s y s2 hy h e => by
    have h2 := done_good h.1 (hp.1 y (List.mem_of_getElem? hy)) (chg_step e)
    exact ⟨h2.1, by have := h2.2; have := h.2; omega⟩) i s (Nat.le_of_lt hi) h
  exact ⟨(hp.1 y (List.mem_of_getElem? hy)).dd, this.1, by have := this.2; have := hp.2.2; omega⟩
/-! the law's own walk over a row goes as the program's -/
def toS (r : Res (List (Tx × Tx))) : Stp (List (Tx × Tx)) Wd := match r with
  | .ok l => .go l
  | .exc k => .ret (.txt (word k))
theorem word_step {t : List (Tx × Tx)} {d : List Tx} (g : Good t) (hd : okD d) : m_law_word_of_step1 t d = toS (m_done t d) := by
  rw [done_is _ _ g]
  unfold m_law_word_of_step1 Due
  have e1 : d.getD (1 : Int).toNat [] = d.getD 1 [] := rfl
  have e0 : d.getD (0 : Int).toNat [] = d.getD 0 [] := rfl
  rw [e1, e0]
  rcases hd.pt with hp | hb
  · have hn : d.getD 1 [] ∉ bads := fun z => bads_no _ z hp
    rw [decide_eq_false (show ¬ d.getD 1 [] ∈ [lNil, l_b2f10bc2, l_7dbde935] from hn), if_neg Bool.false_ne_true, if_pos hp, has_dec]
    by_cases hc : d.getD 0 [] = lCut
    · rw [decide_eq_true hc, if_pos rfl, Bool.true_and]
      by_cases hk : d.getD 1 [] ∈ dkeys t
      · rw [decide_eq_true hk, if_neg (by decide), if_pos rfl, if_pos hk]
        rfl
      · rw [decide_eq_false hk, if_pos (by decide), if_neg hk]
        rfl
    · rw [decide_eq_false hc, if_neg Bool.false_ne_true, Bool.false_and, if_neg Bool.false_ne_true, if_neg Bool.false_ne_true, free_of]
      by_cases hf : Free (dkeys t) (d.getD 1 [])
      · rw [decide_eq_true hf, if_neg (by decide), if_pos hf]
        rfl
      · rw [decide_eq_false hf, if_pos (by decide), if_neg hf]
        rfl
  · rw [decide_eq_true (show d.getD 1 [] ∈ [lNil, l_b2f10bc2, l_7dbde935] from hb), if_pos rfl, if_neg (bads_no _ hb)]
    rfl
theorem word_run : ∀ (ds : List (List Tx)) (t : List (Tx × Tx)), Good t → okRow ds → aftL (runL m_law_word_of_step1 ds t) (fun s1 => Wd.dct s1) = toW (aftL (runL m_changed_step1 ds t) (fun s1 => Res.ok s1))
  | [], t, _, _ => rfl
  | d :: r, t, g, h => by
    have hd := h d List.mem_cons_self
    have hw := word_step g hd
    cases e : m_done t d with
    | ok l =>
      have e1 : m_law_word_of_step1 t d = .go l := by rw [hw, e]; rfl
      have e2 : m_changed_step1 t d = .go l := by unfold m_changed_step1; rw [e]; rfl
      rw [runL_go e1, runL_go e2]
      exact word_run r l (done_good g hd e).1 fun x hx => h x (List.mem_cons_of_mem _ hx)
    | exc k =>
      have e1 : m_law_word_of_step1 t d = .ret (.txt (word k)) := by rw [hw, e]; rfl
      have e2 : m_changed_step1 t d = .ret (.exc k) := by unfold m_changed_step1; rw [e]; rfl
      rw [runL_ret e1, runL_ret e2]
      rfl
theorem word_is (t : List (Tx × Tx)) (ds : List (List Tx)) (g : Good t) (h : okRow ds) : m_law_word_of t ds = toW (m_changed t ds) := word_run ds t g h
theorem word_loop {t : List (Tx × Tx)} {ds : List (List Tx)} (hp : okRow ds ∧ Good t ∧ t.length + ds.length ≤ 1000) {i : Nat} {s : List (Tx × Tx)} {y : List Tx} (h : runL m_law_word_of_step1 (ds.take i) (m_law_word_of_v1 t) = .go s) (hy : ds[i]? = some y) :
    (2 ≤ y.length ∧ (y.length = 3 ∨ (y.length = 2 ∧ y.getD 0 [] = lCut))) ∧ s.length ≤ 1000 ∧ (y.getD (1 : Int).toNat []).length ≤ 900 ∧ ((y.getD (1 : Int).toNat []).length ≤ 900 ∧ ∀ k ∈ dkeys s, k.length ≤ 900) := by
  have hi := (List.getElem?_eq_some_iff.mp hy).1
  have hk := hp.1 y (List.mem_of_getElem? hy)
  have := run_ind (I := fun n s => Good s ∧ s.length ≤ t.length + n) (l := ds) (s0 := m_law_word_of_v1 t) ⟨hp.2.1, Nat.le_refl _⟩ (fun n s y s2 hy h e => by
    have hd := hp.1 y (List.mem_of_getElem? hy)
    rw [word_step h.1 hd] at e
    cases e2 : m_done s y with
    | ok l =>
      rw [e2] at e
      have e3 : (Stp.go l : Stp (List (Tx × Tx)) Wd) = .go s2 := e
      injection e3 with e4
      rw [← e4]
      have h2 := done_good h.1 hd e2
      exact ⟨h2.1, by have := h2.2; have := h.2; omega⟩
    | exc k =>
      rw [e2] at e
      cases e) i s (Nat.le_of_lt hi) h
  have h9 : (y.getD (1 : Int).toNat []).length ≤ 900 := deed_path hk.dd
  exact ⟨⟨deed_two hk.dd, hk.dd.1⟩, by have := this.2; have := hp.2.2; omega, h9, h9, this.1.le9⟩
theorem cut_in {c h : Bool} (hb : c = true) (hc : (c && !h) = false) : h = true := by
  rw [hb, Bool.true_and] at hc
  exact has_of_not hc
theorem row_three {y : List Tx} (h : 2 ≤ y.length ∧ (y.length = 3 ∨ (y.length = 2 ∧ y.getD 0 [] = lCut))) (hb : decide ((y.getD (0 : Int).toNat []) = lCut) = false) : y.length = 3 := by
  rcases h.2 with e | e
  · exact e
  · exact absurd e.2 (of_decide_eq_false hb)
theorem chg_kinds {t : List (Tx × Tx)} {ds : List (List Tx)} (g : Good t) (h : okRow ds) {k : Nat} (e : m_changed t ds = .exc k) : k = 1 ∨ k = 2 ∨ k = 3 := by
  have key : ∀ (ds : List (List Tx)) (t : List (Tx × Tx)), Good t → okRow ds → aftL (runL m_changed_step1 ds t) (fun s1 => Res.ok s1) = .exc k → k = 1 ∨ k = 2 ∨ k = 3 := by
    intro ds
    induction ds with
    | nil => exact fun t _ _ e => nomatch e
    | cons d r ih =>
      intro t g h e
      have hd := h d List.mem_cons_self
      cases e1 : m_done t d with
      | ok l =>
        have e2 : m_changed_step1 t d = .go l := by unfold m_changed_step1; rw [e1]; rfl
        rw [runL_go e2] at e
        exact ih l (done_good g hd e1).1 (fun x hx => h x (List.mem_cons_of_mem _ hx)) e
      | exc j =>
        have e2 : m_changed_step1 t d = .ret (.exc j) := by unfold m_changed_step1; rw [e1]; rfl
        rw [runL_ret e2] at e
        have e3 : (Res.exc j : Res (List (Tx × Tx))) = .exc k := e
        injection e3 with e4
        rw [← e4]
        exact kinds_done g e1
  exact key ds t g h e
theorem kinds_changed {t : List (Tx × Tx)} {ds : List (List Tx)} (hp : okRow ds ∧ Good t ∧ t.length + ds.length ≤ 1000) {k : Nat} (e : m_changed t ds = .exc k) : k = 1 ∨ k = 2 ∨ k = 3 := chg_kinds hp.2.1 hp.1 e

/-! what lies between -/
theorem srt_keys_len (l : List (Tx × Tx)) : (srt (dkeys l)).length = l.length := by rw [srt_len, dkeys_len]
theorem has_srt {l : List (Tx × Tx)} {k : Tx} (h : k ∈ srt (dkeys l)) : dhas l k = true := (has_iff _ _).mpr (mem_srt.mp h)
theorem between_v1 (o n : List (Tx × Tx)) : (m_between_v1 o n).length ≤ o.length := by
  unfold m_between_v1
  rw [List.length_map]
  exact Nat.le_trans (List.length_filter_le _ _) (Nat.le_of_eq (srt_keys_len o))
theorem between_v2 (o n : List (Tx × Tx)) : (m_between_v2 n o).length ≤ n.length := by
  unfold m_between_v2
  rw [List.length_map]
  exact Nat.le_trans (List.length_filter_le _ _) (Nat.le_of_eq (srt_keys_len n))
/-! the odd deeds -/
theorem odd_v1 (n : List (Tx × Tx)) : (m_law_odd_deed_v1 n).length = n.length + 1 := by
  unfold m_law_odd_deed_v1
  rw [List.length_append, srt_keys_len]
  rfl
theorem odd_ix (c : Int) (n : List (Tx × Tx)) : 0 ≤ ((c / (6 : Int)) % ((m_law_odd_deed_v1 n).length : Int)) ∧ ((c / (6 : Int)) % ((m_law_odd_deed_v1 n).length : Int)) < ((m_law_odd_deed_v1 n).length : Int) := by
  have h1 := odd_v1 n
  exact ⟨Int.emod_nonneg _ (by omega), Int.emod_lt_of_pos _ (by omega)⟩
theorem odd_mem {n : List (Tx × Tx)} (c : Int) : m_law_odd_deed_v2 n c ∈ m_law_odd_deed_v1 n := by
  have h1 := odd_v1 n
  have h2 := Int.emod_nonneg (c / 6) (b := ((m_law_odd_deed_v1 n).length : Int)) (by omega)
  have h3 := Int.emod_lt_of_pos (c / 6) (b := ((m_law_odd_deed_v1 n).length : Int)) (by omega)
  unfold m_law_odd_deed_v2
  have h4 : ((c / 6) % ((m_law_odd_deed_v1 n).length : Int)).toNat < (m_law_odd_deed_v1 n).length := by omega
  rw [List.getD_eq_getElem?_getD, List.getElem?_eq_getElem h4]
  exact List.getElem_mem h4
theorem odd_near {n : List (Tx × Tx)} (c : Int) (g : G7 n) : Pth (m_law_odd_deed_v2 n c) ∧ (cuts 47 (m_law_odd_deed_v2 n c)).length ≤ 7 := by
  have h := odd_mem (n := n) c
  unfold m_law_odd_deed_v1 at h
  rcases List.mem_append.mp h with e | e
  · exact ⟨g.g.pth _ (mem_srt.mp e), g.p7 _ (mem_srt.mp e)⟩
  · rw [List.mem_singleton.mp e]
    decide
theorem odd_v2 {n : List (Tx × Tx)} (c : Int) (g : Good n) : (m_law_odd_deed_v2 n c).length ≤ 104 := by
  have h := odd_mem (n := n) c
  unfold m_law_odd_deed_v1 at h
  rcases List.mem_append.mp h with e | e
  · exact g.len _ (mem_srt.mp e)
  · rw [List.mem_singleton.mp e]
    decide
theorem cuts_pos (p : Tx) : 0 < (cuts 47 p).length := List.length_pos_iff.mpr (cuts_ne 47 p)
theorem odd_ok {n : List (Tx × Tx)} (c : Int) (g : G7 n) : okD (m_law_odd_deed c n) ∧ ∀ p ∈ m_law_odd_deed c n, okT p := by
  have hn := odd_near c g
  have hl := odd_v2 c g.g
  have hs := pth_sign hn.1
  have hfix : ∀ d ∈ [[lCut, l_b2f10bc2], [lPut, lNil, lX], [lCut, l_4b1e81f8], [lPut, l_7dbde935, lNil]], okD d ∧ ∀ p ∈ d, okT p := by
    intro d hd
    have h1 : ∀ d ∈ [[lCut, l_b2f10bc2], [lPut, lNil, lX], [lCut, l_4b1e81f8], [lPut, l_7dbde935, lNil]], ((d.length = 3 ∨ (d.length = 2 ∧ d.getD 0 [] = lCut)) ∧ ∀ t ∈ d, t.length ≤ 800) ∧ (Pth (d.getD 1 []) ∨ d.getD 1 [] ∈ bads) ∧ ((d.getD 2 []).length ≤ 602 ∧ ∀ c ∈ d.getD 2 [], c < 128) ∧ ∀ p ∈ d, ∀ c ∈ p, c < 1114112 := by decide +kernel
    have h2 := h1 d hd
    exact ⟨⟨h2.1, h2.2.1, h2.2.2.1⟩, h2.2.2.2⟩
  have hq : Pth (m_law_odd_deed_v2 n c ++ l_7269bde5) := by
    rw [pth_iff]
    have h1 := (pth_iff _).mp hn.1
    rw [show l_7269bde5 = 47 :: tx "q" from rfl, cuts_two]
    refine ⟨?_, fun p hp => ?_⟩
    · rw [List.length_append, show (cuts 47 (tx "q")).length = 1 by decide]
      have := hn.2
      omega
    · rcases List.mem_append.mp hp with e | e
      · exact h1.2 p e
      · rw [show cuts 47 (tx "q") = [tx "q"] by decide] at e
        rw [List.mem_singleton.mp e]
        decide
  have h0 : Part ((cuts 47 (m_law_odd_deed_v2 n c)).getD 0 []) := by
    have h1 := (pth_iff _).mp hn.1
    have hp := cuts_pos (m_law_odd_deed_v2 n c)
    apply h1.2
    rw [List.getD_eq_getElem?_getD, List.getElem?_eq_getElem hp]
    exact List.getElem_mem hp
  have hf : Pth ((cuts 47 (m_law_odd_deed_v2 n c)).getD 0 []) := ⟨[_], ⟨⟨(by simp), (by simp)⟩, fun p hp => by rw [List.mem_singleton.mp hp]; exact h0⟩, rfl⟩
  have three : ∀ (p t : Tx), Pth p → p.length ≤ 800 → (∀ c ∈ p, c < 128) → okV t → okD [lPut, p, t] ∧ ∀ x ∈ [lPut, p, t], okT x := fun p t hp hl hc ht => by
    refine ⟨⟨⟨Or.inl rfl, fun x hx => ?_⟩, Or.inl hp, ht⟩, fun x hx => ?_⟩
    · rcases List.mem_cons.mp hx with e | e
      · rw [e]
        decide
      · rcases List.mem_cons.mp e with e | e
        · rw [e]
          exact hl
        · rw [List.mem_singleton.mp e]
          have := ht.1
          omega
    · rcases List.mem_cons.mp hx with e | e
      · rw [e]
        have : ∀ c ∈ lPut, c < 1114112 := by decide
        exact this
      · rcases List.mem_cons.mp e with e | e
        · rw [e]
          exact fun c h => Nat.lt_trans (hc c h) (by decide)
        · rw [List.mem_singleton.mp e]
          exact fun c h => Nat.lt_trans (ht.2 c h) (by decide)
  have hall : ∀ i < 6, okD ((m_law_odd_deed_v3 ++ [[lPut, ((m_law_odd_deed_v2 n c) ++ l_7269bde5), lX], [lPut, ((cuts 47 (m_law_odd_deed_v2 n c)).getD (0 : Int).toNat []), lY]]).getD i []) ∧ ∀ p ∈ (m_law_odd_deed_v3 ++ [[lPut, ((m_law_odd_deed_v2 n c) ++ l_7269bde5), lX], [lPut, ((cuts 47 (m_law_odd_deed_v2 n c)).getD (0 : Int).toNat []), lY]]).getD i [], okT p := by
    intro i hi
    match i, hi with
    | 0, _ => exact hfix _ (by simp [m_law_odd_deed_v3])
    | 1, _ => exact hfix _ (by simp [m_law_odd_deed_v3])
    | 2, _ => exact hfix _ (by simp [m_law_odd_deed_v3])
    | 3, _ => exact hfix _ (by simp [m_law_odd_deed_v3])
    | 4, _ =>
      refine three _ _ hq ?_ (pth_sign hq) (show lX.length ≤ 602 ∧ ∀ c ∈ lX, c < 128 by decide)
      rw [List.length_append, len_l_7269bde5]
      omega
    | 5, _ => exact three _ _ hf (Nat.le_trans h0.1.2 (by decide)) (pth_sign hf) (show lY.length ≤ 602 ∧ ∀ c ∈ lY, c < 128 by decide)
  exact hall _ (by omega)
/-! the row between two trees leads from the one to the other -/
theorem runL_append_go {α S R : Type} {f : S → α → Stp S R} {l m : List α} {s t : S} (h : runL f l s = .go t) : runL f (l ++ m) s = runL f m t := by rw [runL_app, h]
theorem mem_of_get {l : List (Tx × Tx)} {k v : Tx} (h : dget l k = some v) : (k, v) ∈ l := by
  unfold dget at h
  cases e : l.find? fun p => decide (p.1 = k) with
  | none =>
    rw [e] at h
    cases h
  | some q =>
    rw [e] at h
    have h2 : q.2 = v := Option.some.inj h
    have h3 : q.1 = k := of_decide_eq_true (List.find?_some (p := fun p : Tx × Tx => decide (p.1 = k)) e)
    have h4 := List.mem_of_find?_eq_some e
    rw [← h2, ← h3]
    exact h4
theorem cut_step {t : List (Tx × Tx)} {p : Tx} (g : Good t) (hp : p ∈ dkeys t) : m_changed_step1 t [lCut, p] = .go (ddel t p) := by
  have h : m_done t [lCut, p] = .ok (ddel t p) := by
    rw [done_is _ _ g]
    unfold Due
    show (if Pth p then (if decide (lCut = lCut) = true then (if p ∈ dkeys t then Res.ok (ddel t p) else .exc 2) else _) else _) = _
    rw [if_pos (g.pth p hp), decide_eq_true rfl, if_pos rfl, if_pos hp]
  unfold m_changed_step1
  rw [h]
  rfl
theorem put_step {t : List (Tx × Tx)} {p v : Tx} (g : Good t) (hp : Pth p) (f : Free (dkeys t) p) : m_changed_step1 t [lPut, p, v] = .go (dput t p v) := by
  have h : m_done t [lPut, p, v] = .ok (dput t p v) := by
    rw [done_is _ _ g]
    unfold Due
    show (if Pth p then (if decide (lPut = lCut) = true then _ else (if Free (dkeys t) p then Res.ok (dput t p v) else .exc 3)) else _) = _
    rw [if_pos hp, decide_eq_false (show ¬ lPut = lCut by decide), if_neg Bool.false_ne_true, if_pos f]
  unfold m_changed_step1
  rw [h]
  rfl
theorem cuts_run : ∀ (ps : List Tx) (t : List (Tx × Tx)), Good t → ps.Nodup → (∀ p ∈ ps, p ∈ dkeys t) → ∃ l, runL m_changed_step1 (ps.map fun p => [lCut, p]) t = .go l ∧ Good l ∧ ∀ q, dget l q = if q ∈ ps then none else dget t q
  | [], t, g, _, _ => ⟨t, rfl, g, fun q => by rw [if_neg (by simp)]⟩
  | p :: r, t, g, nd, h => by
    have hp := h p List.mem_cons_self
    have nd2 := List.nodup_cons.mp nd
    obtain ⟨l, e, gl, hl⟩ := cuts_run r (ddel t p) g.del nd2.2 fun q hq => mem_keys_del.mpr ⟨h q (List.mem_cons_of_mem _ hq), fun z => nd2.1 (z ▸ hq)⟩
    refine ⟨l, ?_, gl, fun q => ?_⟩
    · rw [List.map_cons, runL_go (cut_step g hp)]
      exact e
    · rw [hl q]
      by_cases h1 : q ∈ r
      · rw [if_pos h1, if_pos (List.mem_cons_of_mem _ h1)]
      · rw [if_neg h1]
        by_cases h2 : q = p
        · rw [if_pos (by rw [h2]; exact List.mem_cons_self), h2]
          rw [get_del, if_pos rfl]
        · rw [if_neg (fun z => (List.mem_cons.mp z).elim h2 h1)]
          rw [get_del, if_neg h2]
theorem puts_run {n : List (Tx × Tx)} (gn : G7 n) : ∀ (ps : List Tx) (t : List (Tx × Tx)), Good t → (∀ k ∈ dkeys t, k ∈ dkeys n) → (∀ p ∈ ps, p ∈ dkeys n) → ∃ l, runL m_changed_step1 (ps.map fun p => [lPut, p, (dget n p).getD []]) t = .go l ∧ Good l ∧ ∀ q, dget l q = if q ∈ ps then dget n q else dget t q
  | [], t, g, _, _ => ⟨t, rfl, g, fun q => by rw [if_neg (by simp)]⟩
  | p :: r, t, g, ht, h => by
    have hp := h p List.mem_cons_self
    have hf : Free (dkeys t) p := fun k hk => ⟨gn.tree p hp k (ht k hk), gn.tree k (ht k hk) p hp⟩
    have hv : okV ((dget n p).getD []) := by
      obtain ⟨v, hv⟩ := Option.isSome_iff_exists.mp (show (dget n p).isSome = true from (has_iff _ _).mpr hp)
      rw [hv]
      exact gn.g.val (p, v) (mem_of_get hv)
    obtain ⟨l, e, gl, hl⟩ := puts_run gn r (dput t p ((dget n p).getD [])) (g.put (gn.g.pth p hp) hv) (fun k hk => (mem_keys_put.mp hk).elim (fun z => z ▸ hp) (ht k)) fun q hq => h q (List.mem_cons_of_mem _ hq)
    refine ⟨l, ?_, gl, fun q => ?_⟩
    · rw [List.map_cons, runL_go (put_step g (gn.g.pth p hp) hf)]
      exact e
    · rw [hl q]
      by_cases h1 : q ∈ r
      · rw [if_pos h1, if_pos (List.mem_cons_of_mem _ h1)]
      · rw [if_neg h1, get_put]
        by_cases h2 : q = p
        · rw [if_pos h2, if_pos (by rw [h2]; exact List.mem_cons_self), h2]
          obtain ⟨v, hv⟩ := Option.isSome_iff_exists.mp (show (dget n p).isSome = true from (has_iff _ _).mpr hp)
          rw [hv]
          rfl
        · rw [if_neg h2, if_neg (fun z => (List.mem_cons.mp z).elim h2 h1)]
theorem dsame_get {l m : List (Tx × Tx)} (hl : (dkeys l).Nodup) (hm : (dkeys m).Nodup) (h : ∀ q, dget l q = dget m q) : dsame l m := by
  have hk : ∀ q, q ∈ dkeys l ↔ q ∈ dkeys m := fun q => by
    rw [← has_iff, ← has_iff]
    unfold dhas
    rw [h q]
  refine ⟨?_, fun q hq => ?_⟩
  · have hp : (dkeys l).Perm (dkeys m) := (List.perm_ext_iff_of_nodup hl hm).mpr hk
    rw [← dkeys_len l, ← dkeys_len m]
    exact hp.length_eq
  · rw [← h]
    exact get_of hl hq
theorem between_leads {o n : List (Tx × Tx)} (go : Good o) (gn : G7 n) : ∃ l, m_changed o (m_between o n) = .ok l ∧ Good l ∧ dsame l n := by
  have nd1 : ((srt (dkeys o)).filter (fun k0 : Tx => (!dhas n k0))).Nodup := (srt_nodup go.nd).filter _
  obtain ⟨l1, e1, g1, h1⟩ := cuts_run ((srt (dkeys o)).filter (fun k0 : Tx => (!dhas n k0))) o go nd1 fun p hp => mem_srt.mp (List.mem_filter.mp hp).1
  have hk1 : ∀ k ∈ dkeys l1, k ∈ dkeys n := fun k hk => by
    have h2 := (has_iff l1 k).mpr hk
    unfold dhas at h2
    rw [h1 k] at h2
    split at h2
    · cases h2
    · rename_i hn
      cases e : dhas n k with
      | true => exact (has_iff _ _).mp e
      | false =>
        refine absurd (List.mem_filter.mpr ⟨mem_srt.mpr ((has_iff _ _).mp h2), ?_⟩) hn
        rw [e]
        rfl
  obtain ⟨l2, e2, g2, h2⟩ := puts_run gn ((srt (dkeys n)).filter (fun k0 : Tx => (!decide ((dget o k0) = some ((dget n k0).getD []))))) l1 g1 hk1 fun p hp => mem_srt.mp (List.mem_filter.mp hp).1
  refine ⟨l2, ?_, g2, dsame_get g2.nd gn.g.nd fun q => ?_⟩
  · show aftL (runL m_changed_step1 (m_between_v1 o n ++ m_between_v2 n o) o) (fun s1 => Res.ok s1) = _
    rw [runL_append_go (show runL m_changed_step1 (m_between_v1 o n) o = .go l1 from e1), show runL m_changed_step1 (m_between_v2 n o) l1 = .go l2 from e2]
    rfl
  · rw [h2 q]
    by_cases hq : q ∈ ((srt (dkeys n)).filter (fun k0 : Tx => (!decide ((dget o k0) = some ((dget n k0).getD [])))))
    · rw [if_pos hq]
    · rw [if_neg hq, h1 q]
      cases e : dhas n q with
      | true =>
        have hnq := (has_iff _ _).mp e
        obtain ⟨v, hv⟩ := Option.isSome_iff_exists.mp (show (dget n q).isSome = true from e)
        have h3 : ¬ q ∈ ((srt (dkeys o)).filter (fun k0 : Tx => (!dhas n k0))) := fun z => by
          have := (List.mem_filter.mp z).2
          rw [e] at this
          cases this
        rw [if_neg h3]
        cases h4 : decide ((dget o q) = some ((dget n q).getD [])) with
        | true =>
          rw [of_decide_eq_true h4, hv]
          rfl
        | false =>
          refine absurd (List.mem_filter.mpr ⟨mem_srt.mpr hnq, ?_⟩) hq
          rw [h4]
          rfl
      | false =>
        have hn2 : dget n q = none := by
          cases h5 : dget n q with
          | none => rfl
          | some v =>
            unfold dhas at e
            rw [h5] at e
            cases e
        rw [hn2]
        by_cases h3 : q ∈ ((srt (dkeys o)).filter (fun k0 : Tx => (!dhas n k0)))
        · rw [if_pos h3]
        · rw [if_neg h3]
          cases h5 : dget o q with
          | none => rfl
          | some v =>
            refine absurd (List.mem_filter.mpr ⟨mem_srt.mpr ((has_iff _ _).mp (by unfold dhas; rw [h5]; rfl)), ?_⟩) h3
            rw [e]
            rfl
/-! the law -/
theorem law_v1_is (sc : List Int) : m_law_v1 sc = m_law_trees_v7 sc := rfl
theorem law_v2_is (sc : List Int) : m_law_v2 sc = m_law_trees_v12 sc := rfl
theorem law_trees (sc : List Int) : (m_law_v1 sc).length ≤ 177 ∧ (m_law_v2 sc).length ≤ 183 ∧ Good (m_law_v1 sc) ∧ Good (m_law_v2 sc) ∧ (m_law_v1 sc).length ≤ 1000 ∧ (m_law_v2 sc).length ≤ 1000 :=
  ⟨(v7_all sc).1, (v12_all sc).1, (v7_all sc).2.g, (v12_all sc).2.g, Nat.le_trans (v7_all sc).1 (by decide), Nat.le_trans (v12_all sc).1 (by decide)⟩
theorem due_cond (o n : List (Tx × Tx)) (k : Tx) : ((!dhas o k) || (!decide (((dget o k).getD []) = ((dget n k).getD [])))) = (!decide ((dget o k) = some ((dget n k).getD []))) := by
  unfold dhas
  cases e : dget o k with
  | none => rfl
  | some v =>
    show (false || (!decide (v = (dget n k).getD []))) = (!decide (some v = some ((dget n k).getD [])))
    rw [Bool.false_or]
    by_cases h : v = (dget n k).getD []
    · rw [decide_eq_true h, decide_eq_true (congrArg some h)]
    · rw [decide_eq_false h, decide_eq_false (fun z => h (Option.some.inj z))]
theorem due_is (sc : List Int) : m_law_v6 sc = m_between (m_law_v1 sc) (m_law_v2 sc) := by
  unfold m_law_v6 m_law_v5 m_between m_between_v1 m_between_v2
  congr 2
  apply List.filter_congr
  intro k _
  exact due_cond _ _ k
theorem between_ok {o n : List (Tx × Tx)} (go : Good o) (gn : Good n) : okRow (m_between o n) ∧ (∀ q ∈ m_between o n, ∀ p ∈ q, okT p) ∧ ∀ q ∈ m_between o n, 2 ≤ q.length ∧ q.length ≤ 3 := by
  have hc : ∀ c ∈ lCut, c < 1114112 := by decide
  have hp : ∀ c ∈ lPut, c < 1114112 := by decide
  have key : ∀ q ∈ m_between o n, okD q ∧ (∀ p ∈ q, okT p) ∧ 2 ≤ q.length ∧ q.length ≤ 3 := fun q hq => by
    unfold m_between at hq
    rcases List.mem_append.mp hq with h | h
    · obtain ⟨k, hk, rfl⟩ := List.mem_map.mp h
      have hk2 := mem_srt.mp (List.mem_filter.mp hk).1
      have hl := go.len k hk2
      have hs := pth_sign (go.pth k hk2)
      refine ⟨⟨⟨Or.inr ⟨rfl, rfl⟩, fun t ht => ?_⟩, Or.inl (go.pth k hk2), show ([] : Tx).length ≤ 602 ∧ ∀ c ∈ ([] : Tx), c < 128 by decide⟩, fun t ht => ?_, by simp, by simp⟩
      · rcases List.mem_cons.mp ht with e | e
        · rw [e]
          decide
        · rw [List.mem_singleton.mp e]
          omega
      · rcases List.mem_cons.mp ht with e | e
        · rw [e]
          exact hc
        · rw [List.mem_singleton.mp e]
          exact fun c h => Nat.lt_trans (hs c h) (by decide)
    · obtain ⟨k, hk, rfl⟩ := List.mem_map.mp h
      have hk2 := mem_srt.mp (List.mem_filter.mp hk).1
      have hl := gn.len k hk2
      have hs := pth_sign (gn.pth k hk2)
      have hv : okV ((dget n k).getD []) := by
        obtain ⟨v, hv⟩ := Option.isSome_iff_exists.mp (show (dget n k).isSome = true from (has_iff _ _).mpr hk2)
        rw [hv]
        exact gn.val (k, v) (mem_of_get hv)
      refine ⟨⟨⟨Or.inl rfl, fun t ht => ?_⟩, Or.inl (gn.pth k hk2), hv⟩, fun t ht => ?_, by simp, by simp⟩
      · rcases List.mem_cons.mp ht with e | e
        · rw [e]
          decide
        · rcases List.mem_cons.mp e with e | e
          · rw [e]
            omega
          · rw [List.mem_singleton.mp e]
            have := hv.1
            omega
      · rcases List.mem_cons.mp ht with e | e
        · rw [e]
          exact hp
        · rcases List.mem_cons.mp e with e | e
          · rw [e]
            exact fun c h => Nat.lt_trans (hs c h) (by decide)
          · rw [List.mem_singleton.mp e]
            exact fun c h => Nat.lt_trans (hv.2 c h) (by decide)
  exact ⟨fun q hq => (key q hq).1, fun q hq => (key q hq).2.1, fun q hq => (key q hq).2.2⟩
theorem law_bt (sc : List Int) : okRow (m_between (m_law_v1 sc) (m_law_v2 sc)) ∧ (∀ q ∈ m_between (m_law_v1 sc) (m_law_v2 sc), ∀ p ∈ q, okT p) ∧ ∀ q ∈ m_between (m_law_v1 sc) (m_law_v2 sc), 2 ≤ q.length ∧ q.length ≤ 3 := between_ok (law_trees sc).2.2.1 (law_trees sc).2.2.2.1
theorem law_v5_len (sc : List Int) : (m_law_v5 sc).length ≤ 177 := Nat.le_trans (between_v1 (m_law_v1 sc) (m_law_v2 sc)) (law_trees sc).1
theorem law_v6_len (sc : List Int) : (m_law_v6 sc).length ≤ 360 := by
  rw [due_is]
  unfold m_between
  rw [List.length_append]
  have h1 := between_v1 (m_law_v1 sc) (m_law_v2 sc)
  have h2 := between_v2 (m_law_v1 sc) (m_law_v2 sc)
  have h3 := law_trees sc
  omega
theorem law_v6_fil (sc : List Int) : ((srt (dkeys (m_law_v2 sc))).filter (fun k0 : Tx => ((!dhas (m_law_v1 sc) k0) || (!decide (((dget (m_law_v1 sc) k0).getD []) = ((dget (m_law_v2 sc) k0).getD [])))))).length ≤ 183 :=
  Nat.le_trans (List.length_filter_le _ _) (by rw [srt_keys_len]; exact (law_trees sc).2.1)
theorem law_v6_okT (sc : List Int) : ∀ q ∈ m_law_v6 sc, ∀ p ∈ q, okT p := by
  rw [due_is]
  exact (law_bt sc).2.1
theorem law_v7_len (sc : List Int) : (m_law_v7 sc).length ≤ 360 := by
  have h := law_v6_len sc
  rw [due_is] at h
  exact h
theorem law_v7_okT (sc : List Int) : ∀ q ∈ m_law_v7 sc, ∀ p ∈ q, okT p := (law_bt sc).2.1
theorem law_v7_two (sc : List Int) : ∀ q ∈ m_law_v7 sc, 2 ≤ q.length ∧ q.length ≤ 3 := (law_bt sc).2.2
theorem law_chg_pre (sc : List Int) : okRow (m_law_v8 sc) ∧ Good (m_law_v1 sc) ∧ (m_law_v1 sc).length + (m_law_v8 sc).length ≤ 1000 :=
  ⟨(law_bt sc).1, (law_trees sc).2.2.1, by have := law_v7_len sc; have := (law_trees sc).1; show (m_law_v1 sc).length + (m_law_v7 sc).length ≤ 1000; omega⟩
theorem law_same_pre (sc : List Int) : okRow [] ∧ Good (m_law_v2 sc) ∧ (m_law_v2 sc).length + ([] : List (List Tx)).length ≤ 1000 := ⟨fun d h => (nomatch h), (law_trees sc).2.2.2.1, by have := (law_trees sc).2.1; simp; omega⟩
theorem law_leads (sc : List Int) : ∃ l, m_changed (m_law_v1 sc) (m_law_v7 sc) = .ok l ∧ Good l ∧ dsame l (m_law_v2 sc) := between_leads (law_trees sc).2.2.1 (v12_all sc).2
theorem made_no (sc : List Int) {k : Nat} (h : m_changed (m_law_v1 sc) (m_law_v8 sc) = .exc k) : False := by
  obtain ⟨l, e, _⟩ := law_leads sc
  have h2 : m_changed (m_law_v1 sc) (m_law_v7 sc) = .exc k := h
  rw [e] at h2
  cases h2
theorem made_same (sc : List Int) {l : List (Tx × Tx)} (h : m_changed (m_law_v1 sc) (m_law_v8 sc) = .ok l) : dsame l (m_law_v2 sc) := by
  obtain ⟨l2, e, _, hs⟩ := law_leads sc
  have h2 : m_changed (m_law_v1 sc) (m_law_v7 sc) = .ok l := h
  rw [e] at h2
  injection h2 with h3
  rw [← h3]
  exact hs
theorem same_is (sc : List Int) : m_changed (m_law_v2 sc) [] = .ok (m_law_v2 sc) := rfl
theorem same_no (sc : List Int) {k : Nat} (h : m_changed (m_law_v2 sc) [] = .exc k) : False := by
  rw [same_is] at h
  cases h
theorem same_same (sc : List Int) {l : List (Tx × Tx)} (h : m_changed (m_law_v2 sc) [] = .ok l) : dsame l (m_law_v2 sc) := by
  rw [same_is] at h
  injection h with h3
  rw [← h3]
  exact dsame_refl (law_trees sc).2.2.2.1.nd
theorem same_len (sc : List Int) {l : List (Tx × Tx)} (h : m_changed (m_law_v2 sc) [] = .ok l) : l.length ≤ 183 := by
  rw [same_is] at h
  injection h with h3
  rw [← h3]
  exact (law_trees sc).2.1
theorem law_at (sc : List Int) : 0 ≤ m_law_v10 sc ∧ m_law_v10 sc ≤ ((m_law_v6 sc).length : Int) := by
  unfold m_law_v10
  have h1 := Int.emod_nonneg ((m_law_cell_at sc (18 : Int)) / 6) (b := ((m_law_v6 sc).length : Int) + 1) (by omega)
  have h2 := Int.emod_lt_of_pos ((m_law_cell_at sc (18 : Int)) / 6) (b := ((m_law_v6 sc).length : Int) + 1) (by omega)
  omega
theorem odd_at (sc : List Int) (c : Int) : okD (m_law_odd_deed c (m_law_v2 sc)) ∧ ∀ p ∈ m_law_odd_deed c (m_law_v2 sc), okT p := odd_ok c (v12_all sc).2
theorem row_all (sc : List Int) : ∀ q ∈ m_law_v13 sc, okD q ∧ ∀ p ∈ q, okT p := by
  have hb := law_bt sc
  have hd := due_is sc
  have h6 : ∀ q ∈ m_law_v6 sc, okD q ∧ ∀ p ∈ q, okT p := by
    rw [hd]
    exact fun q hq => ⟨hb.1 q hq, hb.2.1 q hq⟩
  intro q hq
  unfold m_law_v13 m_law_v12 at hq
  simp only [List.mem_append, List.mem_singleton] at hq
  rcases hq with ((((h | h) | h) | h) | h)
  · exact h6 q (mem_cut h)
  · rw [h]
    exact odd_at sc _
  · exact h6 q (mem_cut h)
  · rw [h]
    exact odd_at sc _
  · exact h6 q (mem_cut h)
theorem law_v12_len (sc : List Int) : (m_law_v12 sc).length ≤ 730 := by
  unfold m_law_v12
  rw [List.length_append, List.length_append, List.length_singleton]
  have h1 := cut_len (m_law_v6 sc) none (some (m_law_v10 sc))
  have h2 := cut_len (m_law_v6 sc) (some (m_law_v10 sc)) (some (m_law_v11 sc))
  have h3 := law_v6_len sc
  omega
theorem cut_both {α : Type} (l : List α) {a b : Int} (h0 : 0 ≤ a) (h1 : a ≤ b) : (cutG l none (some a)).length + (cutG l (some a) (some b)).length + (cutG l (some b) none).length ≤ l.length := by
  obtain ⟨x, rfl⟩ := Int.eq_ofNat_of_zero_le h0
  obtain ⟨y, rfl⟩ := Int.eq_ofNat_of_zero_le (Int.le_trans h0 h1)
  have e : cutG l (some ((x : Nat) : Int)) (some ((y : Nat) : Int)) = (l.drop (min x l.length)).take (min y l.length - min x l.length) := by
    unfold cutG
    rw [HT.sIx_nat, HT.sIx_nat]
  rw [e, cutG_to, cutG_from, List.length_take, List.length_take, List.length_drop, List.length_drop]
  have h2 : x ≤ y := by
    have h3 : ((x : Nat) : Int) ≤ ((y : Nat) : Int) := h1
    omega
  omega
theorem law_v13_len (sc : List Int) : (m_law_v13 sc).length ≤ 362 := by
  have h10 := law_at sc
  have h11 : m_law_v10 sc ≤ m_law_v11 sc := by
    unfold m_law_v11
    have := Int.emod_nonneg ((m_law_cell_at sc (19 : Int)) / 6) (b := (((m_law_v6 sc).length : Int) + 1) - m_law_v10 sc) (by omega)
    omega
  have h := cut_both (m_law_v6 sc) h10.1 h11
  have h6 := law_v6_len sc
  unfold m_law_v13 m_law_v12
  rw [List.length_append, List.length_append, List.length_append, List.length_append, List.length_singleton, List.length_singleton]
  omega
theorem row_okT (sc : List Int) : ∀ q ∈ m_law_v13 sc, ∀ p ∈ q, okT p := fun q hq => (row_all sc q hq).2
theorem row_pre (sc : List Int) : okRow (m_law_v13 sc) ∧ Good (m_law_v1 sc) ∧ (m_law_v1 sc).length + (m_law_v13 sc).length ≤ 1000 := ⟨fun q hq => (row_all sc q hq).1, (law_trees sc).2.2.1, by have := law_v13_len sc; have := (law_trees sc).1; omega⟩
theorem due_pre (sc : List Int) : okRow (m_law_v6 sc) ∧ Good (m_law_v1 sc) ∧ (m_law_v1 sc).length + (m_law_v6 sc).length ≤ 1000 := by
  rw [due_is]
  exact law_chg_pre sc
theorem word_due (sc : List Int) : ∃ l, m_law_word_of (m_law_v1 sc) (m_law_v6 sc) = .dct l ∧ dsame l (m_law_v2 sc) := by
  obtain ⟨l, e, _, h⟩ := law_leads sc
  refine ⟨l, ?_, h⟩
  rw [word_is _ _ (law_trees sc).2.2.1 (due_pre sc).1, due_is]
  rw [show m_changed (m_law_v1 sc) (m_between (m_law_v1 sc) (m_law_v2 sc)) = .ok l from e]
  rfl
theorem chg_good {t : List (Tx × Tx)} {ds : List (List Tx)} (g : Good t) (h : okRow ds) {l : List (Tx × Tx)} (e : m_changed t ds = .ok l) : Good l := by
  have key : ∀ (ds : List (List Tx)) (t : List (Tx × Tx)), Good t → okRow ds → aftL (runL m_changed_step1 ds t) (fun s1 => Res.ok s1) = .ok l → Good l := by
    intro ds
    induction ds with
    | nil =>
      intro t g _ e
      have e2 : (Res.ok t : Res (List (Tx × Tx))) = .ok l := e
      injection e2 with e3
      rw [← e3]
      exact g
    | cons d r ih =>
      intro t g h e
      have hd := h d List.mem_cons_self
      cases e1 : m_done t d with
      | ok l2 =>
        have e2 : m_changed_step1 t d = .go l2 := by unfold m_changed_step1; rw [e1]; rfl
        rw [runL_go e2] at e
        exact ih l2 (done_good g hd e1).1 (fun x hx => h x (List.mem_cons_of_mem _ hx)) e
      | exc j =>
        have e2 : m_changed_step1 t d = .ret (.exc j) := by unfold m_changed_step1; rw [e1]; rfl
        rw [runL_ret e2] at e
        cases e
  exact key ds t g h e
theorem word_row (sc : List Int) : alikeW (m_law_v15 sc) (m_law_word_of (m_law_v1 sc) (m_law_v13 sc)) := by
  have hp := row_pre sc
  rw [word_is _ _ hp.2.1 hp.1]
  show alikeW (toW (m_changed (m_law_v1 sc) (m_law_v13 sc))) _
  cases e : m_changed (m_law_v1 sc) (m_law_v13 sc) with
  | ok l => exact dsame_refl (chg_good hp.2.1 hp.1 e).nd
  | exc k => exact rfl
theorem is_deed_ok (q : List Tx) (h : 2 ≤ q.length ∧ q.length ≤ 3) : m_law_is_deed q = true := by
  unfold m_law_is_deed
  rw [decide_eq_false (show ¬ (q.length : Int) < 2 by omega), decide_eq_false (show ¬ (q.length : Int) > 3 by omega)]
  show (decide _) = true
  apply decide_eq_true
  have e : q.filter (fun _ : Tx => (!true)) = [] := List.filter_eq_nil_iff.mpr fun _ _ => by decide
  rw [e]
  rfl
theorem law_holds (sc : List Int) : m_law sc = true := by
  have h7 : (m_law_v7 sc).filter (fun k0 : List Tx => (!(m_law_is_deed k0))) = [] := List.filter_eq_nil_iff.mpr fun q hq => by
    rw [is_deed_ok q (law_v7_two sc q hq)]
    decide
  have hd : m_law_v7 sc = m_law_v6 sc := (due_is sc).symm
  have hd2 : m_between (m_law_v1 sc) (m_law_v2 sc) = m_law_v6 sc := hd
  have hd3 : m_law_v8 sc = m_law_v6 sc := hd
  obtain ⟨l, e, _⟩ := law_leads sc
  have e1 : m_changed (m_law_v1 sc) (m_law_v8 sc) = .ok l := e
  unfold m_law
  rw [h7, e1, same_is, decide_eq_true hd, decide_eq_true hd2, decide_eq_true hd3, decide_eq_true (show m_law_v14 sc = m_law_v13 sc from rfl)]
  rfl

end K05


namespace K05
open PySem PySem.Spec PyProof.Rows L2 TL Evl Vf
/-! ## the text -/
def topS (i : Nat) : Stmt := PySem.Challenge.pw_threeroad_k05_rows_between.main.body.getD i (.Pass ⟨0, 0, 0, 0⟩)
abbrev s_is_part : Stmt := topS 9
theorem sc_is_part : FnScope ["text", "sign"] ["text"] (defScope s_is_part) := ⟨rfl, rfl, rfl, by decide +kernel, rfl, by decide +kernel, by decide +kernel⟩
abbrev s_is_path : Stmt := topS 10
theorem sc_is_path : FnScope ["text", "parts", "part"] ["text"] (defScope s_is_path) := ⟨rfl, rfl, rfl, by decide +kernel, rfl, by decide +kernel, by decide +kernel⟩
abbrev s_above : Stmt := topS 11
theorem sc_above : FnScope ["path", "parts", "many"] ["path"] (defScope s_above) := ⟨rfl, rfl, rfl, by decide +kernel, rfl, by decide +kernel, by decide +kernel⟩
abbrev s_is_beneath : Stmt := topS 12
theorem sc_is_beneath : FnScope ["path", "upper"] ["path", "upper"] (defScope s_is_beneath) := ⟨rfl, rfl, rfl, by decide +kernel, rfl, by decide +kernel, by decide +kernel⟩
abbrev s_is_blocked : Stmt := topS 14
theorem sc_is_blocked : FnScope ["tree", "path", "name", "upper"] ["tree", "path"] (defScope s_is_blocked) := ⟨rfl, rfl, rfl, by decide +kernel, rfl, by decide +kernel, by decide +kernel⟩
abbrev s_done : Stmt := topS 15
theorem sc_done : FnScope ["tree", "deed", "path", "files"] ["tree", "deed"] (defScope s_done) := ⟨rfl, rfl, rfl, by decide +kernel, rfl, by decide +kernel, by decide +kernel⟩
abbrev s_changed : Stmt := topS 16
theorem sc_changed : FnScope ["tree", "deeds", "files", "deed"] ["tree", "deeds"] (defScope s_changed) := ⟨rfl, rfl, rfl, by decide +kernel, rfl, by decide +kernel, by decide +kernel⟩
abbrev s_between : Stmt := topS 17
theorem sc_between : FnScope ["old", "new", "cuts", "puts", "path"] ["old", "new"] (defScope s_between) := ⟨rfl, rfl, rfl, by decide +kernel, rfl, by decide +kernel, by decide +kernel⟩
abbrev s_law_cell_at : Stmt := topS 19
theorem sc_law_cell_at : FnScope ["_law_script", "_law_k"] ["_law_script", "_law_k"] (defScope s_law_cell_at) := ⟨rfl, rfl, rfl, by decide +kernel, rfl, by decide +kernel, by decide +kernel⟩
abbrev s_law_sign_by : Stmt := topS 20
theorem sc_law_sign_by : FnScope ["_law_k"] ["_law_k"] (defScope s_law_sign_by) := ⟨rfl, rfl, rfl, by decide +kernel, rfl, by decide +kernel, by decide +kernel⟩
abbrev s_law_name_by : Stmt := topS 21
theorem sc_law_name_by : FnScope ["_law_k", "_law_shift", "_law_size", "_law_way", "_law_rest", "_law_at", "_law_told_here", "_law_name", "_law_j"] ["_law_k", "_law_shift"] (defScope s_law_name_by) := ⟨rfl, rfl, rfl, by decide +kernel, rfl, by decide +kernel, by decide +kernel⟩
abbrev s_law_path_by : Stmt := topS 22
theorem sc_law_path_by : FnScope ["_law_cell", "_law_shift", "_law_depth", "_law_parts", "_law_j"] ["_law_cell", "_law_shift"] (defScope s_law_path_by) := ⟨rfl, rfl, rfl, by decide +kernel, rfl, by decide +kernel, by decide +kernel⟩
abbrev s_law_line_by : Stmt := topS 23
theorem sc_law_line_by : FnScope ["_law_k", "_law_shift", "_law_some", "_law_size", "_law_j"] ["_law_k", "_law_shift"] (defScope s_law_line_by) := ⟨rfl, rfl, rfl, by decide +kernel, rfl, by decide +kernel, by decide +kernel⟩
abbrev s_law_is_free : Stmt := topS 24
theorem sc_law_is_free : FnScope ["_law_tree", "_law_path", "_law_other"] ["_law_tree", "_law_path"] (defScope s_law_is_free) := ⟨rfl, rfl, rfl, by decide +kernel, rfl, by decide +kernel, by decide +kernel⟩
abbrev s_law_grown : Stmt := topS 25
theorem sc_law_grown : FnScope ["_law_tree", "_law_cell", "_law_shift", "_law_made", "_law_path"] ["_law_tree", "_law_cell", "_law_shift"] (defScope s_law_grown) := ⟨rfl, rfl, rfl, by decide +kernel, rfl, by decide +kernel, by decide +kernel⟩
abbrev s_law_word_of : Stmt := topS 26
theorem sc_law_word_of : FnScope ["_law_tree", "_law_deeds", "_law_made", "_law_deed"] ["_law_tree", "_law_deeds"] (defScope s_law_word_of) := ⟨rfl, rfl, rfl, by decide +kernel, rfl, by decide +kernel, by decide +kernel⟩
abbrev s_law_is_deed : Stmt := topS 27
theorem sc_law_is_deed : FnScope ["_law_deed", "_law_part"] ["_law_deed"] (defScope s_law_is_deed) := ⟨rfl, rfl, rfl, by decide +kernel, rfl, by decide +kernel, by decide +kernel⟩
abbrev s_law_told : Stmt := topS 28
theorem sc_law_told : FnScope ["_law_tree", "_law_deeds", "e"] ["_law_tree", "_law_deeds"] (defScope s_law_told) := ⟨rfl, rfl, rfl, by decide +kernel, rfl, by decide +kernel, by decide +kernel⟩
abbrev s_law_trees : Stmt := topS 29
theorem sc_law_trees : FnScope ["_law_script", "_law_shift", "_law_old", "_law_k", "_law_j", "_law_new"] ["_law_script"] (defScope s_law_trees) := ⟨rfl, rfl, rfl, by decide +kernel, rfl, by decide +kernel, by decide +kernel⟩
abbrev s_law_odd_deed : Stmt := topS 30
theorem sc_law_odd_deed : FnScope ["_law_cell", "_law_new", "_law_paths", "_law_near", "_law_some"] ["_law_cell", "_law_new"] (defScope s_law_odd_deed) := ⟨rfl, rfl, rfl, by decide +kernel, rfl, by decide +kernel, by decide +kernel⟩
abbrev s_law : Stmt := topS 31
theorem sc_law : FnScope ["_law_script", "_law_kept", "_law_due", "_law_found", "_law_handed", "_law_made", "_law_same", "_law_at", "_law_to", "_law_ones", "_law_row", "_law_word", "_law_old", "_law_new", "_law_deed", "_law_path"] ["_law_script"] (defScope s_law) := ⟨rfl, rfl, rfl, by decide +kernel, rfl, by decide +kernel, by decide +kernel⟩
/-- what the top leaves of names that are not defs -/
structure Bt (mg : Str → Option Value) : Prop where
  z_all : mg "all" = none
  z_any : mg "any" = none
  z_dict : mg "dict" = none
  z_int : mg "int" = none
  z_isinstance : mg "isinstance" = none
  z_len : mg "len" = none
  z_list : mg "list" = none
  z_range : mg "range" = none
  z_sorted : mg "sorted" = none
  z_str : mg "str" = none
  z_tuple : mg "tuple" = none
  g_MOST_PARTS : ∃ t, mg "MOST_PARTS" = some (.int 8 t)
  g_MOST_SIGNS : ∃ t, mg "MOST_SIGNS" = some (.int 12 t)
  g_SIGNS : ∃ t, mg "SIGNS" = some (.str (Str.ofString "abcdefghijklmnopqrstuvwxyzABCDEFGHIJKLMNOPQRSTUVWXYZ0123456789.-_") t)
structure EG (mg : Str → Option Value) (Cs : Nat → Addr) : Prop where
  g0 : mg "RoadError" = some (.ref (Cs 0))
  g1 : mg "NoPath" = some (.ref (Cs 1))
  g2 : mg "NoFile" = some (.ref (Cs 2))
  g3 : mg "InTheWay" = some (.ref (Cs 3))
section
variable {P : Program} {w : World} {K : PySem.W.Frag} {mg : Str → Option Value} {base : Heap}
local macro_rules | `(tactic| walk_at "vside") => `(tactic| first | omega | assumption | exact of_notF (by assumption) | (simp only [List.length_cons, List.length_nil, List.length_map, List.length_range, List.length_append, List.length_set, decide_eq_true_eq, Bool.and_eq_true, Bool.or_eq_true, Bool.not_eq_true', decide_eq_false_iff_not] at *; omega))
def sp_is_part (K : PySem.W.Frag) : Sp := spP fun ws H v => ∃ (ptext : Tx), ws = [vs ptext] ∧ (ptext.length ≤ 30000) ∧ v = V.bl (m_is_part ptext)
theorem ok_is_part {f : Addr} {fd : FuncData} (F : Fun K "is_part" "is_part" s_is_part f fd) (z : Bt mg)  : FnOk P w K mg base CX0 1 f fd ["text"] (sp_is_part K) := by
  refine F.ok (k := 0) sc_is_part (fun ws H Q E h => ?_) (fun cdv A outer s H ws Q E hr h => ?_)
  · obtain ⟨_, ⟨_, rfl, _⟩, _⟩ := h
    rfl
  · obtain ⟨_, ⟨ptext, rfl, hpre, rfl⟩, k0⟩ := h
    obtain ⟨tk_MOST_PARTS, z_g_MOST_PARTS⟩ := z.g_MOST_PARTS
    obtain ⟨tk_MOST_SIGNS, z_g_MOST_SIGNS⟩ := z.g_MOST_SIGNS
    obtain ⟨tk_SIGNS, z_g_SIGNS⟩ := z.g_SIGNS
    have L_lDot := len_lDot
    have L_lDots := len_lDots
    have L_lSigns := len_lSigns
    refine ⟨_, (pss_cons (ps_if (pt_cmpR (op_inK K) (pv 0) (pe_tup (pa_cons pe_str (pa_cons pe_str pa_nil))) (by rfl)) (pss_one (ps_ret pe_bl)) pss_nil)
      (pss_one (ps_ret (pe_and (pe_chain op_le op_le pe_int (pe_callB call_lenT (by rfl) z.z_len PySem.boot_len (pa_cons (pv 0) pa_nil)) (pe_glob (v := .int 12) (by rfl) z_g_MOST_SIGNS ⟨_, rfl⟩)) (pe_one (pe_callB (cr_allK K rfl) (by rfl) z.z_all (by decide +kernel) (pa_cons (pe_lc (own := [("sign", 1)]) (g := gName 1) (tt := tYes) rfl sc_is_part.nd (pi_str (pv 0)) (blkOk_by (own := [("sign", 1)]) (N := ["text", "sign"]) (sc := defScope s_is_part) (by decide +kernel)) (fun _ _ _ _ _ => pg_name (i := 1) sc_is_part.nd rfl (Or.inl rfl)) (fun _ _ _ _ _ => pts_nil) (fun _ _ _ _ _ => (pe_cmpR op_inT (pv 1) (pe_glob (v := .str (Str.ofString "abcdefghijklmnopqrstuvwxyzABCDEFGHIJKLMNOPQRSTUVWXYZ0123456789.-_")) (by rfl) z_g_SIGNS ⟨_, rfl⟩) (by rfl)))) pa_nil))))))), ?_⟩
    refine q_when (b := (decide (ptext ∈ [lDot, lDots]))) (et_test (e_inU (l := [lDot, lDots]) (ev_var rfl) (eu_tup (ea_cons (ev_is (w := vs lDot) e_lit rfl) (ea_cons (ev_is (w := vs lDots) e_lit rfl) ea_nil)) (by simp)))) (fun hb1 H1 e1a => ?_) (fun hb1 H1 e1a => ?_)
    · have e1 := Ex.trans (Ex.refl H) e1a
      have r1 := rx_of e1
      have k1a := ret_T k0 hb1
      exact s_ret ev_c fun H2 e2a => (RetV.go k1a (Ex.trans e1 e2a))
    · have e1 := Ex.trans (Ex.refl H) e1a
      have r1 := rx_of e1
      have k2b := ret_F k0 hb1
      exact s_ret (ev_andV (e_chain ev_c (e_lenT (ev_var rfl) (by walk_at "vside")) ev_c (fun _ _ => rv_I0) (fun _ _ => rv_I0)) (fun hc => (e_all (l := (ptext.map (fun k0 : Nat => (decide (k0 ∈ lSigns))))) (l_mapS (f2 := V.bl) (fun k0 : Nat => (decide (k0 ∈ lSigns))) (ev_var rfl) (by walk_at "vside") (fun k0 hm => (e_inT (ev_var rfl) (ev_is (w := vs lSigns) e_lit rfl))))))) fun H3 e3a => (RetV.go k2b (Ex.trans e1 e3a))
def sp_is_path (K : PySem.W.Frag) : Sp := spP fun ws H v => ∃ (ptext : Tx), ws = [vs ptext] ∧ (ptext.length ≤ 900) ∧ v = V.bl (m_is_path ptext)
theorem ok_is_path {f : Addr} {fd : FuncData} (F : Fun K "is_path" "is_path" s_is_path f fd) (z : Bt mg) (C_is_part : Cal P w K mg base 1 "is_part" ["text"] (sp_is_part K)) : FnOk P w K mg base CX0 2 f fd ["text"] (sp_is_path K) := by
  refine F.ok (k := 1) sc_is_path (fun ws H Q E h => ?_) (fun cdv A outer s H ws Q E hr h => ?_)
  · obtain ⟨_, ⟨_, rfl, _⟩, _⟩ := h
    rfl
  · obtain ⟨_, ⟨ptext, rfl, hpre, rfl⟩, k0⟩ := h
    obtain ⟨tk_MOST_PARTS, z_g_MOST_PARTS⟩ := z.g_MOST_PARTS
    obtain ⟨tk_MOST_SIGNS, z_g_MOST_SIGNS⟩ := z.g_MOST_SIGNS
    obtain ⟨tk_SIGNS, z_g_SIGNS⟩ := z.g_SIGNS
    have L_lSl := len_lSl
    have hc1 := cuts_len 47 ptext
    refine ⟨_, (pss_cons (ps_set (i := 1) sc_is_path.nd rfl (Or.inl rfl) (pe_splitT (pv 0) pe_str))
      (pss_one (ps_ret (pe_and (pe_cmpR op_le (pe_callB (call_lenK K) (by rfl) z.z_len PySem.boot_len (pa_cons (pv 1) pa_nil)) (pe_glob (v := .int 8) (by rfl) z_g_MOST_PARTS ⟨_, rfl⟩) (nomark _)) (pe_one (pe_callB (cr_allK K rfl) (by rfl) z.z_all (by decide +kernel) (pa_cons (pe_lc (own := [("part", 2)]) (g := gName 2) (tt := tYes) rfl sc_is_path.nd (pi_listK K (pv 1)) (blkOk_by (own := [("part", 2)]) (N := ["text", "parts", "part"]) (sc := defScope s_is_path) (by decide +kernel)) (fun _ _ _ _ _ => pg_name (i := 2) sc_is_path.nd rfl (Or.inl rfl)) (fun _ _ _ _ _ => pts_nil) (fun _ _ _ _ _ => (pe_cal C_is_part (hr.mono (by decide)) (by rfl) (pa_cons (pv 2) pa_nil)))) pa_nil))))))), ?_⟩
    refine q_asgL (xs := List.map vs (m_is_path_v1 ptext)) (el_is (l_split (c := 47) (ev_var rfl) (ev_is (w := vs [47]) (ev_is (w := vs lSl) e_lit rfl) (by first | rfl | decide)) (by decide) (by walk_at "vside")) rfl) fun p1_arts H1 n1a e1a h1_arts => ?_
    have n1 := fresh_back (Ex.refl H) n1a
    have e1 := Ex.trans (Ex.refl H) e1a
    have r1 := rx_of e1
    have fm_is_path_v1 : List.length (m_is_path_v1 ptext) = List.length ((cuts 47 ptext)) := rfl
    exact s_ret (ev_andV (e_le (e_lenL (f := vs) (l := (m_is_path_v1 ptext)) (ev_var rfl) (sq_of h1_arts)) ev_c) (fun hc => (e_all (l := ((m_is_path_v1 ptext).map (fun k0 : Tx => (m_is_part k0)))) (l_mapL (f := vs) (f2 := V.bl) [] (fun k0 : Tx => (m_is_part k0)) (ev_var rfl) (sq_of h1_arts) (by walk_at "vside") (fun k0 hm => have := cuts_mem 47 hm; (ev_call (ea_cons (ev_var rfl) ea_nil) (sv_of fun HC eC => ⟨_, rfl, (by walk_at "vside"), rfl⟩))))))) fun H2 e2a => (RetV.go k0 (Ex.trans e1 e2a))
def sp_above (K : PySem.W.Frag) : Sp := spN fun ws H v => ∃ (ppath : Tx), ws = [vs ppath] ∧ (ppath.length ≤ 900) ∧ v = List.map vs (m_above ppath)
theorem ok_above {f : Addr} {fd : FuncData} (F : Fun K "above" "above" s_above f fd) (z : Bt mg)  : FnOk P w K mg base CX0 1 f fd ["path"] (sp_above K) := by
  refine F.ok (k := 0) sc_above (fun ws H Q E h => ?_) (fun cdv A outer s H ws Q E hr h => ?_)
  · obtain ⟨_, ⟨_, rfl, _⟩, _⟩ := h
    rfl
  · obtain ⟨_, ⟨ppath, rfl, hpre, rfl⟩, k0⟩ := h
    obtain ⟨tk_MOST_PARTS, z_g_MOST_PARTS⟩ := z.g_MOST_PARTS
    obtain ⟨tk_MOST_SIGNS, z_g_MOST_SIGNS⟩ := z.g_MOST_SIGNS
    obtain ⟨tk_SIGNS, z_g_SIGNS⟩ := z.g_SIGNS
    have L_lSl := len_lSl
    have hc1 := cuts_len 47 ppath
    refine ⟨_, (pss_cons (ps_set (i := 1) sc_above.nd rfl (Or.inr rfl) (pe_splitT (pv 0) pe_str))
      (pss_one (ps_ret (pe_lc (own := [("many", 2)]) (g := gName 2) (tt := tYes) rfl sc_above.nd (pi_range2 (by rfl) z.z_range (pa_cons pe_int (pa_cons (pe_callB (call_lenK K) (by rfl) z.z_len PySem.boot_len (pa_cons (pv 1) pa_nil)) pa_nil))) (blkOk_by (own := [("many", 2)]) (N := ["path", "parts", "many"]) (sc := defScope s_above) (by decide +kernel)) (fun _ _ _ _ _ => pg_name (i := 2) sc_above.nd rfl (Or.inl rfl)) (fun _ _ _ _ _ => pts_nil) (fun _ _ _ _ _ => (pe_joinK K pe_str (pe_slice (sl_listK K) (pv 1) po_none (po_some (pv 2))))))))), ?_⟩
    refine q_asgL (xs := List.map vs (m_above_v1 ppath)) (el_is (l_split (c := 47) (ev_var rfl) (ev_is (w := vs [47]) (ev_is (w := vs lSl) e_lit rfl) (by first | rfl | decide)) (by decide) (by walk_at "vside")) rfl) fun p1_arts H1 n1a e1a h1_arts => ?_
    have n1 := fresh_back (Ex.refl H) n1a
    have e1 := Ex.trans (Ex.refl H) e1a
    have r1 := rx_of e1
    have fm_above_v1 : List.length (m_above_v1 ppath) = List.length ((cuts 47 ppath)) := rfl
    exact s_retL (l_mapR2 (f := vs) (fun k0 : Nat => (joinL lSl (cutG (m_above_v1 ppath) none (some ((1 : Int) + (k0 : Int)))))) (ea_cons ev_c (ea_cons (e_lenL (f := vs) (l := (m_above_v1 ppath)) (ev_var rfl) (sq_of h1_arts)) ea_nil)) (by walk_at "vside") (fun k0 hk => have := cut_sum (m_above_v1 ppath) none (some ((1 : Int) + (k0 : Int))); have := cut_len (m_above_v1 ppath) none (some ((1 : Int) + (k0 : Int))); have := above_sum ppath; (e_joinN (l := (cutG (m_above_v1 ppath) none (some ((1 : Int) + (k0 : Int))))) (ev_is (w := vs lSl) e_lit rfl) (l_slR (f := vs) (l := (m_above_v1 ppath)) (ev_var rfl) (sq_of h1_arts) eo_none (eo_some (ev_var rfl))) (by walk_at "vside")))) fun pR H2 nR e2a hR => RetL.go k0 e1 nR e2a hR
def sp_is_beneath (K : PySem.W.Frag) : Sp := spP fun ws H v => ∃ (ppath : Tx) (pupper : Tx), ws = [vs ppath, vs pupper] ∧ (pupper.length ≤ 900) ∧ v = V.bl (m_is_beneath ppath pupper)
theorem ok_is_beneath {f : Addr} {fd : FuncData} (F : Fun K "is_beneath" "is_beneath" s_is_beneath f fd) (z : Bt mg)  : FnOk P w K mg base CX0 1 f fd ["path", "upper"] (sp_is_beneath K) := by
  refine F.ok (k := 0) sc_is_beneath (fun ws H Q E h => ?_) (fun cdv A outer s H ws Q E hr h => ?_)
  · obtain ⟨_, ⟨_, _, rfl, _⟩, _⟩ := h
    rfl
  · obtain ⟨_, ⟨ppath, pupper, rfl, hpre, rfl⟩, k0⟩ := h
    obtain ⟨tk_MOST_PARTS, z_g_MOST_PARTS⟩ := z.g_MOST_PARTS
    obtain ⟨tk_MOST_SIGNS, z_g_MOST_SIGNS⟩ := z.g_MOST_SIGNS
    obtain ⟨tk_SIGNS, z_g_SIGNS⟩ := z.g_SIGNS
    have L_lSl := len_lSl
    refine ⟨_, (pss_one (ps_ret (pe_startsT (pv 0) (pe_op op_addT (pv 1) pe_str)))), ?_⟩
    exact s_ret (e_starts (ev_var rfl) (e_addT (ev_var rfl) (ev_is (w := vs lSl) e_lit rfl) (by walk_at "vside"))) fun H1 e1a => (RetV.go k0 (Ex.trans (Ex.refl H) e1a))
def sp_is_blocked (K : PySem.W.Frag) : Sp := spP fun ws H v => ∃ (aptree : Addr) (ptree : List (Tx × Tx)) (ppath : Tx), ws = [.ref aptree, vs ppath] ∧ Rd H aptree (.dK (kd vs ptree)) ∧ (ppath.length ≤ 900 ∧ ptree.length ≤ 1000 ∧ ∀ k ∈ dkeys ptree, k.length ≤ 900) ∧ v = V.bl (m_is_blocked ptree ppath)
theorem ok_is_blocked {f : Addr} {fd : FuncData} (F : Fun K "is_blocked" "is_blocked" s_is_blocked f fd) (z : Bt mg) (C_above : Cal P w K mg base 1 "above" ["path"] (sp_above K)) (C_is_beneath : Cal P w K mg base 1 "is_beneath" ["path", "upper"] (sp_is_beneath K)) : FnOk P w K mg base CX0 2 f fd ["tree", "path"] (sp_is_blocked K) := by
  refine F.ok (k := 1) sc_is_blocked (fun ws H Q E h => ?_) (fun cdv A outer s H ws Q E hr h => ?_)
  · obtain ⟨_, ⟨_, _, _, rfl, _⟩, _⟩ := h
    rfl
  · obtain ⟨_, ⟨aptree, ptree, ppath, rfl, hSptree, hpre, rfl⟩, k0⟩ := h
    obtain ⟨tk_MOST_PARTS, z_g_MOST_PARTS⟩ := z.g_MOST_PARTS
    obtain ⟨tk_MOST_SIGNS, z_g_MOST_SIGNS⟩ := z.g_MOST_SIGNS
    obtain ⟨tk_SIGNS, z_g_SIGNS⟩ := z.g_SIGNS
    have hp1 := hpre.1
    have hp2 := hpre.2.1
    have hpc := above_cnt ppath
    refine ⟨_, (pss_cons (ps_if (pt_val (pe_callB (cr_anyK K rfl) (by rfl) z.z_any (by decide +kernel) (pa_cons (pe_lc (own := [("upper", 3)]) (g := gName 3) (tt := tYes) rfl sc_is_blocked.nd (pi_listK K (pe_cal C_above (hr.mono (by decide)) (by rfl) (pa_cons (pv 1) pa_nil))) (blkOk_by (own := [("upper", 3)]) (N := ["tree", "path", "name", "upper"]) (sc := defScope s_is_blocked) (by decide +kernel)) (fun _ _ _ _ _ => pg_name (i := 3) sc_is_blocked.nd rfl (Or.inl rfl)) (fun _ _ _ _ _ => pts_nil) (fun _ _ _ _ _ => (pe_cmp (pc_din (hu_of hr) (pv 3) (pv 0)) rfl))) pa_nil))) (pss_one (ps_ret pe_bl)) pss_nil)
      (pss_one (ps_ret (pe_callB (cr_anyK K rfl) (by rfl) z.z_any (by decide +kernel) (pa_cons (pe_may (pe_lc (own := [("name", 2)]) (g := gName 2) (tt := tYes) rfl sc_is_blocked.nd (pi_keys (pv 0)) (blkOk_by (own := [("name", 2)]) (N := ["tree", "path", "name", "upper"]) (sc := defScope s_is_blocked) (by decide +kernel)) (fun _ _ _ _ _ => pg_name (i := 2) sc_is_blocked.nd rfl (Or.inl rfl)) (fun _ _ _ _ _ => pts_nil) (fun _ _ _ _ _ => (pe_cal C_is_beneath (hr.mono (by decide)) (by rfl) (pa_cons (pv 2) (pa_cons (pv 1) pa_nil)))))) pa_nil))))), ?_⟩
    refine q_when (b := (((m_above ppath).map (fun k0 : Tx => (dhas ptree k0))).any id)) (et_B (e_any (m := ((m_above ppath).map (fun k0 : Tx => (dhas ptree k0)))) (l_mapN (K := K) (f := vs) (m := (m_above ppath)) (f2 := V.bl) (fun k0 : Tx => (dhas ptree k0)) [] (el_call (ea_cons (ev_var rfl) ea_nil) (sl_of fun HC eC => ⟨_, rfl, (by walk_at "vside"), rfl⟩)) (by walk_at "vside") (fun k0 hm => (e_inD (f := vs) (l := ptree) (k := k0) (ev_var rfl) (ev_var rfl) ((RX.refl H) _ _ hSptree)))))) (fun hb1 H1 e1a => ?_) (fun hb1 H1 e1a => ?_)
    · have e1 := Ex.trans (Ex.refl H) e1a
      have r1 := rx_of e1
      have k1a := ret_T k0 hb1
      exact s_ret ev_c fun H2 e2a => (RetV.go k1a (Ex.trans e1 e2a))
    · have e1 := Ex.trans (Ex.refl H) e1a
      have r1 := rx_of e1
      have k2b := ret_F k0 hb1
      exact s_ret (e_any (m := ((dkeys ptree).map (fun k0 : Tx => (m_is_beneath k0 ppath)))) (l_mapK (f := vs) (l := ptree) (f2 := V.bl) (fun k0 : Tx => (m_is_beneath k0 ppath)) rfl (r1 _ _ hSptree) (by walk_at "vside") (fun k0 hm HLk0 lkk0 => have gk := hpre.2.2 k0 hm; (ev_call (ea_cons (ev_var rfl) (ea_cons (ev_var rfl) ea_nil)) (sv_of fun HC eC => ⟨_, _, rfl, (by walk_at "vside"), rfl⟩))))) fun H3 e3a => (RetV.go k2b (Ex.trans e1 e3a))
def rp_done : List (Tx × Tx) → Hp → VK → Prop := fun a H Q => RetK (kd vs a) H Q
def R_done (K : PySem.W.Frag) : List V → Hp → Res (List (Tx × Tx)) → Prop := fun ws H r => ∃ (aptree : Addr) (ptree : List (Tx × Tx)) (apdeed : Addr) (pdeed : List Tx), ws = [.ref aptree, .ref apdeed] ∧ Rd H aptree (.dK (kd vs ptree)) ∧ SqT K H apdeed (List.map vs pdeed) ∧ (okDeed pdeed ∧ Good ptree ∧ ptree.length ≤ 1000) ∧ r = (m_done ptree pdeed)
def sp_done (K : PySem.W.Frag) (Cs : Nat → Addr) : Sp := spX Cs rp_done (R_done K)
theorem ok_done {f : Addr} {fd : FuncData} {Cs : Nat → Addr} (G : EG mg Cs) (F : Fun K "done" "done" s_done f fd) (z : Bt mg) (C_is_path : Cal P w K mg base 2 "is_path" ["text"] (sp_is_path K)) (C_is_blocked : Cal P w K mg base 2 "is_blocked" ["tree", "path"] (sp_is_blocked K)) (R1 : ErrR K Cs 1) (R2 : ErrR K Cs 2) (R3 : ErrR K Cs 3) : FnOk P w K mg base (L2N.CX P w) 3 f fd ["tree", "deed"] (sp_done K Cs) := by
  refine okN F (k := 2) sc_done (fun ws H Q E h => ?_) (fun cdv A outer s H ws Q E hr h => ?_)
  · obtain ⟨_, ⟨_, _, _, _, rfl, _⟩, _⟩ := h
    rfl
  · obtain ⟨_, ⟨aptree, ptree, apdeed, pdeed, rfl, hSptree, hSpdeed, hpre, rfl⟩, k0⟩ := h
    obtain ⟨tk_MOST_PARTS, z_g_MOST_PARTS⟩ := z.g_MOST_PARTS
    obtain ⟨tk_MOST_SIGNS, z_g_MOST_SIGNS⟩ := z.g_MOST_SIGNS
    obtain ⟨tk_SIGNS, z_g_SIGNS⟩ := z.g_SIGNS
    have L_lCut := len_lCut
    have hd := hpre.1
    have hg := hpre.2.1
    have hl := hpre.2.2
    have hd2 := deed_two hd
    refine ⟨_, (pss_cons (ps_set (i := 2) sc_done.nd rfl (Or.inl rfl) (pe_ix (ix_tupK K) (pv 1) pe_int (fun _ _ => rfl)))
      (pss_cons (ps_if (pt_not (pt_val (pe_cal C_is_path (hr.mono (by decide)) (by rfl) (pa_cons (pv 2) pa_nil)))) (pss_one (L2N.ps_raise rfl (L2N.takes_of rfl rfl rfl rfl) (pmk_any PySem.F.excBase_ValueError R1.x G.g1 R1.kp (raises_own R1.b R1.t) (by exact rfl) (pe_joined (PJ.cons pe_str (PJ.cons (pe_fmt (pv 2)) PJ.nil)))))) pss_nil)
      (pss_cons (ps_set (i := 3) sc_done.nd rfl (Or.inl rfl) (pe_callTy call_dictD (by rfl) z.z_dict (by decide +kernel) (pa_cons (pv 0) pa_nil)))
      (pss_cons (ps_if (pt_cmpR op_eq (pe_ix (ix_tupK K) (pv 1) pe_int (fun _ _ => rfl)) pe_str (nomark _)) (pss_cons (ps_if (pt_cmp (pc_dnotin (hu_of hr) (pv 2) (pv 3))) (pss_one (L2N.ps_raise rfl (L2N.takes_of rfl rfl rfl rfl) (pmk_any PySem.F.excBase_ValueError R2.x G.g2 R2.kp (raises_own R2.b R2.t) (by exact rfl) (pe_joined (PJ.cons pe_str (PJ.cons (pe_fmt (pv 2)) PJ.nil)))))) pss_nil)
      (pss_one (ps_ddel (pv 3) (pv 2)))) (pss_cons (ps_if (pt_val (pe_cal C_is_blocked (hr.mono (by decide)) (by rfl) (pa_cons (pv 0) (pa_cons (pv 2) pa_nil)))) (pss_one (L2N.ps_raise rfl (L2N.takes_of rfl rfl rfl rfl) (pmk_any PySem.F.excBase_ValueError R3.x G.g3 R3.kp (raises_own R3.b R3.t) (by exact rfl) (pe_joined (PJ.cons pe_str (PJ.cons (pe_fmt (pv 2)) PJ.nil)))))) pss_nil)
      (pss_one (ps_dput (hu_of hr) (pv 3) (pv 2) (pe_ix (ix_tupK K) (pv 1) pe_int (fun _ _ => rfl)) rfl))))
      (pss_one (ps_ret (pv 3))))))), ?_⟩
    refine q_asg (v := vs (m_done_v1 pdeed)) (ev_is (e_ixU (f := vs) (l := pdeed) [] (ev_var rfl) (rx_t (RX.refl H) hSpdeed) ev_c (by walk_at "vside")) rfl) fun H1 e1a => ?_
    have e1 := Ex.trans (Ex.refl H) e1a
    have r1 := rx_of e1
    have fm_done_v1 : List.length (m_done_v1 pdeed) = List.length ((pdeed.getD (1 : Int).toNat [])) := rfl
    have g1 := deed_path hd
    have gw : (m_done_v1 pdeed).length ≤ 900 ∧ ptree.length ≤ 1000 ∧ ∀ k ∈ dkeys ptree, k.length ≤ 900 := ⟨g1, hl, hg.le9⟩
    refine q_when (b := (!(m_is_path (m_done_v1 pdeed)))) (et_not (et_B (ev_call (ea_cons (ev_var rfl) ea_nil) (sv_of fun HC eC => ⟨_, rfl, (by walk_at "vside"), rfl⟩)))) (fun hb2 H2 e2a => ?_) (fun hb2 H2 e2a => ?_)
    · have e2 := Ex.trans e1 e2a
      have r2 := rx_of e2
      have k1a := retX_T k0 hb2
      exact x_msg (s := "no path: ") (p := (m_done_v1 pdeed)) (ev_var rfl) (by rw [show (tx "no path: ").length = 9 by decide +kernel]; walk_at "vside") fun HX eX => PX.exc k1a (Ex.trans e2 eX)
    · have e2 := Ex.trans e1 e2a
      have r2 := rx_of e2
      have k2b := retX_F k0 hb2
      refine q_asgK (kvs := kd vs (m_done_v2 ptree)) (ek_is (k_copy (f := vs) (l := ptree) (ev_var rfl) (r2 _ _ hSptree)) rfl) fun p3_iles H3 n3a e3a h3_iles => ?_
      have n3 := fresh_back e2 n3a
      have e3 := Ex.trans e2 e3a
      have r3 := rx_of e3
      have g2 : (m_done_v2 ptree).length = ptree.length := rfl
      refine q_if (b := (decide ((pdeed.getD (0 : Int).toNat []) = lCut))) (et_test (e_eqT (e_ixU (f := vs) (l := pdeed) [] (ev_var rfl) (rx_t r3 hSpdeed) ev_c (by walk_at "vside")) (ev_is (w := vs lCut) e_lit rfl))) (fun hb4 H4 e4a => ?_) (fun hb4 H4 e4a => ?_)
      · have e4 := Ex.trans e3 e4a
        have r4 := rx_of e4
        have h3_iles := e4a _ _ h3_iles
        have k3a := retX_T k2b hb4
        refine q_when (b := (!dhas (m_done_v2 ptree) (m_done_v1 pdeed))) (et_B (e_niD (f := vs) (l := (m_done_v2 ptree)) (k := (m_done_v1 pdeed)) (ev_var rfl) (ev_var rfl) (Or.inl h3_iles))) (fun hb5 H5 e5a => ?_) (fun hb5 H5 e5a => ?_)
        · have e5 := Ex.trans e4 e5a
          have r5 := rx_of e5
          have h3_iles := e5a _ _ h3_iles
          have k4a := retX_T k3a hb5
          exact x_msg (s := "no file: ") (p := (m_done_v1 pdeed)) (ev_var rfl) (by rw [show (tx "no file: ").length = 9 by decide +kernel]; walk_at "vside") fun HX eX => PX.exc k4a (Ex.trans e5 eX)
        · have e5 := Ex.trans e4 e5a
          have r5 := rx_of e5
          have h3_iles := e5a _ _ h3_iles
          have gin := has_of_not hb5
          have k5b := retX_F k3a hb5
          refine s_delD (f := vs) (l := (m_done_v2 ptree)) (k := (m_done_v1 pdeed)) (ev_var rfl) (ev_var rfl) h3_iles (by walk_at "vside") fun H6 m6 => ?_
          have e6 := Mu.ex m6 e5 n3
          have r6 := rx_of e6
          have h3_iles : H6 p3_iles = some (.dK (kd vs (m_done_v3 ptree pdeed))) := Mu.at m6
          exact s_ret (ev_var rfl) fun H7 e7a => (PX.ret k5b) _ _ n3 (Ex.trans e6 e7a) (e7a _ _ h3_iles)
      · have e4 := Ex.trans e3 e4a
        have r4 := rx_of e4
        have h3_iles := e4a _ _ h3_iles
        have g3 := deed_three hd hb4
        have k6b := retX_F k2b hb4
        refine q_when (b := (m_is_blocked ptree (m_done_v1 pdeed))) (et_B (ev_call (ea_cons (ev_var rfl) (ea_cons (ev_var rfl) ea_nil)) (sv_of fun HC eC => ⟨_, _, _, rfl, ex_rd eC (r4 _ _ hSptree), (by walk_at "vside"), rfl⟩))) (fun hb8 H8 e8a => ?_) (fun hb8 H8 e8a => ?_)
        · have e8 := Ex.trans e4 e8a
          have r8 := rx_of e8
          have h3_iles := e8a _ _ h3_iles
          have k7a := retX_T k6b hb8
          exact x_msg (s := "a file is in the way of ") (p := (m_done_v1 pdeed)) (ev_var rfl) (by rw [show (tx "a file is in the way of ").length = 24 by decide +kernel]; walk_at "vside") fun HX eX => PX.exc k7a (Ex.trans e8 eX)
        · have e8 := Ex.trans e4 e8a
          have r8 := rx_of e8
          have h3_iles := e8a _ _ h3_iles
          have k8b := retX_F k6b hb8
          refine s_putD (f := vs) (l := (m_done_v2 ptree)) (k := (m_done_v1 pdeed)) (v := (pdeed.getD (2 : Int).toNat [])) (e_ixU (f := vs) (l := pdeed) [] (ev_var rfl) (rx_t r8 hSpdeed) ev_c (by walk_at "vside")) (ev_var rfl) (ev_var rfl) h3_iles (by walk_at "vside") fun H9 m9 => ?_
          have e9 := Mu.ex m9 e8 n3
          have r9 := rx_of e9
          have h3_iles : H9 p3_iles = some (.dK (kd vs (m_done_v4 ptree pdeed))) := Mu.at m9
          exact s_ret (ev_var rfl) fun H10 e10a => (PX.ret k8b) _ _ n3 (Ex.trans e9 e10a) (e10a _ _ h3_iles)
def rp_changed : List (Tx × Tx) → Hp → VK → Prop := fun a H Q => RetK (kd vs a) H Q
def R_changed (K : PySem.W.Frag) : List V → Hp → Res (List (Tx × Tx)) → Prop := fun ws H r => ∃ (aptree : Addr) (ptree : List (Tx × Tx)) (apdeeds : Addr) (pdeeds : List (List Tx)), ws = [.ref aptree, .ref apdeeds] ∧ Rd H aptree (.dK (kd vs ptree)) ∧ IsLUr K H apdeeds (List.map (List.map vs) pdeeds) ∧ (okRow pdeeds ∧ Good ptree ∧ ptree.length + pdeeds.length ≤ 1000) ∧ r = (m_changed ptree pdeeds)
def sp_changed (K : PySem.W.Frag) (Cs : Nat → Addr) : Sp := spX Cs rp_changed (R_changed K)
theorem ok_changed {f : Addr} {fd : FuncData} {Cs : Nat → Addr} (G : EG mg Cs) (F : Fun K "changed" "changed" s_changed f fd) (z : Bt mg) (C_done : CalX P w K mg base 3 "done" ["tree", "deed"] (sp_done K Cs)) : FnOk P w K mg base (L2N.CX P w) 4 f fd ["tree", "deeds"] (sp_changed K Cs) := by
  refine okN F (k := 3) sc_changed (fun ws H Q E h => ?_) (fun cdv A outer s H ws Q E hr h => ?_)
  · obtain ⟨_, ⟨_, _, _, _, rfl, _⟩, _⟩ := h
    rfl
  · obtain ⟨_, ⟨aptree, ptree, apdeeds, pdeeds, rfl, hSptree, hSpdeeds, hpre, rfl⟩, k0⟩ := h
    obtain ⟨tk_MOST_PARTS, z_g_MOST_PARTS⟩ := z.g_MOST_PARTS
    obtain ⟨tk_MOST_SIGNS, z_g_MOST_SIGNS⟩ := z.g_MOST_SIGNS
    obtain ⟨tk_SIGNS, z_g_SIGNS⟩ := z.g_SIGNS
    have hp1 := hpre.1
    have hp2 := hpre.2.1
    have hp3 := hpre.2.2
    refine ⟨_, (pss_cons (ps_set (i := 2) sc_changed.nd rfl (Or.inl rfl) (pe_callTy call_dictD (by rfl) z.z_dict (by decide +kernel) (pa_cons (pv 0) pa_nil)))
      (pss_cons (ps_for PassesOwn.leaving rfl (pi_listK K (pv 1)) (pg_name (i := 3) sc_changed.nd rfl (Or.inl rfl))
      (pss_one (ps_set (i := 2) sc_changed.nd rfl (Or.inl rfl) (pe_calX C_done (L2N.takes_of rfl rfl rfl rfl) (hr.mono (by decide)) (by rfl) (pa_cons (pv 2) (pa_cons (pv 3) pa_nil))))))
      (pss_one (ps_ret (pv 2))))), ?_⟩
    refine q_asgK (kvs := kd vs (m_changed_v1 ptree)) (ek_is (k_copy (f := vs) (l := ptree) (ev_var rfl) ((RX.refl H) _ _ hSptree)) rfl) fun p1_iles H1 n1a e1a h1_iles => ?_
    have n1 := fresh_back (Ex.refl H) n1a
    have e1 := Ex.trans (Ex.refl H) e1a
    have r1 := rx_of e1
    refine q_loopU (K := K) (R := (Res (List (Tx × Tx)))) (l := pdeeds) m_changed_step1 (m_changed_v1 ptree) (fun tsU => (fun (s1 : List (Tx × Tx)) (σ1 : L2.St) (H1L : Hp) => ∃ (j1_0 : Option V) (pM1_iles : Addr), σ1 = [some (.ref aptree), some (.ref apdeeds), some (.ref pM1_iles), j1_0] ∧ Ex H H1L ∧ RX H H1L ∧ H1L pM1_iles = some (.dK (kd vs s1)) ∧ H pM1_iles = none)) (ev_var rfl) hSpdeeds r1 (fun tsU H3 e3a hA hB => ⟨_, _, rfl, (Ex.trans e1 e3a), (rx_of (Ex.trans e1 e3a)), e3a _ _ h1_iles, n1⟩) (fun tsU s σ HQ hA hB hq => by obtain ⟨j1_0, pM1_iles, rfl, e1L, r1L, hM1_iles, nM1_iles⟩ := hq; exact ⟨rx_l r1L hA, tups_mono (fun _ _ => rx_t r1L) hB⟩) (fun tsU => ?_) (fun tsU => ?_)
    · intro Nx1 Bk1 i1 s1 y1 a1U σ1 H1L hy1 hrun1 hq1 ha1U hnx1 hbk1 hrt1
      obtain ⟨j1_0, pM1_iles, rfl, e1L, r1L, hM1_iles, nM1_iles⟩ := hq1
      have hm1 := List.mem_of_getElem? hy1
      have hlt1 := (List.getElem?_eq_some_iff.mp hy1).1
      have g1 := changed_loop hpre hrun1 hy1
      have kq1_0 : m_changed_step1 s1 y1 = (resM (m_done s1 y1) (fun lT2 => (Stp.go lT2)) (fun kT2 => (Stp.ret (.exc kT2)))) := rfl
      refine s_asgX (r := (m_done s1 y1)) (ea_cons (ev_var rfl) (ea_cons (ev_var rfl) ea_nil)) (fun HC eC => ⟨_, _, _, _, rfl, ex_rd eC (Or.inl hM1_iles), ex_t eC ha1U, (by walk_at "vside"), rfl⟩) (fun lT2 hT2 H2b e2b => fun p2_iles H2 n2a e2a h2_iles => ?_) (fun kT2 hT2 H2 e2a => ?_)
      · have n2a := fresh_back e2b n2a
        have e2a := Ex.trans e2b e2a
        have n2 := fresh_back e1L n2a
        have e2 := Ex.trans e1L e2a
        have r2 := rx_of e2
        have ha1U := ex_t e2a ha1U
        have kq1_1 := kq_ok kq1_0 hT2
        exact hnx1 lT2 _ _ kq1_1 ⟨_, _, rfl, e2, r2, h2_iles, n2⟩
      · have kq1_2 := kq_exc kq1_0 hT2
        have kr1 := hrt1 _ kq1_2
        exact PX.exc (retX_run k0 kr1) (Ex.trans e1L e2a)
    · intro s1 σ1 H1L hr1 hq1
      obtain ⟨j1_0, pM1_iles, rfl, e1L, r1L, hM1_iles, nM1_iles⟩ := hq1
      have k2r := retX_go k0 hr1
      exact s_ret (ev_var rfl) fun H5 e5a => (PX.ret k2r) _ _ nM1_iles (Ex.trans e1L e5a) (e5a _ _ hM1_iles)
def sp_between (K : PySem.W.Frag) : Sp := spU2 K fun ws H v => ∃ (apold : Addr) (pold : List (Tx × Tx)) (apnew : Addr) (pnew : List (Tx × Tx)), ws = [.ref apold, .ref apnew] ∧ Rd H apold (.dK (kd vs pold)) ∧ Rd H apnew (.dK (kd vs pnew)) ∧ (Good pold ∧ Good pnew ∧ pold.length ≤ 1000 ∧ pnew.length ≤ 1000) ∧ v = List.map (List.map vs) (m_between pold pnew)
theorem ok_between {f : Addr} {fd : FuncData} (F : Fun K "between" "between" s_between f fd) (z : Bt mg)  : FnOk P w K mg base CX0 1 f fd ["old", "new"] (sp_between K) := by
  refine F.ok (k := 0) sc_between (fun ws H Q E h => ?_) (fun cdv A outer s H ws Q E hr h => ?_)
  · obtain ⟨_, ⟨_, _, _, _, rfl, _⟩, _⟩ := h
    rfl
  · obtain ⟨_, ⟨apold, pold, apnew, pnew, rfl, hSpold, hSpnew, hpre, rfl⟩, k0⟩ := h
    obtain ⟨tk_MOST_PARTS, z_g_MOST_PARTS⟩ := z.g_MOST_PARTS
    obtain ⟨tk_MOST_SIGNS, z_g_MOST_SIGNS⟩ := z.g_MOST_SIGNS
    obtain ⟨tk_SIGNS, z_g_SIGNS⟩ := z.g_SIGNS
    have L_lCut := len_lCut
    have L_lPut := len_lPut
    have hp1 := hpre.2.2.1
    have hp2 := hpre.2.2.2
    have hs1 := srt_keys_len pold
    have hs2 := srt_keys_len pnew
    refine ⟨_, (pss_cons (ps_setLc (i := 2) (own := [("path", 4)]) (g := gName 4) rfl sc_between.nd rfl rfl (sw_true rfl rfl rfl (by decide +kernel)) (pi_listK K (pe_callB (call_srtD rfl) (by rfl) z.z_sorted (by decide +kernel) (pa_cons (pv 0) pa_nil))) (blkOk_by (own := [("path", 4)]) (N := ["old", "new", "cuts", "puts", "path"]) (sc := defScope s_between) (by decide +kernel)) (fun _ _ _ _ _ => pg_name (i := 4) sc_between.nd rfl (Or.inl rfl)) (fun _ _ _ _ _ => pts_one (pt_cmp (pc_dnotin (hu_of hr) (pv 4) (pv 1)))) (fun _ _ _ _ _ => (pe_tup (pa_cons pe_str (pa_cons (pv 4) pa_nil)))))
      (pss_cons (ps_setLc (i := 3) (own := [("path", 4)]) (g := gName 4) rfl sc_between.nd rfl rfl (sw_true rfl rfl rfl (by decide +kernel)) (pi_listK K (pe_callB (call_srtD rfl) (by rfl) z.z_sorted (by decide +kernel) (pa_cons (pv 1) pa_nil))) (blkOk_by (own := [("path", 4)]) (N := ["old", "new", "cuts", "puts", "path"]) (sc := defScope s_between) (by decide +kernel)) (fun _ _ _ _ _ => pg_name (i := 4) sc_between.nd rfl (Or.inl rfl)) (fun _ _ _ _ _ => pts_one (pt_cmpR op_ne (pe_dget1 (hu_of hr) (pv 0) (pv 4) ⟨rfl, rfl, rfl, rfl⟩) (pe_dget (hu_of hr) (pv 1) (pv 4) (fun _ _ => rfl)) (nomark _))) (fun _ _ _ _ _ => (pe_tup (pa_cons pe_str (pa_cons (pv 4) (pa_cons (pe_dget (hu_of hr) (pv 1) (pv 4) (fun _ _ => rfl)) pa_nil))))))
      (pss_one (ps_ret (pe_op op_cat (pv 2) (pv 3)))))), ?_⟩
    refine q_asgU2 (K := K) (l := (List.map (List.map vs) (m_between_v1 pold pnew))) (eu2_is (eu2_is (u_filN (f := vs) (m := (srt (dkeys pold))) (fun k0 : Tx => (!dhas pnew k0)) (fun k0 => List.map vs [lCut, k0]) [] (l_srtD (f := vs) (l := pold) (ev_var rfl) ((RX.refl H) _ _ hSpold) (by walk_at "vside")) (by walk_at "vside") (fun k0 hm => (et_B (e_niD (f := vs) (l := pnew) (k := k0) (ev_var rfl) (ev_var rfl) ((RX.refl H) _ _ hSpnew)))) (fun k0 hm hc => (eu_tup (ea_cons (ev_is (w := vs lCut) e_lit rfl) (ea_cons (ev_var rfl) ea_nil)) (by simp)))) (map_map2 (List.map vs) (fun k0 : Tx => [lCut, k0]) _)) rfl) fun p1_uts H1 n1a e1a h1_uts => ?_
    have n1 := fresh_back (Ex.refl H) n1a
    have e1 := Ex.trans (Ex.refl H) e1a
    have r1 := rx_of e1
    have fm_between_v1 : List.length (m_between_v1 pold pnew) = List.length ((((srt (dkeys pold)).filter (fun k0 : Tx => (!dhas pnew k0))).map (fun k0 : Tx => [lCut, k0]))) := rfl
    have g1 := between_v1 pold pnew
    refine q_asgU2 (K := K) (l := (List.map (List.map vs) (m_between_v2 pnew pold))) (eu2_is (eu2_is (u_filN (f := vs) (m := (srt (dkeys pnew))) (fun k0 : Tx => (!decide ((dget pold k0) = some ((dget pnew k0).getD [])))) (fun k0 => List.map vs [lPut, k0, ((dget pnew k0).getD [])]) [] (l_srtD (f := vs) (l := pnew) (ev_var rfl) (r1 _ _ hSpnew) (by walk_at "vside")) (by walk_at "vside") (fun k0 hm => have gk := has_srt hm; (et_test (e_neOT (x := (dget pold k0)) (y := ((dget pnew k0).getD [])) (e_get1 (l := pold) (k := k0) (ev_var rfl) (ev_var rfl) (r1 _ _ hSpold)) (e_getD (f := vs) (l := pnew) (k := k0) [] (ev_var rfl) (ev_var rfl) (r1 _ _ hSpnew) (by walk_at "vside"))))) (fun k0 hm hc => have gk := has_srt hm; (eu_tup (ea_cons (ev_is (w := vs lPut) e_lit rfl) (ea_cons (ev_var rfl) (ea_cons (e_getD (f := vs) (l := pnew) (k := k0) [] (ev_var rfl) (ev_var rfl) (r1 _ _ hSpnew) (by walk_at "vside")) ea_nil))) (by simp)))) (map_map2 (List.map vs) (fun k0 : Tx => [lPut, k0, ((dget pnew k0).getD [])]) _)) rfl) fun p2_uts H2 n2a e2a h2_uts => ?_
    have n2 := fresh_back e1 n2a
    have d_p1_uts_p2_uts := IsLU.ne h1_uts n2a
    have e2 := Ex.trans e1 e2a
    have r2 := rx_of e2
    have h1_uts := IsLU.ex h1_uts e2a
    have fm_between_v2 : List.length (m_between_v2 pnew pold) = List.length ((((srt (dkeys pnew)).filter (fun k0 : Tx => (!decide ((dget pold k0) = some ((dget pnew k0).getD []))))).map (fun k0 : Tx => [lPut, k0, ((dget pnew k0).getD [])]))) := rfl
    have g2 := between_v2 pold pnew
    exact s_retU2 (eu2_is (u2_catRR (l := (List.map (List.map vs) (m_between_v1 pold pnew))) (m := (List.map (List.map vs) (m_between_v2 pnew pold))) (ev_var rfl) h1_uts (ev_var rfl) h2_uts (by simp only [List.length_map]; walk_at "vside")) List.map_append.symm) fun pR H3 nR e3a hR => RetU2.go k0 e2 nR e3a hR
def sp_law_cell_at (K : PySem.W.Frag) : Sp := spP fun ws H v => ∃ (ap_script : Addr) (p_script : List Int) (p_k : Int), ws = [.ref ap_script, V.int p_k] ∧ SqL K H ap_script (List.map V.int p_script) ∧ (0 ≤ p_k) ∧ v = V.int (m_law_cell_at p_script p_k)
theorem ok_law_cell_at {f : Addr} {fd : FuncData} (F : Fun K "_law_cell_at" "_law_cell_at" s_law_cell_at f fd) (z : Bt mg)  : FnOk P w K mg base CX0 1 f fd ["_law_script", "_law_k"] (sp_law_cell_at K) := by
  refine F.ok (k := 0) sc_law_cell_at (fun ws H Q E h => ?_) (fun cdv A outer s H ws Q E hr h => ?_)
  · obtain ⟨_, ⟨_, _, _, rfl, _⟩, _⟩ := h
    rfl
  · obtain ⟨_, ⟨ap_script, p_script, p_k, rfl, hSp_script, hpre, rfl⟩, k0⟩ := h
    obtain ⟨tk_MOST_PARTS, z_g_MOST_PARTS⟩ := z.g_MOST_PARTS
    obtain ⟨tk_MOST_SIGNS, z_g_MOST_SIGNS⟩ := z.g_MOST_SIGNS
    obtain ⟨tk_SIGNS, z_g_SIGNS⟩ := z.g_SIGNS
    refine ⟨_, (pss_cons (ps_if (pt_cmpR op_lt (pv 1) (pe_callB (call_lenK K) (by rfl) z.z_len PySem.boot_len (pa_cons (pv 0) pa_nil)) (nomark _)) (pss_one (ps_ret (pe_ix (ix_listK K) (pv 0) (pv 1) (fun _ _ => rfl)))) pss_nil)
      (pss_one (ps_ret pe_int))), ?_⟩
    refine q_when (b := (decide (p_k < (p_script.length : Int)))) (et_test (e_lt (ev_var rfl) (e_lenL (f := V.int) (l := p_script) (ev_var rfl) (rx_l (RX.refl H) hSp_script)))) (fun hb1 H1 e1a => ?_) (fun hb1 H1 e1a => ?_)
    · have e1 := Ex.trans (Ex.refl H) e1a
      have r1 := rx_of e1
      have k1a := ret_T k0 hb1
      exact s_ret (e_ixL (f := V.int) (l := p_script) 0 (ev_var rfl) (rx_l r1 hSp_script) (ev_var rfl) (by walk_at "vside")) fun H2 e2a => (RetV.go k1a (Ex.trans e1 e2a))
    · have e1 := Ex.trans (Ex.refl H) e1a
      have r1 := rx_of e1
      have k2b := ret_F k0 hb1
      exact s_ret ev_c fun H3 e3a => (RetV.go k2b (Ex.trans e1 e3a))
def sp_law_sign_by (K : PySem.W.Frag) : Sp := spP fun ws H v => ∃ (p_k : Int), ws = [V.int p_k] ∧ v = vs (m_law_sign_by p_k)
theorem ok_law_sign_by {f : Addr} {fd : FuncData} (F : Fun K "_law_sign_by" "_law_sign_by" s_law_sign_by f fd) (z : Bt mg)  : FnOk P w K mg base CX0 1 f fd ["_law_k"] (sp_law_sign_by K) := by
  refine F.ok (k := 0) sc_law_sign_by (fun ws H Q E h => ?_) (fun cdv A outer s H ws Q E hr h => ?_)
  · obtain ⟨_, ⟨_, rfl, _⟩, _⟩ := h
    rfl
  · obtain ⟨_, ⟨p_k, rfl, rfl⟩, k0⟩ := h
    obtain ⟨tk_MOST_PARTS, z_g_MOST_PARTS⟩ := z.g_MOST_PARTS
    obtain ⟨tk_MOST_SIGNS, z_g_MOST_SIGNS⟩ := z.g_MOST_SIGNS
    obtain ⟨tk_SIGNS, z_g_SIGNS⟩ := z.g_SIGNS
    have L_lSigns := len_lSigns
    refine ⟨_, (pss_one (ps_ret (pe_ix ix_str pe_str (pe_op op_mod (pv 0) pe_int) (fun _ _ => rfl)))), ?_⟩
    exact s_ret (e_ixS (ev_is (w := vs lSigns) e_lit rfl) (e_mod (ev_var rfl) ev_c (by walk_at "vside")) (by walk_at "vside")) fun H1 e1a => (RetV.go k0 (Ex.trans (Ex.refl H) e1a))
def sp_law_name_by (K : PySem.W.Frag) : Sp := spP fun ws H v => ∃ (p_k : Int) (p_shift : Int), ws = [V.int p_k, V.int p_shift] ∧ v = vs (m_law_name_by p_k p_shift)
theorem ok_law_name_by {f : Addr} {fd : FuncData} (F : Fun K "_law_name_by" "_law_name_by" s_law_name_by f fd) (z : Bt mg) (C_law_sign_by : Cal P w K mg base 1 "_law_sign_by" ["_law_k"] (sp_law_sign_by K)) : FnOk P w K mg base CX0 2 f fd ["_law_k", "_law_shift"] (sp_law_name_by K) := by
  refine F.ok (k := 1) sc_law_name_by (fun ws H Q E h => ?_) (fun cdv A outer s H ws Q E hr h => ?_)
  · obtain ⟨_, ⟨_, _, rfl, _⟩, _⟩ := h
    rfl
  · obtain ⟨_, ⟨p_k, p_shift, rfl, rfl⟩, k0⟩ := h
    obtain ⟨tk_MOST_PARTS, z_g_MOST_PARTS⟩ := z.g_MOST_PARTS
    obtain ⟨tk_MOST_SIGNS, z_g_MOST_SIGNS⟩ := z.g_MOST_SIGNS
    obtain ⟨tk_SIGNS, z_g_SIGNS⟩ := z.g_SIGNS
    have L_lNil := len_lNil
    have L_lDot := len_lDot
    have L_lDots := len_lDots
    have L_l0x := len_l0x
    have i0 := b01 (decide ((m_law_name_by_v3 p_shift) = (0 : Int)))
    have i1 := b01 (decide ((m_law_name_by_v3 p_shift) = (1 : Int)))
    have i3 := b01 (decide ((m_law_name_by_v3 p_shift) = (3 : Int)))
    have i26 := g26 ((if (decide ((m_law_name_by_v3 p_shift) = (3 : Int))) = true then (1 : Int) else 0).toNat)
    refine ⟨_, (pss_cons (ps_set (i := 2) sc_law_name_by.nd rfl (Or.inl rfl) pe_int)
      (pss_cons (ps_if (pt_cmpR op_eq (pe_op op_mod (pe_op op_fdiv (pv 1) pe_int) pe_int) pe_int (nomark _)) (pss_one (ps_set (i := 2) sc_law_name_by.nd rfl (Or.inl rfl) (pe_op op_add pe_int (pe_op op_mod (pe_op op_fdiv (pv 1) pe_int) pe_int)))) pss_nil)
      (pss_cons (ps_set (i := 3) sc_law_name_by.nd rfl (Or.inr rfl) (pe_op op_mod (pe_op op_fdiv (pv 1) pe_int) pe_int))
      (pss_cons (ps_setLc (i := 4) (own := [("_law_j", 8)]) (g := gName 8) (tt := tYes) rfl sc_law_name_by.nd rfl rfl (sw_true rfl rfl rfl (by decide +kernel)) (pi_range1 (by rfl) z.z_range (pa_cons pe_int pa_nil)) (blkOk_by (own := [("_law_j", 8)]) (N := ["_law_k", "_law_shift", "_law_size", "_law_way", "_law_rest", "_law_at", "_law_told_here", "_law_name", "_law_j"]) (sc := defScope s_law_name_by) (by decide +kernel)) (fun _ _ _ _ _ => pg_name (i := 8) sc_law_name_by.nd rfl (Or.inl rfl)) (fun _ _ _ _ _ => pts_nil) (fun _ _ _ _ _ => (pe_cal C_law_sign_by (hr.mono (by decide)) (by rfl) (pa_cons (pe_op op_add (pe_op op_add (pe_op op_fdiv (pv 1) pe_int) (pe_op op_mul pe_int (pv 8))) (pe_op op_mul (pv 0) (pe_callTy call_int1 (by rfl) z.z_int (by decide +kernel) (pa_cons (pe_cmpR op_eq (pv 3) pe_int (nomark _)) pa_nil)))) pa_nil))))
      (pss_cons (ps_set (i := 5) sc_law_name_by.nd rfl (Or.inl rfl) (pe_op op_mul (pe_op op_mod (pe_op op_fdiv (pv 1) pe_int) (pv 2)) (pe_callTy call_int1 (by rfl) z.z_int (by decide +kernel) (pa_cons (pe_cmpR op_eq (pv 3) pe_int (nomark _)) pa_nil))))
      (pss_cons (ps_set (i := 6) sc_law_name_by.nd rfl (Or.inl rfl) (pe_cal C_law_sign_by (hr.mono (by decide)) (by rfl) (pa_cons (pe_op op_add (pv 1) (pe_op op_mul (pv 0) (pe_ix (ix_listK K) (pe_lst (pa_cons pe_int (pa_cons pe_int pa_nil))) (pe_callTy call_int1 (by rfl) z.z_int (by decide +kernel) (pa_cons (pe_cmpR op_eq (pv 3) pe_int (nomark _)) pa_nil)) (fun _ _ => rfl)))) pa_nil)))
      (pss_cons (ps_set (i := 7) sc_law_name_by.nd rfl (Or.inl rfl) (pe_op op_addT (pe_op op_addT (pe_joinK K pe_str (pe_slice (sl_listK K) (pv 4) po_none (po_some (pv 5)))) (pv 6)) (pe_joinK K pe_str (pe_slice (sl_listK K) (pv 4) (po_some (pv 5)) (po_some (pe_op op_sub (pv 2) pe_int))))))
      (pss_cons (ps_if (pt_cmpR op_eq (pv 3) pe_int (nomark _)) (pss_one (ps_set (i := 7) sc_law_name_by.nd rfl (Or.inl rfl) (pe_joinK K pe_str (pe_slice (sl_listK K) (pv 4) po_none (po_some (pe_op op_add pe_int (pe_op op_mod (pe_op op_add (pe_op op_fdiv (pv 1) pe_int) (pv 0)) pe_int))))))) pss_nil)
      (pss_cons (ps_if (PW.pt (pw_or (pt_cmpR op_eq (pv 7) pe_str (nomark _)) (pw_or1 (pt_cmpR op_eq (pv 7) pe_str (nomark _))))) (pss_one (ps_ret pe_str)) pss_nil)
      (pss_one (ps_ret (pv 7)))))))))))), ?_⟩
    refine q_asg (v := V.int m_law_name_by_v1) (ev_is ev_c rfl) fun H1 e1a => ?_
    have e1 := Ex.trans (Ex.refl H) e1a
    have r1 := rx_of e1
    have fm_law_name_by_v1 : m_law_name_by_v1 = (1 : Int) := rfl
    refine q_ifSet (f := V.int) (z := (m_law_name_by_v2 p_shift)) (et_test (e_eqI (e_mod (e_div (ev_var rfl) ev_c (by walk_at "vside")) ev_c (by walk_at "vside")) ev_c)) (fun hc => (e_add ev_c (e_mod (e_div (ev_var rfl) ev_c (by walk_at "vside")) ev_c (by walk_at "vside")))) rfl rfl fun H2 e2a => ?_
    have e2 := Ex.trans e1 e2a
    have r2 := rx_of e2
    have fm_law_name_by_v2 : (m_law_name_by_v2 p_shift) = if (decide (((p_shift / (65 : Int)) % (3 : Int)) = (1 : Int))) = true then ((1 : Int) + ((p_shift / (195 : Int)) % (12 : Int))) else m_law_name_by_v1 := rfl
    have g2 := name_v2 p_shift
    refine q_asg (v := V.int (m_law_name_by_v3 p_shift)) (ev_is (e_mod (e_div (ev_var rfl) ev_c (by walk_at "vside")) ev_c (by walk_at "vside")) rfl) fun H3 e3a => ?_
    have e3 := Ex.trans e2 e3a
    have r3 := rx_of e3
    have fm_law_name_by_v3 : (m_law_name_by_v3 p_shift) = ((p_shift / (5 : Int)) % (4 : Int)) := rfl
    refine q_asgL (xs := List.map vs (m_law_name_by_v4 p_shift p_k)) (el_is (l_mapR (f := vs) (fun k0 : Nat => (m_law_sign_by (((p_shift / (195 : Int)) + ((7 : Int) * (k0 : Int))) + (p_k * (if (decide ((m_law_name_by_v3 p_shift) = (0 : Int))) = true then (1 : Int) else 0))))) (ea_cons ev_c ea_nil) (by walk_at "vside") (fun k0 hk => (ev_call (ea_cons (e_add (e_add (e_div (ev_var rfl) ev_c (by walk_at "vside")) (e_mul ev_c (ev_var rfl) (by first | exact Or.inl (by walk_at "vside") | exact Or.inr (by walk_at "vside")))) (e_mul (ev_var rfl) (e_intB (e_eqI (ev_var rfl) ev_c)) (by first | exact Or.inl (by walk_at "vside") | exact Or.inr (by walk_at "vside")))) ea_nil) (sv_of fun HC eC => ⟨_, rfl, rfl⟩)))) rfl) fun p4_rest H4 n4a e4a h4_rest => ?_
    have n4 := fresh_back e3 n4a
    have e4 := Ex.trans e3 e4a
    have r4 := rx_of e4
    have fm_law_name_by_v4 : List.length (m_law_name_by_v4 p_shift p_k) = List.length (((List.range (12 : Int).toNat).map (fun k0 : Nat => (m_law_sign_by (((p_shift / (195 : Int)) + ((7 : Int) * (k0 : Int))) + (p_k * (if (decide ((m_law_name_by_v3 p_shift) = (0 : Int))) = true then (1 : Int) else 0))))))) := rfl
    have g4 := name_v4 p_shift p_k
    have g4l : List.length (m_law_name_by_v4 p_shift p_k) = 12 := rfl
    refine q_asg (v := V.int (m_law_name_by_v5 p_shift)) (ev_is (e_mul (e_mod (e_div (ev_var rfl) ev_c (by walk_at "vside")) (ev_var rfl) (by walk_at "vside")) (e_intB (e_eqI (ev_var rfl) ev_c)) (by first | exact Or.inl (by walk_at "vside") | exact Or.inr (by walk_at "vside"))) rfl) fun H5 e5a => ?_
    have e5 := Ex.trans e4 e5a
    have r5 := rx_of e5
    have h4_rest := e5a _ _ h4_rest
    have fm_law_name_by_v5 : (m_law_name_by_v5 p_shift) = (((p_shift / (20 : Int)) % (m_law_name_by_v2 p_shift)) * (if (decide ((m_law_name_by_v3 p_shift) = (1 : Int))) = true then (1 : Int) else 0)) := rfl
    have g5 := name_v5 p_shift
    refine q_asg (v := vs (m_law_name_by_v6 p_shift p_k)) (ev_is (ev_call (ea_cons (e_add (ev_var rfl) (e_mul (ev_var rfl) (e_ixN (f := V.int) (l := [(1 : Int), (26 : Int)]) 0 (el_lst (ea_cons ev_c (ea_cons ev_c ea_nil)) (by simp)) (e_intB (e_eqI (ev_var rfl) ev_c)) (by walk_at "vside")) (by first | exact Or.inl (by walk_at "vside") | exact Or.inr (by walk_at "vside")))) ea_nil) (sv_of fun HC eC => ⟨_, rfl, rfl⟩)) rfl) fun H6 e6a => ?_
    have e6 := Ex.trans e5 e6a
    have r6 := rx_of e6
    have h4_rest := e6a _ _ h4_rest
    have fm_law_name_by_v6 : List.length (m_law_name_by_v6 p_shift p_k) = List.length ((m_law_sign_by (p_shift + (p_k * ([(1 : Int), (26 : Int)].getD (if (decide ((m_law_name_by_v3 p_shift) = (3 : Int))) = true then (1 : Int) else 0).toNat 0))))) := rfl
    have g6 : List.length (m_law_name_by_v6 p_shift p_k) = 1 := rfl
    have c1a := cut_sum (m_law_name_by_v4 p_shift p_k) none (some (m_law_name_by_v5 p_shift))
    have c1b := cut_len (m_law_name_by_v4 p_shift p_k) none (some (m_law_name_by_v5 p_shift))
    have c1c := jl0 (cutG (m_law_name_by_v4 p_shift p_k) none (some (m_law_name_by_v5 p_shift)))
    have c2a := cut_sum (m_law_name_by_v4 p_shift p_k) (some (m_law_name_by_v5 p_shift)) (some ((m_law_name_by_v2 p_shift) - (1 : Int)))
    have c2b := cut_len (m_law_name_by_v4 p_shift p_k) (some (m_law_name_by_v5 p_shift)) (some ((m_law_name_by_v2 p_shift) - (1 : Int)))
    have c2c := jl0 (cutG (m_law_name_by_v4 p_shift p_k) (some (m_law_name_by_v5 p_shift)) (some ((m_law_name_by_v2 p_shift) - (1 : Int))))
    refine q_asg (v := vs (m_law_name_by_v7 p_shift p_k)) (ev_is (e_addT (e_addT (e_joinN (l := (cutG (m_law_name_by_v4 p_shift p_k) none (some (m_law_name_by_v5 p_shift)))) (ev_is (w := vs lNil) e_lit rfl) (l_slR (f := vs) (l := (m_law_name_by_v4 p_shift p_k)) (ev_var rfl) (sq_of h4_rest) eo_none (eo_some (ev_var rfl))) (by walk_at "vside")) (ev_var rfl) (by walk_at "vside")) (e_joinN (l := (cutG (m_law_name_by_v4 p_shift p_k) (some (m_law_name_by_v5 p_shift)) (some ((m_law_name_by_v2 p_shift) - (1 : Int))))) (ev_is (w := vs lNil) e_lit rfl) (l_slR (f := vs) (l := (m_law_name_by_v4 p_shift p_k)) (ev_var rfl) (sq_of h4_rest) (eo_some (ev_var rfl)) (eo_some (e_sub (ev_var rfl) ev_c))) (by walk_at "vside")) (by walk_at "vside")) rfl) fun H7 e7a => ?_
    have e7 := Ex.trans e6 e7a
    have r7 := rx_of e7
    have h4_rest := e7a _ _ h4_rest
    have fm_law_name_by_v7 : List.length (m_law_name_by_v7 p_shift p_k) = List.length ((((joinL lNil (cutG (m_law_name_by_v4 p_shift p_k) none (some (m_law_name_by_v5 p_shift)))) ++ (m_law_name_by_v6 p_shift p_k)) ++ (joinL lNil (cutG (m_law_name_by_v4 p_shift p_k) (some (m_law_name_by_v5 p_shift)) (some ((m_law_name_by_v2 p_shift) - (1 : Int))))))) := rfl
    have c3a := cut_sum (m_law_name_by_v4 p_shift p_k) none (some ((1 : Int) + (((p_shift / (65 : Int)) + p_k) % (12 : Int))))
    have c3b := cut_len (m_law_name_by_v4 p_shift p_k) none (some ((1 : Int) + (((p_shift / (65 : Int)) + p_k) % (12 : Int))))
    have c3c := jl0 (cutG (m_law_name_by_v4 p_shift p_k) none (some ((1 : Int) + (((p_shift / (65 : Int)) + p_k) % (12 : Int)))))
    refine q_ifSet (f := vs) (z := (m_law_name_by_v8 p_shift p_k)) (et_test (e_eqI (ev_var rfl) ev_c)) (fun hc => (e_joinN (l := (cutG (m_law_name_by_v4 p_shift p_k) none (some ((1 : Int) + (((p_shift / (65 : Int)) + p_k) % (12 : Int)))))) (ev_is (w := vs lNil) e_lit rfl) (l_slR (f := vs) (l := (m_law_name_by_v4 p_shift p_k)) (ev_var rfl) (sq_of h4_rest) eo_none (eo_some (e_add ev_c (e_mod (e_add (e_div (ev_var rfl) ev_c (by walk_at "vside")) (ev_var rfl)) ev_c (by walk_at "vside"))))) (by walk_at "vside"))) rfl rfl fun H8 e8a => ?_
    have e8 := Ex.trans e7 e8a
    have r8 := rx_of e8
    have h4_rest := e8a _ _ h4_rest
    refine q_when (b := ((decide ((m_law_name_by_v8 p_shift p_k) = lDot)) || (decide ((m_law_name_by_v8 p_shift p_k) = lDots)))) (et_or (et_test (e_eqT (ev_var rfl) (ev_is (w := vs lDot) e_lit rfl))) (fun hc => (et_test (e_eqT (ev_var rfl) (ev_is (w := vs lDots) e_lit rfl))))) (fun hb9 H9 e9a => ?_) (fun hb9 H9 e9a => ?_)
    · have e9 := Ex.trans e8 e9a
      have r9 := rx_of e9
      have h4_rest := e9a _ _ h4_rest
      have k1a := ret_T k0 hb9
      exact s_ret (ev_is (w := vs l0x) e_lit rfl) fun H10 e10a => (RetV.go k1a (Ex.trans e9 e10a))
    · have e9 := Ex.trans e8 e9a
      have r9 := rx_of e9
      have h4_rest := e9a _ _ h4_rest
      have k2b := ret_F k0 hb9
      exact s_ret (ev_var rfl) fun H11 e11a => (RetV.go k2b (Ex.trans e9 e11a))
def sp_law_path_by (K : PySem.W.Frag) : Sp := spP fun ws H v => ∃ (p_cell : Int) (p_shift : Int), ws = [V.int p_cell, V.int p_shift] ∧ v = vs (m_law_path_by p_cell p_shift)
theorem ok_law_path_by {f : Addr} {fd : FuncData} (F : Fun K "_law_path_by" "_law_path_by" s_law_path_by f fd) (z : Bt mg) (C_law_name_by : Cal P w K mg base 2 "_law_name_by" ["_law_k", "_law_shift"] (sp_law_name_by K)) : FnOk P w K mg base CX0 3 f fd ["_law_cell", "_law_shift"] (sp_law_path_by K) := by
  refine F.ok (k := 2) sc_law_path_by (fun ws H Q E h => ?_) (fun cdv A outer s H ws Q E hr h => ?_)
  · obtain ⟨_, ⟨_, _, rfl, _⟩, _⟩ := h
    rfl
  · obtain ⟨_, ⟨p_cell, p_shift, rfl, rfl⟩, k0⟩ := h
    obtain ⟨tk_MOST_PARTS, z_g_MOST_PARTS⟩ := z.g_MOST_PARTS
    obtain ⟨tk_MOST_SIGNS, z_g_MOST_SIGNS⟩ := z.g_MOST_SIGNS
    obtain ⟨tk_SIGNS, z_g_SIGNS⟩ := z.g_SIGNS
    have L_lSl := len_lSl
    refine ⟨_, (pss_cons (ps_set (i := 2) sc_law_path_by.nd rfl (Or.inl rfl) (pe_ix (ix_listK K) (pe_lst (pa_cons pe_int (pa_cons pe_int (pa_cons pe_int (pa_cons pe_int (pa_cons pe_int pa_nil)))))) (pe_op op_mod (pv 0) pe_int) (fun _ _ => rfl)))
      (pss_cons (ps_setLc (i := 3) (own := [("_law_j", 4)]) (g := gName 4) (tt := tYes) rfl sc_law_path_by.nd rfl rfl (sw_true rfl rfl rfl (by decide +kernel)) (pi_range1 (by rfl) z.z_range (pa_cons (pv 2) pa_nil)) (blkOk_by (own := [("_law_j", 4)]) (N := ["_law_cell", "_law_shift", "_law_depth", "_law_parts", "_law_j"]) (sc := defScope s_law_path_by) (by decide +kernel)) (fun _ _ _ _ _ => pg_name (i := 4) sc_law_path_by.nd rfl (Or.inl rfl)) (fun _ _ _ _ _ => pts_nil) (fun _ _ _ _ _ => (pe_cal C_law_name_by (hr.mono (by decide)) (by rfl) (pa_cons (pe_op op_mod (pe_op op_fdiv (pe_op op_fdiv (pv 0) pe_int) (pe_ix (ix_listK K) (pe_lst (pa_cons pe_int (pa_cons pe_int (pa_cons pe_int pa_nil)))) (pv 4) (fun _ _ => rfl))) pe_int) (pa_cons (pv 1) pa_nil)))))
      (pss_cons (ps_if (pt_cmpR op_ne (pe_op op_mod (pv 1) pe_int) pe_int (nomark _)) (pss_one (ps_ret (pe_joinK K pe_str (pv 3)))) pss_nil)
      (pss_cons (ps_set (i := 3) sc_law_path_by.nd rfl (Or.inl rfl) (pe_op op_cat (pe_lc (own := [("_law_j", 4)]) (g := gName 4) (tt := tYes) rfl sc_law_path_by.nd (pi_range1 (by rfl) z.z_range (pa_cons (pe_op op_add pe_int (pe_op op_mod (pe_op op_fdiv (pv 1) pe_int) pe_int)) pa_nil)) (blkOk_by (own := [("_law_j", 4)]) (N := ["_law_cell", "_law_shift", "_law_depth", "_law_parts", "_law_j"]) (sc := defScope s_law_path_by) (by decide +kernel)) (fun _ _ _ _ _ => pg_name (i := 4) sc_law_path_by.nd rfl (Or.inl rfl)) (fun _ _ _ _ _ => pts_nil) (fun _ _ _ _ _ => (pe_cal C_law_name_by (hr.mono (by decide)) (by rfl) (pa_cons (pe_op op_add pe_int (pv 4)) (pa_cons (pv 1) pa_nil))))) (pv 3)))
      (pss_cons (ps_if (pt_cmpR op_eq (pe_op op_mod (pv 0) pe_int) pe_int (nomark _)) (pss_one (ps_ret (pe_joinK K pe_str (pe_slice (sl_listK K) (pv 3) po_none (po_some (pe_op op_add pe_int (pe_op op_mod (pe_op op_fdiv (pv 0) pe_int) (pe_callB (call_lenK K) (by rfl) z.z_len PySem.boot_len (pa_cons (pv 3) pa_nil))))))))) pss_nil)
      (pss_one (ps_ret (pe_joinK K pe_str (pv 3))))))))), ?_⟩
    refine q_asg (v := V.int (m_law_path_by_v1 p_cell)) (ev_is (e_ixN (f := V.int) (l := [(1 : Int), (1 : Int), (2 : Int), (2 : Int), (3 : Int)]) 0 (el_lst (ea_cons ev_c (ea_cons ev_c (ea_cons ev_c (ea_cons ev_c (ea_cons ev_c ea_nil))))) (by simp)) (e_mod (ev_var rfl) ev_c (by walk_at "vside")) (by walk_at "vside")) rfl) fun H1 e1a => ?_
    have e1 := Ex.trans (Ex.refl H) e1a
    have r1 := rx_of e1
    have fm_law_path_by_v1 : (m_law_path_by_v1 p_cell) = ([(1 : Int), (1 : Int), (2 : Int), (2 : Int), (3 : Int)].getD (p_cell % (5 : Int)).toNat 0) := rfl
    have g1 := path_v1 p_cell
    refine q_asgL (xs := List.map vs (m_law_path_by_v2 p_cell p_shift)) (el_is (l_mapR (f := vs) (fun k0 : Nat => (m_law_name_by (((p_cell / (5 : Int)) / ([(1 : Int), (3 : Int), (9 : Int)].getD (k0 : Int).toNat 0)) % (3 : Int)) p_shift)) (ea_cons (ev_var rfl) ea_nil) (by walk_at "vside") (fun k0 hk => have := g139 (k0 : Int).toNat; (ev_call (ea_cons (e_mod (e_div (e_div (ev_var rfl) ev_c (by walk_at "vside")) (e_ixN (f := V.int) (l := [(1 : Int), (3 : Int), (9 : Int)]) 0 (el_lst (ea_cons ev_c (ea_cons ev_c (ea_cons ev_c ea_nil))) (by simp)) (ev_var rfl) (by walk_at "vside")) (by walk_at "vside")) ev_c (by walk_at "vside")) (ea_cons (ev_var rfl) ea_nil)) (sv_of fun HC eC => ⟨_, _, rfl, rfl⟩)))) rfl) fun p2_parts H2 n2a e2a h2_parts => ?_
    have n2 := fresh_back e1 n2a
    have e2 := Ex.trans e1 e2a
    have r2 := rx_of e2
    have fm_law_path_by_v2 : List.length (m_law_path_by_v2 p_cell p_shift) = List.length (((List.range (m_law_path_by_v1 p_cell).toNat).map (fun k0 : Nat => (m_law_name_by (((p_cell / (5 : Int)) / ([(1 : Int), (3 : Int), (9 : Int)].getD (k0 : Int).toNat 0)) % (3 : Int)) p_shift)))) := rfl
    have g2 := (path_v2 p_cell p_shift).1
    have g2s := (path_two p_cell p_shift).sum
    refine q_when (b := (!decide ((p_shift % (7 : Int)) = (3 : Int)))) (et_test (e_neI (e_mod (ev_var rfl) ev_c (by walk_at "vside")) ev_c)) (fun hb3 H3 e3a => ?_) (fun hb3 H3 e3a => ?_)
    · have e3 := Ex.trans e2 e3a
      have r3 := rx_of e3
      have h2_parts := e3a _ _ h2_parts
      have k1a := ret_T k0 hb3
      exact s_ret (e_joinR (l := (m_law_path_by_v2 p_cell p_shift)) (ev_is (w := vs lSl) e_lit rfl) (ev_var rfl) (sq_of h2_parts) (by walk_at "vside")) fun H4 e4a => (RetV.go k1a (Ex.trans e3 e4a))
    · have e3 := Ex.trans e2 e3a
      have r3 := rx_of e3
      have h2_parts := e3a _ _ h2_parts
      have k2b := ret_F k0 hb3
      refine q_asgL (xs := List.map vs (m_law_path_by_v3 p_shift p_cell)) (el_is (l_catNR (g := vs) (m1 := ((List.range ((1 : Int) + ((p_shift / (7 : Int)) % (4 : Int))).toNat).map (fun k0 : Nat => (m_law_name_by ((3 : Int) + (k0 : Int)) p_shift)))) (m2 := (m_law_path_by_v2 p_cell p_shift)) (l_mapR (f := vs) (fun k0 : Nat => (m_law_name_by ((3 : Int) + (k0 : Int)) p_shift)) (ea_cons (e_add ev_c (e_mod (e_div (ev_var rfl) ev_c (by walk_at "vside")) ev_c (by walk_at "vside"))) ea_nil) (by walk_at "vside") (fun k0 hk => (ev_call (ea_cons (e_add ev_c (ev_var rfl)) (ea_cons (ev_var rfl) ea_nil)) (sv_of fun HC eC => ⟨_, _, rfl, rfl⟩)))) (ev_var rfl) h2_parts (by walk_at "vside")) rfl) fun p5_parts H5 n5a e5a h5_parts => ?_
      have n5 := fresh_back e3 n5a
      have e5 := Ex.trans e3 e5a
      have r5 := rx_of e5
      have fm_law_path_by_v3 : List.length (m_law_path_by_v3 p_shift p_cell) = List.length ((((List.range ((1 : Int) + ((p_shift / (7 : Int)) % (4 : Int))).toNat).map (fun k0 : Nat => (m_law_name_by ((3 : Int) + (k0 : Int)) p_shift))) ++ (m_law_path_by_v2 p_cell p_shift))) := rfl
      have g3 := (path_v3 p_shift p_cell).1.1
      have g3s := (path_v3 p_shift p_cell).1.sum
      have g3c := path_cut3 p_shift p_cell
      refine q_when (b := (decide ((p_cell % (13 : Int)) = (6 : Int)))) (et_test (e_eqI (e_mod (ev_var rfl) ev_c (by walk_at "vside")) ev_c)) (fun hb6 H6 e6a => ?_) (fun hb6 H6 e6a => ?_)
      · have e6 := Ex.trans e5 e6a
        have r6 := rx_of e6
        have h5_parts := e6a _ _ h5_parts
        have k3a := ret_T k2b hb6
        exact s_ret (e_joinN (l := (cutG (m_law_path_by_v3 p_shift p_cell) none (some ((1 : Int) + ((p_cell / (13 : Int)) % ((m_law_path_by_v3 p_shift p_cell).length : Int)))))) (ev_is (w := vs lSl) e_lit rfl) (l_slR (f := vs) (l := (m_law_path_by_v3 p_shift p_cell)) (ev_var rfl) (sq_of h5_parts) eo_none (eo_some (e_add ev_c (e_mod (e_div (ev_var rfl) ev_c (by walk_at "vside")) (e_lenL (f := vs) (l := (m_law_path_by_v3 p_shift p_cell)) (ev_var rfl) (sq_of h5_parts)) (by walk_at "vside"))))) (by walk_at "vside")) fun H7 e7a => (RetV.go k3a (Ex.trans e6 e7a))
      · have e6 := Ex.trans e5 e6a
        have r6 := rx_of e6
        have h5_parts := e6a _ _ h5_parts
        have k4b := ret_F k2b hb6
        exact s_ret (e_joinR (l := (m_law_path_by_v3 p_shift p_cell)) (ev_is (w := vs lSl) e_lit rfl) (ev_var rfl) (sq_of h5_parts) (by walk_at "vside")) fun H8 e8a => (RetV.go k4b (Ex.trans e6 e8a))
def sp_law_line_by (K : PySem.W.Frag) : Sp := spP fun ws H v => ∃ (p_k : Int) (p_shift : Int), ws = [V.int p_k, V.int p_shift] ∧ v = vs (m_law_line_by p_k p_shift)
theorem ok_law_line_by {f : Addr} {fd : FuncData} (F : Fun K "_law_line_by" "_law_line_by" s_law_line_by f fd) (z : Bt mg)  : FnOk P w K mg base CX0 1 f fd ["_law_k", "_law_shift"] (sp_law_line_by K) := by
  refine F.ok (k := 0) sc_law_line_by (fun ws H Q E h => ?_) (fun cdv A outer s H ws Q E hr h => ?_)
  · obtain ⟨_, ⟨_, _, rfl, _⟩, _⟩ := h
    rfl
  · obtain ⟨_, ⟨p_k, p_shift, rfl, rfl⟩, k0⟩ := h
    obtain ⟨tk_MOST_PARTS, z_g_MOST_PARTS⟩ := z.g_MOST_PARTS
    obtain ⟨tk_MOST_SIGNS, z_g_MOST_SIGNS⟩ := z.g_MOST_SIGNS
    obtain ⟨tk_SIGNS, z_g_SIGNS⟩ := z.g_SIGNS
    have L_lAny1 := len_lAny1
    have L_lAny2 := len_lAny2
    have L_lNil := len_lNil
    refine ⟨_, (pss_cons (ps_set (i := 2) sc_law_line_by.nd rfl (Or.inr rfl) pe_str)
      (pss_cons (ps_set (i := 2) sc_law_line_by.nd rfl (Or.inr rfl) (pe_op op_addT (pv 2) pe_str))
      (pss_cons (ps_if (pt_cmpR op_lt (pe_op op_mod (pv 0) pe_int) pe_int (nomark _)) (pss_one (ps_ret (pe_joinK K pe_str (pe_lc (own := [("_law_j", 4)]) (g := gName 4) (tt := tYes) rfl sc_law_line_by.nd (pi_range1 (by rfl) z.z_range (pa_cons (pe_op op_mod (pv 0) pe_int) pa_nil)) (blkOk_by (own := [("_law_j", 4)]) (N := ["_law_k", "_law_shift", "_law_some", "_law_size", "_law_j"]) (sc := defScope s_law_line_by) (by decide +kernel)) (fun _ _ _ _ _ => pg_name (i := 4) sc_law_line_by.nd rfl (Or.inl rfl)) (fun _ _ _ _ _ => pts_nil) (fun _ _ _ _ _ => (pe_ix ix_str (pv 2) (pe_op op_mod (pe_op op_add (pe_op op_add (pv 1) (pe_op op_mul pe_int (pv 0))) (pv 4)) pe_int) (fun _ _ => rfl))))))) pss_nil)
      (pss_cons (ps_set (i := 3) sc_law_line_by.nd rfl (Or.inl rfl) (pe_op op_add pe_int (pe_op op_mod (pv 1) pe_int)))
      (pss_cons (ps_if (pt_cmpR op_eq (pe_op op_mod (pe_op op_fdiv (pv 1) pe_int) pe_int) pe_int (nomark _)) (pss_one (ps_set (i := 3) sc_law_line_by.nd rfl (Or.inl rfl) (pe_op op_add pe_int (pe_op op_mod (pe_op op_fdiv (pv 1) pe_int) pe_int)))) pss_nil)
      (pss_one (ps_ret (pe_joinK K pe_str (pe_lc (own := [("_law_j", 4)]) (g := gName 4) (tt := tYes) rfl sc_law_line_by.nd (pi_range1 (by rfl) z.z_range (pa_cons (pv 3) pa_nil)) (blkOk_by (own := [("_law_j", 4)]) (N := ["_law_k", "_law_shift", "_law_some", "_law_size", "_law_j"]) (sc := defScope s_law_line_by) (by decide +kernel)) (fun _ _ _ _ _ => pg_name (i := 4) sc_law_line_by.nd rfl (Or.inl rfl)) (fun _ _ _ _ _ => pts_nil) (fun _ _ _ _ _ => (pe_ix ix_str (pv 2) (pe_op op_mod (pe_op op_add (pe_op op_add (pv 1) (pe_op op_mul pe_int (pv 0))) (pv 4)) pe_int) (fun _ _ => rfl)))))))))))), ?_⟩
    refine q_asg (v := vs m_law_line_by_v1) (ev_is (ev_is (w := vs lAny1) e_lit rfl) rfl) fun H1 e1a => ?_
    have e1 := Ex.trans (Ex.refl H) e1a
    have r1 := rx_of e1
    have fm_law_line_by_v1 : List.length m_law_line_by_v1 = List.length (lAny1) := rfl
    refine q_asg (v := vs m_law_line_by_v2) (ev_is (e_addT (ev_var rfl) (ev_is (w := vs lAny2) e_lit rfl) (by walk_at "vside")) rfl) fun H2 e2a => ?_
    have e2 := Ex.trans e1 e2a
    have r2 := rx_of e2
    have fm_law_line_by_v2 : List.length m_law_line_by_v2 = List.length ((m_law_line_by_v1 ++ lAny2)) := rfl
    have g2 : List.length m_law_line_by_v2 = 96 := by decide +kernel
    have g2s := line_sumk p_k p_shift (p_k % (4 : Int))
    refine q_when (b := (decide ((p_k % (4 : Int)) < (3 : Int)))) (et_test (e_lt (e_mod (ev_var rfl) ev_c (by walk_at "vside")) ev_c)) (fun hb3 H3 e3a => ?_) (fun hb3 H3 e3a => ?_)
    · have e3 := Ex.trans e2 e3a
      have r3 := rx_of e3
      have k1a := ret_T k0 hb3
      exact s_ret (e_joinN (l := ((List.range (p_k % (4 : Int)).toNat).map (fun k0 : Nat => [m_law_line_by_v2.getD (((p_shift + ((5 : Int) * p_k)) + (k0 : Int)) % (96 : Int)).toNat 0]))) (ev_is (w := vs lNil) e_lit rfl) (l_mapR (f := vs) (fun k0 : Nat => [m_law_line_by_v2.getD (((p_shift + ((5 : Int) * p_k)) + (k0 : Int)) % (96 : Int)).toNat 0]) (ea_cons (e_mod (ev_var rfl) ev_c (by walk_at "vside")) ea_nil) (by walk_at "vside") (fun k0 hk => (e_ixS (ev_var rfl) (e_mod (e_add (e_add (ev_var rfl) (e_mul ev_c (ev_var rfl) (by first | exact Or.inl (by walk_at "vside") | exact Or.inr (by walk_at "vside")))) (ev_var rfl)) ev_c (by walk_at "vside")) (by walk_at "vside")))) (by walk_at "vside")) fun H4 e4a => (RetV.go k1a (Ex.trans e3 e4a))
    · have e3 := Ex.trans e2 e3a
      have r3 := rx_of e3
      have k2b := ret_F k0 hb3
      refine q_asg (v := V.int (m_law_line_by_v3 p_shift)) (ev_is (e_add ev_c (e_mod (ev_var rfl) ev_c (by walk_at "vside"))) rfl) fun H5 e5a => ?_
      have e5 := Ex.trans e3 e5a
      have r5 := rx_of e5
      have fm_law_line_by_v3 : (m_law_line_by_v3 p_shift) = ((3 : Int) + (p_shift % (60 : Int))) := rfl
      refine q_ifSet (f := V.int) (z := (m_law_line_by_v4 p_shift)) (et_test (e_eqI (e_mod (e_div (ev_var rfl) ev_c (by walk_at "vside")) ev_c (by walk_at "vside")) ev_c)) (fun hc => (e_add ev_c (e_mod (e_div (ev_var rfl) ev_c (by walk_at "vside")) ev_c (by walk_at "vside")))) rfl rfl fun H6 e6a => ?_
      have e6 := Ex.trans e5 e6a
      have r6 := rx_of e6
      have fm_law_line_by_v4 : (m_law_line_by_v4 p_shift) = if (decide (((p_shift / (60 : Int)) % (4 : Int)) = (3 : Int))) = true then ((3 : Int) + ((p_shift / (240 : Int)) % (600 : Int))) else (m_law_line_by_v3 p_shift) := rfl
      have g4 := line_v4 p_shift
      have g4s := line_sumk p_k p_shift (m_law_line_by_v4 p_shift)
      exact s_ret (e_joinN (l := ((List.range (m_law_line_by_v4 p_shift).toNat).map (fun k0 : Nat => [m_law_line_by_v2.getD (((p_shift + ((5 : Int) * p_k)) + (k0 : Int)) % (96 : Int)).toNat 0]))) (ev_is (w := vs lNil) e_lit rfl) (l_mapR (f := vs) (fun k0 : Nat => [m_law_line_by_v2.getD (((p_shift + ((5 : Int) * p_k)) + (k0 : Int)) % (96 : Int)).toNat 0]) (ea_cons (ev_var rfl) ea_nil) (by walk_at "vside") (fun k0 hk => (e_ixS (ev_var rfl) (e_mod (e_add (e_add (ev_var rfl) (e_mul ev_c (ev_var rfl) (by first | exact Or.inl (by walk_at "vside") | exact Or.inr (by walk_at "vside")))) (ev_var rfl)) ev_c (by walk_at "vside")) (by walk_at "vside")))) (by walk_at "vside")) fun H7 e7a => (RetV.go k2b (Ex.trans e6 e7a))
def sp_law_is_free (K : PySem.W.Frag) : Sp := spP fun ws H v => ∃ (ap_tree : Addr) (p_tree : List (Tx × Tx)) (p_path : Tx), ws = [.ref ap_tree, vs p_path] ∧ Rd H ap_tree (.dK (kd vs p_tree)) ∧ (p_path.length ≤ 900 ∧ ∀ k ∈ dkeys p_tree, k.length ≤ 900) ∧ v = V.bl (m_law_is_free p_tree p_path)
theorem ok_law_is_free {f : Addr} {fd : FuncData} (F : Fun K "_law_is_free" "_law_is_free" s_law_is_free f fd) (z : Bt mg)  : FnOk P w K mg base CX0 1 f fd ["_law_tree", "_law_path"] (sp_law_is_free K) := by
  refine F.ok (k := 0) sc_law_is_free (fun ws H Q E h => ?_) (fun cdv A outer s H ws Q E hr h => ?_)
  · obtain ⟨_, ⟨_, _, _, rfl, _⟩, _⟩ := h
    rfl
  · obtain ⟨_, ⟨ap_tree, p_tree, p_path, rfl, hSp_tree, hpre, rfl⟩, k0⟩ := h
    obtain ⟨tk_MOST_PARTS, z_g_MOST_PARTS⟩ := z.g_MOST_PARTS
    obtain ⟨tk_MOST_SIGNS, z_g_MOST_SIGNS⟩ := z.g_MOST_SIGNS
    obtain ⟨tk_SIGNS, z_g_SIGNS⟩ := z.g_SIGNS
    have L_lSl := len_lSl
    refine ⟨_, (pss_cons (ps_may (ps_for PassesOwn.never rfl (pi_keys (pv 0)) (pg_name (i := 2) sc_law_is_free.nd rfl (Or.inl rfl))
      (pss_one (ps_if (PW.pt (pw_or (pt_val (pe_startsT (pv 2) (pe_op op_addT (pv 1) pe_str))) (pw_or1 (pt_val (pe_startsT (pv 1) (pe_op op_addT (pv 2) pe_str)))))) (pss_one (ps_ret pe_bl)) pss_nil))))
      (pss_one (ps_ret pe_bl))), ?_⟩
    refine q_loopK (R := (Bool)) (f := vs) (l := p_tree) (m_law_is_free_step1 p_path) () (fun U1 o1 => (fun (s1 : Unit) (σ1 : L2.St) (H1L : Hp) => ∃ (j1_0 : Option V), σ1 = [some (.ref ap_tree), some (vs p_path), j1_0] ∧ Ex H (unl [(ap_tree, U1)] H1L) ∧ RX H H1L ∧ H1L ap_tree = some (.frz o1 (.dK (kd vs p_tree))))) rfl ((RX.refl H) _ _ hSp_tree) (fun U1 o1 hU1 hUd1 => ?_) (fun U1 o1 s σ H hq => by obtain ⟨j1_0, rfl, e1L, r1L, hW1⟩ := hq; exact hW1) (fun U1 o1 Rt1 hU1 hUd1 hRt1 => ?_) (fun U1 o1 s1 σ1 H1L hU1 hUd1 hr1 hq1 => ?_)
    · exact ⟨_, rfl, unl_lock (ls := []) (Ex.refl H) hU1, rx_may (RX.refl H) hU1 hUd1, upd_same⟩
    · intro Nx1 Bk1 i1 s1 y1 σ1 H1L hy1 hrun1 hq1 hnx1 hbk1 hrt1
      obtain ⟨j1_0, rfl, e1L, r1L, hW1⟩ := hq1
      have hm1 := List.mem_of_getElem? hy1
      have hlt1 := (List.getElem?_eq_some_iff.mp hy1).1
      have gk := hpre.2 y1 hm1
      have gp := hpre.1
      have kq1_0 : (m_law_is_free_step1 p_path) s1 y1 = (if (((p_path ++ lSl).isPrefixOf y1) || ((y1 ++ lSl).isPrefixOf p_path)) = true then (Stp.ret false) else (Stp.go ())) := rfl
      refine s_when (b := (((p_path ++ lSl).isPrefixOf y1) || ((y1 ++ lSl).isPrefixOf p_path))) (et_or (et_B (e_starts (ev_var rfl) (e_addT (ev_var rfl) (ev_is (w := vs lSl) e_lit rfl) (by walk_at "vside")))) (fun hc => (et_B (e_starts (ev_var rfl) (e_addT (ev_var rfl) (ev_is (w := vs lSl) e_lit rfl) (by walk_at "vside")))))) (fun hb1 H1 e1a => ?_) (fun hb1 H1 e1a => ?_)
      · have e1 := unl_grow (ls := [(ap_tree, U1)]) e1L e1a
        have r1 := RX.trans r1L (rx_of e1a)
        have hW1 := e1a _ _ hW1
        have kq1_1 := kq_T kq1_0 hb1
        have kr1 := hrt1 _ kq1_1
        exact s_ret ev_c fun H2 e2a => (hRt1 _ _ (e2a _ _ hW1) (RetV.go (ret_run k0 kr1) (unl_grow (ls := [(ap_tree, U1)]) e1 e2a)))
      · have e1 := unl_grow (ls := [(ap_tree, U1)]) e1L e1a
        have r1 := RX.trans r1L (rx_of e1a)
        have hW1 := e1a _ _ hW1
        have kq1_2 := kq_F kq1_0 hb1
        exact hnx1 () _ _ kq1_2 ⟨_, rfl, e1, r1, hW1⟩
    · obtain ⟨j1_0, rfl, e1L, r1L, hW1⟩ := hq1
      have e1L := unl_open (ls := []) e1L
      have r1L := rx_of e1L
      have k2r := ret_go k0 hr1
      exact s_ret ev_c fun H5 e5a => (RetV.go k2r (Ex.trans e1L e5a))
def sp_law_grown (K : PySem.W.Frag) : Sp := spK fun ws H v => ∃ (ap_tree : Addr) (p_tree : List (Tx × Tx)) (p_cell : Int) (p_shift : Int), ws = [.ref ap_tree, V.int p_cell, V.int p_shift] ∧ Rd H ap_tree (.dK (kd vs p_tree)) ∧ (Good p_tree ∧ p_tree.length ≤ 1000) ∧ v = kd vs (m_law_grown p_tree p_cell p_shift)
theorem ok_law_grown {f : Addr} {fd : FuncData} (F : Fun K "_law_grown" "_law_grown" s_law_grown f fd) (z : Bt mg) (C_law_path_by : Cal P w K mg base 3 "_law_path_by" ["_law_cell", "_law_shift"] (sp_law_path_by K)) (C_law_is_free : Cal P w K mg base 1 "_law_is_free" ["_law_tree", "_law_path"] (sp_law_is_free K)) (C_law_line_by : Cal P w K mg base 1 "_law_line_by" ["_law_k", "_law_shift"] (sp_law_line_by K)) : FnOk P w K mg base CX0 4 f fd ["_law_tree", "_law_cell", "_law_shift"] (sp_law_grown K) := by
  refine F.ok (k := 3) sc_law_grown (fun ws H Q E h => ?_) (fun cdv A outer s H ws Q E hr h => ?_)
  · obtain ⟨_, ⟨_, _, _, _, rfl, _⟩, _⟩ := h
    rfl
  · obtain ⟨_, ⟨ap_tree, p_tree, p_cell, p_shift, rfl, hSp_tree, hpre, rfl⟩, k0⟩ := h
    obtain ⟨tk_MOST_PARTS, z_g_MOST_PARTS⟩ := z.g_MOST_PARTS
    obtain ⟨tk_MOST_SIGNS, z_g_MOST_SIGNS⟩ := z.g_MOST_SIGNS
    obtain ⟨tk_SIGNS, z_g_SIGNS⟩ := z.g_SIGNS
    have hg := hpre.1
    have hl := hpre.2
    refine ⟨_, (pss_cons (ps_set (i := 3) sc_law_grown.nd rfl (Or.inl rfl) (pe_callTy call_dictD (by rfl) z.z_dict (by decide +kernel) (pa_cons (pv 0) pa_nil)))
      (pss_cons (ps_set (i := 4) sc_law_grown.nd rfl (Or.inl rfl) (pe_cal C_law_path_by (hr.mono (by decide)) (by rfl) (pa_cons (pv 1) (pa_cons (pv 2) pa_nil))))
      (pss_cut (ps_if (PW.pt (pw_and (pt_cmp (pc_din (hu_of hr) (pv 4) (pv 3))) (pw_and1 (pt_cmpR op_eq (pe_op op_mod (pe_op op_fdiv (pv 1) pe_int) pe_int) pe_int (nomark _))))) (pss_one (ps_expr (pe_dpop1 (pv 3) (pv 4) ⟨rfl, rfl, rfl, rfl⟩))) (pss_cut (ps_if (pt_val (pe_cal C_law_is_free (hr.mono (by decide)) (by rfl) (pa_cons (pv 3) (pa_cons (pv 4) pa_nil)))) (pss_one (ps_dput (hu_of hr) (pv 3) (pv 4) (pe_cal C_law_line_by (hr.mono (by decide)) (by rfl) (pa_cons (pe_op op_fdiv (pv 1) pe_int) (pa_cons (pv 2) pa_nil))) rfl)) pss_nil)
      pss_nil))
      (pss_one (ps_ret (pv 3)))))), ?_⟩
    refine q_asgK (kvs := kd vs (m_law_grown_v1 p_tree)) (ek_is (k_copy (f := vs) (l := p_tree) (ev_var rfl) ((RX.refl H) _ _ hSp_tree)) rfl) fun p1_made H1 n1a e1a h1_made => ?_
    have n1 := fresh_back (Ex.refl H) n1a
    have e1 := Ex.trans (Ex.refl H) e1a
    have r1 := rx_of e1
    refine q_asg (v := vs (m_law_grown_v2 p_cell p_shift)) (ev_is (ev_call (ea_cons (ev_var rfl) (ea_cons (ev_var rfl) ea_nil)) (sv_of fun HC eC => ⟨_, _, rfl, rfl⟩)) rfl) fun H2 e2a => ?_
    have e2 := Ex.trans e1 e2a
    have r2 := rx_of e2
    have h1_made := e2a _ _ h1_made
    have fm_law_grown_v2 : List.length (m_law_grown_v2 p_cell p_shift) = List.length ((m_law_path_by p_cell p_shift)) := rfl
    have g2 := grown_v2 p_cell p_shift
    have gf : (m_law_grown_v2 p_cell p_shift).length ≤ 900 ∧ ∀ k ∈ dkeys (m_law_grown_v1 p_tree), k.length ≤ 900 := ⟨g2, hg.le9⟩
    have gl1 : (m_law_grown_v1 p_tree).length ≤ 1000 := hl
    refine q_cut (M := (fun (σ3m : L2.St) (H3m : Hp) => σ3m = [some (.ref ap_tree), some (V.int p_cell), some (V.int p_shift), some (.ref p1_made), some (vs (m_law_grown_v2 p_cell p_shift))] ∧ Ex H H3m ∧ RX H H3m ∧ H3m p1_made = some (.dK (kd vs (m_law_grown_v6 p_cell p_shift p_tree))))) ?_ ?_
    · refine s_if (b := ((dhas (m_law_grown_v1 p_tree) (m_law_grown_v2 p_cell p_shift)) && (decide (((p_cell / (135 : Int)) % (3 : Int)) = (0 : Int))))) (et_and (et_B (e_inD (f := vs) (l := (m_law_grown_v1 p_tree)) (k := (m_law_grown_v2 p_cell p_shift)) (ev_var rfl) (ev_var rfl) (Or.inl h1_made))) (fun hc => (et_test (e_eqI (e_mod (e_div (ev_var rfl) ev_c (by walk_at "vside")) ev_c (by walk_at "vside")) ev_c)))) (fun hb3 H3 e3a => ?_) (fun hb3 H3 e3a => ?_)
      · have e3 := Ex.trans e2 e3a
        have r3 := rx_of e3
        have h1_made := e3a _ _ h1_made
        have gin := (Bool.and_eq_true_iff.mp hb3).1
        refine s_popD (f := vs) (l := (m_law_grown_v1 p_tree)) (k := (m_law_grown_v2 p_cell p_shift)) [] (ev_var rfl) (ev_var rfl) h1_made (by walk_at "vside") fun H4 m4 => ?_
        have e4 := Mu.ex m4 e3 n1
        have r4 := rx_of e4
        have h1_made : H4 p1_made = some (.dK (kd vs (m_law_grown_v3 p_tree p_cell p_shift))) := Mu.at m4
        have hV3_0 : (m_law_grown_v6 p_cell p_shift p_tree) = (m_law_grown_v3 p_tree p_cell p_shift) := if_pos hb3
        exact ⟨rfl, e4, r4, (by rw [hV3_0]; exact h1_made)⟩
      · have e3 := Ex.trans e2 e3a
        have r3 := rx_of e3
        have h1_made := e3a _ _ h1_made
        refine q_cut (M := (fun (σ5m : L2.St) (H5m : Hp) => σ5m = [some (.ref ap_tree), some (V.int p_cell), some (V.int p_shift), some (.ref p1_made), some (vs (m_law_grown_v2 p_cell p_shift))] ∧ Ex H H5m ∧ RX H H5m ∧ H5m p1_made = some (.dK (kd vs (m_law_grown_v5 p_tree p_cell p_shift))))) ?_ ?_
        · refine s_when (b := (m_law_is_free (m_law_grown_v1 p_tree) (m_law_grown_v2 p_cell p_shift))) (et_B (ev_call (ea_cons (ev_var rfl) (ea_cons (ev_var rfl) ea_nil)) (sv_of fun HC eC => ⟨_, _, _, rfl, ex_rd eC (Or.inl h1_made), (by walk_at "vside"), rfl⟩))) (fun hb5 H5 e5a => ?_) (fun hb5 H5 e5a => ?_)
          · have e5 := Ex.trans e3 e5a
            have r5 := rx_of e5
            have h1_made := e5a _ _ h1_made
            refine s_putD (f := vs) (l := (m_law_grown_v1 p_tree)) (k := (m_law_grown_v2 p_cell p_shift)) (v := (m_law_line_by (p_cell / (405 : Int)) p_shift)) (ev_call (ea_cons (e_div (ev_var rfl) ev_c (by walk_at "vside")) (ea_cons (ev_var rfl) ea_nil)) (sv_of fun HC eC => ⟨_, _, rfl, rfl⟩)) (ev_var rfl) (ev_var rfl) h1_made (by walk_at "vside") fun H6 m6 => ?_
            have e6 := Mu.ex m6 e5 n1
            have r6 := rx_of e6
            have h1_made : H6 p1_made = some (.dK (kd vs (m_law_grown_v4 p_tree p_cell p_shift))) := Mu.at m6
            have hV5_0 : (m_law_grown_v5 p_tree p_cell p_shift) = (m_law_grown_v4 p_tree p_cell p_shift) := if_pos hb5
            exact ⟨rfl, e6, r6, (by rw [hV5_0]; exact h1_made)⟩
          · have e5 := Ex.trans e3 e5a
            have r5 := rx_of e5
            have h1_made := e5a _ _ h1_made
            have hV5_0 : (m_law_grown_v5 p_tree p_cell p_shift) = (m_law_grown_v1 p_tree) := if_neg (by rw [hb5]; exact Bool.false_ne_true)
            exact ⟨rfl, e5, r5, (by rw [hV5_0]; exact h1_made)⟩
        · intro σ5m H5m hq5m
          obtain ⟨rfl, e5m, r5m, h1_made⟩ := hq5m
          have fm_law_grown_v2 : List.length (m_law_grown_v2 p_cell p_shift) = List.length ((m_law_path_by p_cell p_shift)) := rfl
          have g2 := grown_v2 p_cell p_shift
          have gf : (m_law_grown_v2 p_cell p_shift).length ≤ 900 ∧ ∀ k ∈ dkeys (m_law_grown_v1 p_tree), k.length ≤ 900 := ⟨g2, hg.le9⟩
          have gl1 : (m_law_grown_v1 p_tree).length ≤ 1000 := hl
          have hV3_0 : (m_law_grown_v6 p_cell p_shift p_tree) = (m_law_grown_v5 p_tree p_cell p_shift) := if_neg (by rw [hb3]; exact Bool.false_ne_true)
          exact ⟨rfl, e5m, r5m, (by rw [hV3_0]; exact h1_made)⟩
    · intro σ3m H3m hq3m
      obtain ⟨rfl, e3m, r3m, h1_made⟩ := hq3m
      have fm_law_grown_v2 : List.length (m_law_grown_v2 p_cell p_shift) = List.length ((m_law_path_by p_cell p_shift)) := rfl
      have g2 := grown_v2 p_cell p_shift
      have gf : (m_law_grown_v2 p_cell p_shift).length ≤ 900 ∧ ∀ k ∈ dkeys (m_law_grown_v1 p_tree), k.length ≤ 900 := ⟨g2, hg.le9⟩
      have gl1 : (m_law_grown_v1 p_tree).length ≤ 1000 := hl
      exact s_ret (ev_var rfl) fun H7 e7a => k0 _ _ n1 (Ex.trans e3m e7a) (e7a _ _ h1_made)
def sp_law_word_of (K : PySem.W.Frag) : Sp := spW fun ws H v => ∃ (ap_tree : Addr) (p_tree : List (Tx × Tx)) (ap_deeds : Addr) (p_deeds : List (List Tx)), ws = [.ref ap_tree, .ref ap_deeds] ∧ Rd H ap_tree (.dK (kd vs p_tree)) ∧ IsLUr K H ap_deeds (List.map (List.map vs) p_deeds) ∧ (okRow p_deeds ∧ Good p_tree ∧ p_tree.length + p_deeds.length ≤ 1000) ∧ v = (m_law_word_of p_tree p_deeds)
theorem ok_law_word_of {f : Addr} {fd : FuncData} (F : Fun K "_law_word_of" "_law_word_of" s_law_word_of f fd) (z : Bt mg) (C_law_is_free : Cal P w K mg base 1 "_law_is_free" ["_law_tree", "_law_path"] (sp_law_is_free K)) : FnOk P w K mg base CX0 2 f fd ["_law_tree", "_law_deeds"] (sp_law_word_of K) := by
  refine F.ok (k := 1) sc_law_word_of (fun ws H Q E h => ?_) (fun cdv A outer s H ws Q E hr h => ?_)
  · obtain ⟨_, ⟨_, _, _, _, rfl, _⟩, _⟩ := h
    rfl
  · obtain ⟨_, ⟨ap_tree, p_tree, ap_deeds, p_deeds, rfl, hSp_tree, hSp_deeds, hpre, rfl⟩, k0⟩ := h
    obtain ⟨tk_MOST_PARTS, z_g_MOST_PARTS⟩ := z.g_MOST_PARTS
    obtain ⟨tk_MOST_SIGNS, z_g_MOST_SIGNS⟩ := z.g_MOST_SIGNS
    obtain ⟨tk_SIGNS, z_g_SIGNS⟩ := z.g_SIGNS
    have L_lNil := len_lNil
    have L_l_b2f10bc2 := len_l_b2f10bc2
    have L_l_7dbde935 := len_l_7dbde935
    have L_l_4fe0b609 := len_l_4fe0b609
    have L_lCut := len_lCut
    have L_l_a1dd7037 := len_l_a1dd7037
    have L_l_7c383fa6 := len_l_7c383fa6
    have hp1 := hpre.1
    have hp2 := hpre.2.1
    have hp3 := hpre.2.2
    refine ⟨_, (pss_cons (ps_set (i := 2) sc_law_word_of.nd rfl (Or.inl rfl) (pe_callTy call_dictD (by rfl) z.z_dict (by decide +kernel) (pa_cons (pv 0) pa_nil)))
      (pss_cons (ps_for PassesOwn.never rfl (pi_listK K (pv 1)) (pg_name (i := 3) sc_law_word_of.nd rfl (Or.inl rfl))
      (pss_cons (ps_if (pt_cmpR (op_inK K) (pe_ix (ix_tupK K) (pv 3) pe_int (fun _ _ => rfl)) (pe_lst (pa_cons pe_str (pa_cons pe_str (pa_cons pe_str pa_nil)))) (by rfl)) (pss_one (ps_ret pe_str)) pss_nil)
      (pss_cons (ps_if (PW.pt (pw_and (pt_cmpR op_eq (pe_ix (ix_tupK K) (pv 3) pe_int (fun _ _ => rfl)) pe_str (nomark _)) (pw_and1 (pt_cmp (pc_dnotin (hu_of hr) (pe_ix (ix_tupK K) (pv 3) pe_int (fun _ _ => rfl)) (pv 2)))))) (pss_one (ps_ret pe_str)) pss_nil)
      (pss_one (ps_if (pt_cmpR op_eq (pe_ix (ix_tupK K) (pv 3) pe_int (fun _ _ => rfl)) pe_str (nomark _)) (pss_one (ps_expr (pe_dpop1 (pv 2) (pe_ix (ix_tupK K) (pv 3) pe_int (fun _ _ => rfl)) ⟨rfl, rfl, rfl, rfl⟩))) (pss_one (ps_if (pt_not (pt_val (pe_cal C_law_is_free (hr.mono (by decide)) (by rfl) (pa_cons (pv 2) (pa_cons (pe_ix (ix_tupK K) (pv 3) pe_int (fun _ _ => rfl)) pa_nil))))) (pss_one (ps_ret pe_str)) (pss_one (ps_dput (hu_of hr) (pv 2) (pe_ix (ix_tupK K) (pv 3) pe_int (fun _ _ => rfl)) (pe_ix (ix_tupK K) (pv 3) pe_int (fun _ _ => rfl)) rfl)))))))))
      (pss_one (ps_ret (pv 2))))), ?_⟩
    refine q_asgK (kvs := kd vs (m_law_word_of_v1 p_tree)) (ek_is (k_copy (f := vs) (l := p_tree) (ev_var rfl) ((RX.refl H) _ _ hSp_tree)) rfl) fun p1_made H1 n1a e1a h1_made => ?_
    have n1 := fresh_back (Ex.refl H) n1a
    have e1 := Ex.trans (Ex.refl H) e1a
    have r1 := rx_of e1
    refine q_loopU (K := K) (R := (Wd)) (l := p_deeds) m_law_word_of_step1 (m_law_word_of_v1 p_tree) (fun tsU => (fun (s1 : List (Tx × Tx)) (σ1 : L2.St) (H1L : Hp) => ∃ (j1_0 : Option V), σ1 = [some (.ref ap_tree), some (.ref ap_deeds), some (.ref p1_made), j1_0] ∧ Ex H H1L ∧ RX H H1L ∧ H1L p1_made = some (.dK (kd vs s1)))) (ev_var rfl) hSp_deeds r1 (fun tsU H11 e11a hA hB => ⟨_, rfl, (Ex.trans e1 e11a), (rx_of (Ex.trans e1 e11a)), e11a _ _ h1_made⟩) (fun tsU s σ HQ hA hB hq => by obtain ⟨j1_0, rfl, e1L, r1L, h1_made⟩ := hq; exact ⟨rx_l r1L hA, tups_mono (fun _ _ => rx_t r1L) hB⟩) (fun tsU => ?_) (fun tsU => ?_)
    · intro Nx1 Bk1 i1 s1 y1 a1U σ1 H1L hy1 hrun1 hq1 ha1U hnx1 hbk1 hrt1
      obtain ⟨j1_0, rfl, e1L, r1L, h1_made⟩ := hq1
      have hm1 := List.mem_of_getElem? hy1
      have hlt1 := (List.getElem?_eq_some_iff.mp hy1).1
      have g1 := word_loop hpre hrun1 hy1
      have g1a := g1.1
      have g1b := g1.2.1
      have g1c := g1.2.2.1
      have g1d := g1.2.2.2
      have kq1_0 : m_law_word_of_step1 s1 y1 = (if (decide ((y1.getD (1 : Int).toNat []) ∈ [lNil, l_b2f10bc2, l_7dbde935])) = true then (Stp.ret (.txt l_4fe0b609)) else (if ((decide ((y1.getD (0 : Int).toNat []) = lCut)) && (!dhas s1 (y1.getD (1 : Int).toNat []))) = true then (Stp.ret (.txt l_a1dd7037)) else (if (decide ((y1.getD (0 : Int).toNat []) = lCut)) = true then (Stp.go (m_law_word_of_v2 s1 y1)) else (if (!(m_law_is_free s1 (y1.getD (1 : Int).toNat []))) = true then (Stp.ret (.txt l_7c383fa6)) else (Stp.go (m_law_word_of_v3 s1 y1)))))) := rfl
      refine q_when (b := (decide ((y1.getD (1 : Int).toNat []) ∈ [lNil, l_b2f10bc2, l_7dbde935]))) (et_test (e_inN (l := [lNil, l_b2f10bc2, l_7dbde935]) (e_ixU (f := vs) (l := y1) [] (ev_var rfl) ha1U ev_c (by walk_at "vside")) (el_lst (ea_cons (ev_is (w := vs lNil) e_lit rfl) (ea_cons (ev_is (w := vs l_b2f10bc2) e_lit rfl) (ea_cons (ev_is (w := vs l_7dbde935) e_lit rfl) ea_nil))) (by simp)))) (fun hb2 H2 e2a => ?_) (fun hb2 H2 e2a => ?_)
      · have e2 := Ex.trans e1L e2a
        have r2 := rx_of e2
        have h1_made := e2a _ _ h1_made
        have ha1U := ex_t e2a ha1U
        have kq1_1 := kq_T kq1_0 hb2
        have kr1 := hrt1 _ kq1_1
        exact s_ret (ev_is (w := vs l_4fe0b609) e_lit rfl) fun H3 e3a => (RetV.go (show RetV (vs l_4fe0b609) _ _ from (retW_run k0 kr1)) (Ex.trans e2 e3a))
      · have e2 := Ex.trans e1L e2a
        have r2 := rx_of e2
        have h1_made := e2a _ _ h1_made
        have ha1U := ex_t e2a ha1U
        have kq1_2 := kq_F kq1_0 hb2
        refine q_when (b := ((decide ((y1.getD (0 : Int).toNat []) = lCut)) && (!dhas s1 (y1.getD (1 : Int).toNat [])))) (et_and (et_test (e_eqT (e_ixU (f := vs) (l := y1) [] (ev_var rfl) ha1U ev_c (by walk_at "vside")) (ev_is (w := vs lCut) e_lit rfl))) (fun hc => (et_B (e_niD (f := vs) (l := s1) (k := (y1.getD (1 : Int).toNat [])) (e_ixU (f := vs) (l := y1) [] (ev_var rfl) ha1U ev_c (by walk_at "vside")) (ev_var rfl) (Or.inl h1_made))))) (fun hb4 H4 e4a => ?_) (fun hb4 H4 e4a => ?_)
        · have e4 := Ex.trans e2 e4a
          have r4 := rx_of e4
          have h1_made := e4a _ _ h1_made
          have ha1U := ex_t e4a ha1U
          have kq1_3 := kq_T kq1_2 hb4
          have kr1 := hrt1 _ kq1_3
          exact s_ret (ev_is (w := vs l_a1dd7037) e_lit rfl) fun H5 e5a => (RetV.go (show RetV (vs l_a1dd7037) _ _ from (retW_run k0 kr1)) (Ex.trans e4 e5a))
        · have e4 := Ex.trans e2 e4a
          have r4 := rx_of e4
          have h1_made := e4a _ _ h1_made
          have ha1U := ex_t e4a ha1U
          have gcut := hb4
          have kq1_4 := kq_F kq1_2 hb4
          refine s_if (b := (decide ((y1.getD (0 : Int).toNat []) = lCut))) (et_test (e_eqT (e_ixU (f := vs) (l := y1) [] (ev_var rfl) ha1U ev_c (by walk_at "vside")) (ev_is (w := vs lCut) e_lit rfl))) (fun hb6 H6 e6a => ?_) (fun hb6 H6 e6a => ?_)
          · have e6 := Ex.trans e4 e6a
            have r6 := rx_of e6
            have h1_made := e6a _ _ h1_made
            have ha1U := ex_t e6a ha1U
            have gin := cut_in hb6 gcut
            have kq1_5 := kq_T kq1_4 hb6
            refine s_popD (f := vs) (l := s1) (k := (y1.getD (1 : Int).toNat [])) [] (ev_var rfl) (e_ixU (f := vs) (l := y1) [] (ev_var rfl) ha1U ev_c (by walk_at "vside")) h1_made (by walk_at "vside") fun H7 m7 => ?_
            have e7 := Mu.ex m7 e6 n1
            have r7 := rx_of e7
            have ha1U := Mu.tup m7 h1_made trivial ha1U
            have h1_made : H7 p1_made = some (.dK (kd vs (m_law_word_of_v2 s1 y1))) := Mu.at m7
            exact hnx1 (m_law_word_of_v2 s1 y1) _ _ kq1_5 ⟨_, rfl, e7, r7, h1_made⟩
          · have e6 := Ex.trans e4 e6a
            have r6 := rx_of e6
            have h1_made := e6a _ _ h1_made
            have ha1U := ex_t e6a ha1U
            have g3 := row_three g1a hb6
            have kq1_6 := kq_F kq1_4 hb6
            refine s_if (b := (!(m_law_is_free s1 (y1.getD (1 : Int).toNat [])))) (et_not (et_B (ev_call (ea_cons (ev_var rfl) (ea_cons (e_ixU (f := vs) (l := y1) [] (ev_var rfl) ha1U ev_c (by walk_at "vside")) ea_nil)) (sv_of fun HC eC => ⟨_, _, _, rfl, ex_rd eC (Or.inl h1_made), (by walk_at "vside"), rfl⟩)))) (fun hb8 H8 e8a => ?_) (fun hb8 H8 e8a => ?_)
            · have e8 := Ex.trans e6 e8a
              have r8 := rx_of e8
              have h1_made := e8a _ _ h1_made
              have ha1U := ex_t e8a ha1U
              have kq1_7 := kq_T kq1_6 hb8
              have kr1 := hrt1 _ kq1_7
              exact s_ret (ev_is (w := vs l_7c383fa6) e_lit rfl) fun H9 e9a => (RetV.go (show RetV (vs l_7c383fa6) _ _ from (retW_run k0 kr1)) (Ex.trans e8 e9a))
            · have e8 := Ex.trans e6 e8a
              have r8 := rx_of e8
              have h1_made := e8a _ _ h1_made
              have ha1U := ex_t e8a ha1U
              have kq1_8 := kq_F kq1_6 hb8
              refine s_putD (f := vs) (l := s1) (k := (y1.getD (1 : Int).toNat [])) (v := (y1.getD (2 : Int).toNat [])) (e_ixU (f := vs) (l := y1) [] (ev_var rfl) ha1U ev_c (by walk_at "vside")) (ev_var rfl) (e_ixU (f := vs) (l := y1) [] (ev_var rfl) ha1U ev_c (by walk_at "vside")) h1_made (by walk_at "vside") fun H10 m10 => ?_
              have e10 := Mu.ex m10 e8 n1
              have r10 := rx_of e10
              have ha1U := Mu.tup m10 h1_made trivial ha1U
              have h1_made : H10 p1_made = some (.dK (kd vs (m_law_word_of_v3 s1 y1))) := Mu.at m10
              exact hnx1 (m_law_word_of_v3 s1 y1) _ _ kq1_8 ⟨_, rfl, e10, r10, h1_made⟩
    · intro s1 σ1 H1L hr1 hq1
      obtain ⟨j1_0, rfl, e1L, r1L, h1_made⟩ := hq1
      have k4r := retW_go k0 hr1
      exact s_ret (ev_var rfl) fun H13 e13a => (show RetK (kd vs s1) _ _ from k4r) _ _ n1 (Ex.trans e1L e13a) (e13a _ _ h1_made)
def sp_law_is_deed (K : PySem.W.Frag) : Sp := spP fun ws H v => ∃ (ap_deed : Addr) (p_deed : List Tx), ws = [.ref ap_deed] ∧ SqT K H ap_deed (List.map vs p_deed) ∧ (p_deed.length ≤ 1000) ∧ v = V.bl (m_law_is_deed p_deed)
theorem ok_law_is_deed {f : Addr} {fd : FuncData} (F : Fun K "_law_is_deed" "_law_is_deed" s_law_is_deed f fd) (z : Bt mg)  : FnOk P w K mg base CX0 1 f fd ["_law_deed"] (sp_law_is_deed K) := by
  refine F.ok (k := 0) sc_law_is_deed (fun ws H Q E h => ?_) (fun cdv A outer s H ws Q E hr h => ?_)
  · obtain ⟨_, ⟨_, _, rfl, _⟩, _⟩ := h
    rfl
  · obtain ⟨_, ⟨ap_deed, p_deed, rfl, hSp_deed, hpre, rfl⟩, k0⟩ := h
    obtain ⟨tk_MOST_PARTS, z_g_MOST_PARTS⟩ := z.g_MOST_PARTS
    obtain ⟨tk_MOST_SIGNS, z_g_MOST_SIGNS⟩ := z.g_MOST_SIGNS
    obtain ⟨tk_SIGNS, z_g_SIGNS⟩ := z.g_SIGNS
    refine ⟨_, (pss_cons (ps_if (PW.pt (pw_or (pt_not (pt_val (pe_callB (call_isiK' K) (by rfl) z.z_isinstance (by decide +kernel) (pa_cons (pv 0) (pa_cons (pe_bltn (v := .ty "tuple") (by rfl) z.z_tuple (by decide +kernel) rfl) pa_nil))))) (pw_or (pt_cmpR op_lt (pe_callB (call_lenK K) (by rfl) z.z_len PySem.boot_len (pa_cons (pv 0) pa_nil)) pe_int (nomark _)) (pw_or1 (pt_cmpR op_gt (pe_callB (call_lenK K) (by rfl) z.z_len PySem.boot_len (pa_cons (pv 0) pa_nil)) pe_int (nomark _)))))) (pss_one (ps_ret pe_bl)) pss_nil)
      (pss_one (ps_ret (pe_cmpR op_eq (pe_callB (call_lenK K) (by rfl) z.z_len PySem.boot_len (pa_cons (pe_lc (own := [("_law_part", 1)]) (g := gName 1) rfl sc_law_is_deed.nd (pi_tupK K (pv 0)) (blkOk_by (own := [("_law_part", 1)]) (N := ["_law_deed", "_law_part"]) (sc := defScope s_law_is_deed) (by decide +kernel)) (fun _ _ _ _ _ => pg_name (i := 1) sc_law_is_deed.nd rfl (Or.inl rfl)) (fun _ _ _ _ _ => pts_one (pt_not (pt_val (pe_callB (call_isiK' K) (by rfl) z.z_isinstance (by decide +kernel) (pa_cons (pv 1) (pa_cons (pe_bltn (v := .ty "str") (by rfl) z.z_str (by decide +kernel) rfl) pa_nil)))))) (fun _ _ _ _ _ => (pv 1))) pa_nil)) pe_int (nomark _))))), ?_⟩
    refine q_when (b := ((!true) || ((decide ((p_deed.length : Int) < (2 : Int))) || (decide ((p_deed.length : Int) > (3 : Int)))))) (et_or (et_not (et_B (e_isi (ev_var rfl) ev_c (.ty _) (fun _ eT => tyx_tup (ex_t eT (rx_t (RX.refl H) hSp_deed))) (kit_ty (by decide +kernel))))) (fun hc => (et_or (et_test (e_lt (e_lenTu (f := vs) (xs := p_deed) (ev_var rfl) (rx_t (RX.refl H) hSp_deed)) ev_c)) (fun hc => (et_test (e_gt (e_lenTu (f := vs) (xs := p_deed) (ev_var rfl) (rx_t (RX.refl H) hSp_deed)) ev_c)))))) (fun hb1 H1 e1a => ?_) (fun hb1 H1 e1a => ?_)
    · have e1 := Ex.trans (Ex.refl H) e1a
      have r1 := rx_of e1
      have k1a := ret_T k0 hb1
      exact s_ret ev_c fun H2 e2a => (RetV.go k1a (Ex.trans e1 e2a))
    · have e1 := Ex.trans (Ex.refl H) e1a
      have r1 := rx_of e1
      have k2b := ret_F k0 hb1
      exact s_ret (e_eqI (e_lenN (f := vs) (l := ((p_deed.filter (fun k0 : Tx => (!true))).map (fun k0 : Tx => k0))) (l_filU (K := K) (f := vs) (m := p_deed) (f2 := vs) (fun k0 : Tx => (!true)) (fun k0 : Tx => k0) [] (ev_var rfl) (rx_t r1 hSp_deed) (by walk_at "vside") (fun k0 hm => (et_not (et_B (e_isi (ev_var rfl) ev_c (.ty _) (fun _ _ => TyX.base (TyOf.str _)) (kit_ty (by decide +kernel)))))) (fun k0 hm hc => (ev_var rfl)))) ev_c) fun H3 e3a => (RetV.go k2b (Ex.trans e1 e3a))
theorem len_told {ws : List V} {H : Hp} {r : Res (List (Tx × Tx))} (h : R_changed K ws H r) : ∃ v0 v1, ws = [v0, v1] := by
  obtain ⟨_, _, _, _, rfl, _⟩ := h
  exact ⟨_, _, rfl⟩
theorem grow_told {ws : List V} {H H1 : Hp} {r : Res (List (Tx × Tx))} (e : Ex H H1) (h : R_changed K ws H r) : R_changed K ws H1 r := by
  obtain ⟨aptree, ptree, apdeeds, pdeeds, rfl, hSptree, hSpdeeds, hpre, rfl⟩ := h
  exact ⟨_, _, _, _, rfl, ex_rd e hSptree, IsLUr.ex hSpdeeds e, hpre, rfl⟩
theorem told_kinds {ws : List V} {H : Hp} {k : Nat} (h : R_changed K ws H (.exc k)) : k = 1 ∨ k = 2 ∨ k = 3 := by
  obtain ⟨_, _, _, _, _, _, _, hpre, e⟩ := h
  exact kinds_changed hpre e.symm
def sp_law_told (K : PySem.W.Frag) : Sp := spW fun ws H v => ∃ (ap_tree : Addr) (p_tree : List (Tx × Tx)) (ap_deeds : Addr) (p_deeds : List (List Tx)), ws = [.ref ap_tree, .ref ap_deeds] ∧ Rd H ap_tree (.dK (kd vs p_tree)) ∧ IsLUr K H ap_deeds (List.map (List.map vs) p_deeds) ∧ (okRow p_deeds ∧ Good p_tree ∧ p_tree.length + p_deeds.length ≤ 1000) ∧ v = m_law_told p_tree p_deeds
theorem ok_law_told {f : Addr} {fd : FuncData} {Cs : Nat → Addr} (G : EG mg Cs) (F : Fun K "_law_told" "_law_told" s_law_told f fd) (z : Bt mg) (C_changed : CalX P w K mg base 4 "changed" ["tree", "deeds"] (sp_changed K Cs)) (E1 : ErrD K Cs [1, 2, 3] 1) (E2 : ErrD K Cs [1, 2, 3] 2) (E3 : ErrD K Cs [1, 2, 3] 3) : FnOk P w K mg base CX0 5 f fd ["_law_tree", "_law_deeds"] (sp_law_told K) := by
  refine F.ok (k := 4) sc_law_told (fun ws H Q E h => ?_) (fun cdv A outer s H ws Q E hr h => ?_)
  · obtain ⟨_, ⟨_, _, _, _, rfl, _, _, _, _⟩, _⟩ := h
    rfl
  · obtain ⟨_, ⟨a0, a1, a2, a3, rfl, g0, g1, gp, rfl⟩, k00⟩ := h
    have hR : R_changed K [V.ref a0, V.ref a2] H (m_changed a1 a3) := ⟨_, _, _, _, rfl, g0, g1, gp, rfl⟩
    have k0 : RetW (toW (m_changed a1 a3)) H Q := k00
    generalize m_changed a1 a3 = r at hR k0
    clear k00
    refine ⟨_, pss_one (ps_try_manyA (i := 2) rfl rfl sc_law_told.nd rfl rfl takesN0 (fun W pn xe tk _ => pss_one (ps_ret (pe_calX C_changed tk (hr.mono (by decide)) (by rfl) (pa_cons (pv 0) (pa_cons (pv 1) pa_nil)))))
        (HdsA.cons ⟨rfl, by decide, .inl G.g1⟩ (fun a oe cls d pn hz hf => (pss_one (ps_ret (pe_op op_mulT pe_str (pe_callTy call_int1 (by rfl) z.z_int (by decide +kernel) (pa_cons (pe_callB (call_isX K hz hf) (by rfl) z.z_isinstance (by decide +kernel) (pa_cons (pv 2) (pa_cons (pe_glob (v := .ref (Cs 0)) (by rfl) G.g0 rfl) pa_nil))) pa_nil))))))
        (HdsA.cons ⟨rfl, by decide, .inl G.g2⟩ (fun a oe cls d pn hz hf => (pss_one (ps_ret (pe_op op_mulT pe_str (pe_callTy call_int1 (by rfl) z.z_int (by decide +kernel) (pa_cons (pe_callB (call_isX K hz hf) (by rfl) z.z_isinstance (by decide +kernel) (pa_cons (pv 2) (pa_cons (pe_glob (v := .ref (Cs 0)) (by rfl) G.g0 rfl) pa_nil))) pa_nil))))))
        (HdsA.cons ⟨rfl, by decide, .inl G.g3⟩ (fun a oe cls d pn hz hf => (pss_one (ps_ret (pe_op op_mulT pe_str (pe_callTy call_int1 (by rfl) z.z_int (by decide +kernel) (pa_cons (pe_callB (call_isX K hz hf) (by rfl) z.z_isinstance (by decide +kernel) (pa_cons (pv 2) (pa_cons (pe_glob (v := .ref (Cs 0)) (by rfl) G.g0 rfl) pa_nil))) pa_nil))))))
        HdsA.nil)))), ?_⟩
    refine x_call (r := r) (ea_cons (ev_var rfl) (ea_cons (ev_var rfl) ea_nil)) (fun H1 e1 => grow_told e1 hR) (fun l er H1 e1 => ?_) (fun k er H1 e1 => ?_)
    · subst er
      exact fun p H2 np e2 hp => (show RetK (kd vs l) H Q from k0) p H2 (fresh_back e1 np) (e1.trans e2) hp
    · subst er
      have k1 : RetV (vs (word k)) H Q := k0
      rcases told_kinds hR with rfl | rfl | rfl
      · refine ⟨true, E1.ex 1 (by decide), fun _ a na => ?_, fun z => nomatch z⟩
        refine s_ret (v := vs (word 1)) (ev_is (e_mulT (p := word 1) (n := if true = true then 1 else 0) (ev_is (w := vs (word 1)) e_lit rfl) (e_intB (e_isX rfl rfl E1.ec (ev_var rfl) ev_c relv_ref E1.kit)) (by decide)) (by rw [rep_one])) fun H2 e2 => k1 _ (e1.trans e2)
      · refine ⟨false, E2.ex 1 (by decide), (fun z => nomatch z), fun _ => ⟨true, E2.ex 2 (by decide), fun _ a na => ?_, fun z => nomatch z⟩⟩
        refine s_ret (v := vs (word 2)) (ev_is (e_mulT (p := word 2) (n := if true = true then 1 else 0) (ev_is (w := vs (word 2)) e_lit rfl) (e_intB (e_isX rfl rfl E2.ec (ev_var rfl) ev_c relv_ref E2.kit)) (by decide)) (by rw [rep_one])) fun H2 e2 => k1 _ (e1.trans e2)
      · refine ⟨false, E3.ex 1 (by decide), (fun z => nomatch z), fun _ => ⟨false, E3.ex 2 (by decide), (fun z => nomatch z), fun _ => ⟨true, E3.ex 3 (by decide), fun _ a na => ?_, fun z => nomatch z⟩⟩⟩
        refine s_ret (v := vs (word 3)) (ev_is (e_mulT (p := word 3) (n := if true = true then 1 else 0) (ev_is (w := vs (word 3)) e_lit rfl) (e_intB (e_isX rfl rfl E3.ec (ev_var rfl) ev_c relv_ref E3.kit)) (by decide)) (by rw [rep_one])) fun H2 e2 => k1 _ (e1.trans e2)
def sp_law_trees (K : PySem.W.Frag) : Sp := spT2 fun ws H v => ∃ (ap_script : Addr) (p_script : List Int), ws = [.ref ap_script] ∧ SqL K H ap_script (List.map V.int p_script) ∧ v = (kd vs (m_law_trees p_script).1, kd vs (m_law_trees p_script).2)
theorem ok_law_trees {f : Addr} {fd : FuncData} (F : Fun K "_law_trees" "_law_trees" s_law_trees f fd) (z : Bt mg) (C_law_cell_at : Cal P w K mg base 1 "_law_cell_at" ["_law_script", "_law_k"] (sp_law_cell_at K)) (C_law_grown : Cal P w K mg base 4 "_law_grown" ["_law_tree", "_law_cell", "_law_shift"] (sp_law_grown K)) (C_law_line_by : Cal P w K mg base 1 "_law_line_by" ["_law_k", "_law_shift"] (sp_law_line_by K)) : FnOk P w K mg base CX0 5 f fd ["_law_script"] (sp_law_trees K) := by
  refine F.ok (k := 4) sc_law_trees (fun ws H Q E h => ?_) (fun cdv A outer s H ws Q E hr h => ?_)
  · obtain ⟨_, ⟨_, _, rfl, _⟩, _⟩ := h
    rfl
  · obtain ⟨_, ⟨ap_script, p_script, rfl, hSp_script, rfl⟩, k0⟩ := h
    obtain ⟨tk_MOST_PARTS, z_g_MOST_PARTS⟩ := z.g_MOST_PARTS
    obtain ⟨tk_MOST_SIGNS, z_g_MOST_SIGNS⟩ := z.g_MOST_SIGNS
    obtain ⟨tk_SIGNS, z_g_SIGNS⟩ := z.g_SIGNS
    have L_lTops := len_lTops
    have L_lSlx := len_lSlx
    refine ⟨_, (pss_cons (ps_set (i := 1) sc_law_trees.nd rfl (Or.inl rfl) (pe_cal C_law_cell_at (hr.mono (by decide)) (by rfl) (pa_cons (pv 0) (pa_cons pe_int pa_nil))))
      (pss_cons (ps_set (i := 2) sc_law_trees.nd rfl (Or.inl rfl) pe_dnewK)
      (pss_cons (ps_for PassesOwn.never rfl (pi_range1 (by rfl) z.z_range (pa_cons (pe_op op_mod (pe_cal C_law_cell_at (hr.mono (by decide)) (by rfl) (pa_cons (pv 0) (pa_cons pe_int pa_nil))) pe_int) pa_nil)) (pg_name (i := 3) sc_law_trees.nd rfl (Or.inl rfl))
      (pss_one (ps_set (i := 2) sc_law_trees.nd rfl (Or.inl rfl) (pe_cal C_law_grown (hr.mono (by decide)) (by rfl) (pa_cons (pv 2) (pa_cons (pe_cal C_law_cell_at (hr.mono (by decide)) (by rfl) (pa_cons (pv 0) (pa_cons (pe_op op_add pe_int (pv 3)) pa_nil))) (pa_cons (pv 1) pa_nil)))))))
      (pss_cons (ps_for PassesOwn.never rfl (pi_range1 (by rfl) z.z_range (pa_cons (pe_ix (ix_listK K) (pe_lst (pa_cons pe_int (pa_cons pe_int (pa_cons pe_int (pa_cons pe_int (pa_cons pe_int (pa_cons pe_int (pa_cons pe_int (pa_cons pe_int (pa_cons pe_int (pa_cons pe_int (pa_cons pe_int (pa_cons pe_int (pa_cons pe_int (pa_cons pe_int (pa_cons pe_int (pa_cons pe_int pa_nil))))))))))))))))) (pe_op op_mod (pe_op op_fdiv (pe_cal C_law_cell_at (hr.mono (by decide)) (by rfl) (pa_cons (pv 0) (pa_cons pe_int pa_nil))) pe_int) pe_int) (fun _ _ => rfl)) pa_nil)) (pg_name (i := 4) sc_law_trees.nd rfl (Or.inl rfl))
      (pss_cut (ps_if (pt_cmp (pc_dnotin (hu_of hr) (pe_op op_addT pe_str (pe_callTy call_str_int (by rfl) z.z_str (by decide +kernel) (pa_cons (pv 4) pa_nil))) (pv 2))) (pss_one (ps_dput (hu_of hr) (pv 2) (pe_op op_addT (pe_op op_addT pe_str (pe_callTy call_str_int (by rfl) z.z_str (by decide +kernel) (pa_cons (pv 4) pa_nil))) pe_str) (pe_cal C_law_line_by (hr.mono (by decide)) (by rfl) (pa_cons (pe_op op_mod (pv 4) pe_int) (pa_cons (pv 1) pa_nil))) rfl)) pss_nil)
      pss_nil))
      (pss_cons (ps_set (i := 5) sc_law_trees.nd rfl (Or.inl rfl) (pe_callTy call_dictD (by rfl) z.z_dict (by decide +kernel) (pa_cons (pv 2) pa_nil)))
      (pss_cut (ps_if (pt_cmpR op_eq (pe_op op_mod (pe_cal C_law_cell_at (hr.mono (by decide)) (by rfl) (pa_cons (pv 0) (pa_cons pe_int pa_nil))) pe_int) pe_int (nomark _)) (pss_one (ps_set (i := 5) sc_law_trees.nd rfl (Or.inl rfl) pe_dnewK)) pss_nil)
      (pss_cons (ps_for PassesOwn.never rfl (pi_range1 (by rfl) z.z_range (pa_cons (pe_op op_mod (pe_op op_fdiv (pe_cal C_law_cell_at (hr.mono (by decide)) (by rfl) (pa_cons (pv 0) (pa_cons pe_int pa_nil))) pe_int) pe_int) pa_nil)) (pg_name (i := 3) sc_law_trees.nd rfl (Or.inl rfl))
      (pss_one (ps_set (i := 5) sc_law_trees.nd rfl (Or.inl rfl) (pe_cal C_law_grown (hr.mono (by decide)) (by rfl) (pa_cons (pv 5) (pa_cons (pe_cal C_law_cell_at (hr.mono (by decide)) (by rfl) (pa_cons (pv 0) (pa_cons (pe_op op_add pe_int (pv 3)) pa_nil))) (pa_cons (pv 1) pa_nil)))))))
      (pss_one (ps_ret (pe_tup (pa_cons (pv 2) (pa_cons (pv 5) pa_nil)))))))))))), ?_⟩
    refine q_asg (v := V.int (m_law_trees_v1 p_script)) (ev_is (ev_call (ea_cons (ev_var rfl) (ea_cons ev_c ea_nil)) (sv_of fun HC eC => ⟨_, _, _, rfl, ex_l eC (rx_l (RX.refl H) hSp_script), (by walk_at "vside"), rfl⟩)) rfl) fun H1 e1a => ?_
    have e1 := Ex.trans (Ex.refl H) e1a
    have r1 := rx_of e1
    have fm_law_trees_v1 : (m_law_trees_v1 p_script) = (m_law_cell_at p_script (0 : Int)) := rfl
    refine q_asgK (kvs := kd vs m_law_trees_v2) (ek_is k_new rfl) fun p2_old H2 n2a e2a h2_old => ?_
    have n2 := fresh_back e1 n2a
    have e2 := Ex.trans e1 e2a
    have r2 := rx_of e2
    refine q_loopR (R := Unit) (n := ((m_law_cell_at p_script (1 : Int)) % (8 : Int))) (m_law_trees_step1 p_script) m_law_trees_v2 (fun (s1 : List (Tx × Tx)) (σ1 : L2.St) (H1L : Hp) => ∃ (j1_0 : Option V) (pM1_old : Addr), σ1 = [some (.ref ap_script), some (V.int (m_law_trees_v1 p_script)), some (.ref pM1_old), j1_0, none, none] ∧ Ex H H1L ∧ RX H H1L ∧ H1L pM1_old = some (.dK (kd vs s1)) ∧ H pM1_old = none) (ea_cons (e_mod (ev_call (ea_cons (ev_var rfl) (ea_cons ev_c ea_nil)) (sv_of fun HC eC => ⟨_, _, _, rfl, ex_l eC (rx_l r2 hSp_script), (by walk_at "vside"), rfl⟩)) ev_c (by walk_at "vside")) ea_nil) (by walk_at "vside") (fun H4 e4a => ⟨_, _, rfl, (Ex.trans e2 e4a), (rx_of (Ex.trans e2 e4a)), e4a _ _ h2_old, n2⟩) ?_ ?_
    · intro Nx1 Bk1 i1 s1 y1 σ1 H1L hy1 hrun1 hq1 hnx1 hbk1 hrt1
      obtain ⟨j1_0, pM1_old, rfl, e1L, r1L, hM1_old, nM1_old⟩ := hq1
      have hk1 := List.mem_range.mp (List.mem_of_getElem? hy1)
      have g1 := trees1 p_script hrun1 hy1
      have kq1_0 : (m_law_trees_step1 p_script) s1 y1 = (Stp.go (m_law_trees_v3 s1 p_script y1)) := rfl
      refine s_asgK (kvs := kd vs (m_law_trees_v3 s1 p_script y1)) (ek_is (ek_call (ea_cons (ev_var rfl) (ea_cons (ev_call (ea_cons (ev_var rfl) (ea_cons (e_add ev_c (ev_var rfl)) ea_nil)) (sv_of fun HC eC => ⟨_, _, _, rfl, ex_l eC (rx_l r1L hSp_script), (by walk_at "vside"), rfl⟩)) (ea_cons (ev_var rfl) ea_nil))) (sk_of fun HC eC => ⟨_, _, _, _, rfl, ex_rd eC (Or.inl hM1_old), (by walk_at "vside"), rfl⟩)) rfl) fun p3_old H3 n3a e3a h3_old => ?_
      have n3 := fresh_back e1L n3a
      have e3 := Ex.trans e1L e3a
      have r3 := rx_of e3
      exact hnx1 (m_law_trees_v3 s1 p_script y1) _ _ kq1_0 ⟨_, _, rfl, e3, r3, h3_old, n3⟩
    · intro s1 σ1 H1L hr1 hq1
      obtain ⟨j1_0, pM1_old, rfl, e1L, r1L, hM1_old, nM1_old⟩ := hq1
      obtain rfl : (m_law_trees_v4 p_script) = s1 := (outL_of hr1).symm
      have gr := tops_range (((m_law_cell_at p_script (1 : Int)) / (8 : Int)) % (16 : Int)).toNat
      refine q_loopR (R := Unit) (n := ([(0 : Int), (60 : Int), (0 : Int), (0 : Int), (170 : Int), (0 : Int), (0 : Int), (0 : Int), (0 : Int), (60 : Int), (0 : Int), (0 : Int), (0 : Int), (0 : Int), (0 : Int), (0 : Int)].getD (((m_law_cell_at p_script (1 : Int)) / (8 : Int)) % (16 : Int)).toNat 0)) (m_law_trees_step2 p_script) (m_law_trees_v4 p_script) (fun (s2 : List (Tx × Tx)) (σ2 : L2.St) (H2L : Hp) => ∃ (j2_0 : Option V), σ2 = [some (.ref ap_script), some (V.int (m_law_trees_v1 p_script)), some (.ref pM1_old), j1_0, j2_0, none] ∧ Ex H H2L ∧ RX H H2L ∧ H2L pM1_old = some (.dK (kd vs s2))) (ea_cons (e_ixN (f := V.int) (l := [(0 : Int), (60 : Int), (0 : Int), (0 : Int), (170 : Int), (0 : Int), (0 : Int), (0 : Int), (0 : Int), (60 : Int), (0 : Int), (0 : Int), (0 : Int), (0 : Int), (0 : Int), (0 : Int)]) 0 (el_lst (ea_cons ev_c (ea_cons ev_c (ea_cons ev_c (ea_cons ev_c (ea_cons ev_c (ea_cons ev_c (ea_cons ev_c (ea_cons ev_c (ea_cons ev_c (ea_cons ev_c (ea_cons ev_c (ea_cons ev_c (ea_cons ev_c (ea_cons ev_c (ea_cons ev_c (ea_cons ev_c ea_nil)))))))))))))))) (by simp)) (e_mod (e_div (ev_call (ea_cons (ev_var rfl) (ea_cons ev_c ea_nil)) (sv_of fun HC eC => ⟨_, _, _, rfl, ex_l eC (rx_l r1L hSp_script), (by walk_at "vside"), rfl⟩)) ev_c (by walk_at "vside")) ev_c (by walk_at "vside")) (by walk_at "vside")) ea_nil) (by walk_at "vside") (fun H8 e8a => ⟨_, rfl, (Ex.trans e1L e8a), (rx_of (Ex.trans e1L e8a)), e8a _ _ hM1_old⟩) ?_ ?_
      · intro Nx2 Bk2 i2 s2 y2 σ2 H2L hy2 hrun2 hq2 hnx2 hbk2 hrt2
        obtain ⟨j2_0, rfl, e2L, r2L, hM1_old⟩ := hq2
        have hk2 := List.mem_range.mp (List.mem_of_getElem? hy2)
        have g2 := trees2 p_script hrun2 hy2
        have gd2 := dec_len y2 g2.2
        have gl2 := small_log y2 g2.2
        have kq2_0 : (m_law_trees_step2 p_script) s2 y2 = (Stp.go (m_law_trees_v6 y2 s2 p_script)) := rfl
        refine q_cut (M := (fun (σ6m : L2.St) (H6m : Hp) => σ6m = [some (.ref ap_script), some (V.int (m_law_trees_v1 p_script)), some (.ref pM1_old), j1_0, some (V.int (y2 : Int)), none] ∧ Ex H H6m ∧ RX H H6m ∧ H6m pM1_old = some (.dK (kd vs (m_law_trees_v6 y2 s2 p_script))))) ?_ ?_
        · refine s_when (b := (!dhas s2 (lTops ++ (dec (y2 : Int))))) (et_B (e_niD (f := vs) (l := s2) (k := (lTops ++ (dec (y2 : Int)))) (e_addT (ev_is (w := vs lTops) e_lit rfl) (e_strI (ev_var rfl) (by walk_at "vside")) (by walk_at "vside")) (ev_var rfl) (Or.inl hM1_old))) (fun hb6 H6 e6a => ?_) (fun hb6 H6 e6a => ?_)
          · have e6 := Ex.trans e2L e6a
            have r6 := rx_of e6
            have hM1_old := e6a _ _ hM1_old
            refine s_putD (f := vs) (l := s2) (k := ((lTops ++ (dec (y2 : Int))) ++ lSlx)) (v := (m_law_line_by ((y2 : Int) % (3 : Int)) (m_law_trees_v1 p_script))) (ev_call (ea_cons (e_mod (ev_var rfl) ev_c (by walk_at "vside")) (ea_cons (ev_var rfl) ea_nil)) (sv_of fun HC eC => ⟨_, _, rfl, rfl⟩)) (ev_var rfl) (e_addT (e_addT (ev_is (w := vs lTops) e_lit rfl) (e_strI (ev_var rfl) (by walk_at "vside")) (by walk_at "vside")) (ev_is (w := vs lSlx) e_lit rfl) (by walk_at "vside")) hM1_old (by walk_at "vside") fun H7 m7 => ?_
            have e7 := Mu.ex m7 e6 nM1_old
            have r7 := rx_of e7
            have hM1_old : H7 pM1_old = some (.dK (kd vs (m_law_trees_v5 s2 y2 p_script))) := Mu.at m7
            have hV6_0 : (m_law_trees_v6 y2 s2 p_script) = (m_law_trees_v5 s2 y2 p_script) := if_pos hb6
            exact ⟨rfl, e7, r7, (by rw [hV6_0]; exact hM1_old)⟩
          · have e6 := Ex.trans e2L e6a
            have r6 := rx_of e6
            have hM1_old := e6a _ _ hM1_old
            have hV6_0 : (m_law_trees_v6 y2 s2 p_script) = s2 := if_neg (by rw [hb6]; exact Bool.false_ne_true)
            exact ⟨rfl, e6, r6, (by rw [hV6_0]; exact hM1_old)⟩
        · intro σ6m H6m hq6m
          obtain ⟨rfl, e6m, r6m, hM1_old⟩ := hq6m
          have fm_law_trees_v1 : (m_law_trees_v1 p_script) = (m_law_cell_at p_script (0 : Int)) := rfl
          exact hnx2 (m_law_trees_v6 y2 s2 p_script) _ _ kq2_0 ⟨_, rfl, e6m, r6m, hM1_old⟩
      · intro s2 σ2 H2L hr2 hq2
        obtain ⟨j2_0, rfl, e2L, r2L, hM1_old⟩ := hq2
        obtain rfl : (m_law_trees_v7 p_script) = s2 := (outL_of hr2).symm
        refine q_asgK (kvs := kd vs (m_law_trees_v8 p_script)) (ek_is (k_copy (f := vs) (l := (m_law_trees_v7 p_script)) (ev_var rfl) (Or.inl hM1_old)) rfl) fun p10_new H10 n10a e10a h10_new => ?_
        have n10 := fresh_back e2L n10a
        have d_pM1_old_p10_new := ne_of_none hM1_old n10a
        have e10 := Ex.trans e2L e10a
        have r10 := rx_of e10
        have hM1_old := e10a _ _ hM1_old
        refine q_cut (M := (fun (σ11m : L2.St) (H11m : Hp) => ∃ (p11m_new : Addr), σ11m = [some (.ref ap_script), some (V.int (m_law_trees_v1 p_script)), some (.ref pM1_old), j1_0, j2_0, some (.ref p11m_new)] ∧ Ex H H11m ∧ RX H H11m ∧ H11m pM1_old = some (.dK (kd vs (m_law_trees_v7 p_script))) ∧ H11m p11m_new = some (.dK (kd vs (m_law_trees_v10 p_script))) ∧ H p11m_new = none ∧ p11m_new ≠ pM1_old)) ?_ ?_
        · refine s_when (b := (decide (((m_law_cell_at p_script (2 : Int)) % (5 : Int)) = (1 : Int)))) (et_test (e_eqI (e_mod (ev_call (ea_cons (ev_var rfl) (ea_cons ev_c ea_nil)) (sv_of fun HC eC => ⟨_, _, _, rfl, ex_l eC (rx_l r10 hSp_script), (by walk_at "vside"), rfl⟩)) ev_c (by walk_at "vside")) ev_c)) (fun hb11 H11 e11a => ?_) (fun hb11 H11 e11a => ?_)
          · have e11 := Ex.trans e10 e11a
            have r11 := rx_of e11
            have hM1_old := e11a _ _ hM1_old
            have h10_new := e11a _ _ h10_new
            refine s_asgK (kvs := kd vs m_law_trees_v9) (ek_is k_new rfl) fun p12_new H12 n12a e12a h12_new => ?_
            have n12 := fresh_back e11 n12a
            have d_pM1_old_p12_new := ne_of_none hM1_old n12a
            have e12 := Ex.trans e11 e12a
            have r12 := rx_of e12
            have hM1_old := e12a _ _ hM1_old
            have hV11_0 : (m_law_trees_v10 p_script) = m_law_trees_v9 := if_pos hb11
            exact ⟨p12_new, rfl, e12, r12, hM1_old, (by rw [hV11_0]; exact h12_new), n12, (by first | exact d_p12_new_pM1_old | exact Ne.symm d_pM1_old_p12_new)⟩
          · have e11 := Ex.trans e10 e11a
            have r11 := rx_of e11
            have hM1_old := e11a _ _ hM1_old
            have h10_new := e11a _ _ h10_new
            have hV11_0 : (m_law_trees_v10 p_script) = (m_law_trees_v8 p_script) := if_neg (by rw [hb11]; exact Bool.false_ne_true)
            exact ⟨p10_new, rfl, e11, r11, hM1_old, (by rw [hV11_0]; exact h10_new), n10, (by first | exact d_p10_new_pM1_old | exact Ne.symm d_pM1_old_p10_new)⟩
        · intro σ11m H11m hq11m
          obtain ⟨p11m_new, rfl, e11m, r11m, hM1_old, h11m_new, n11m_new, d_p11m_new_pM1_old⟩ := hq11m
          have fm_law_trees_v1 : (m_law_trees_v1 p_script) = (m_law_cell_at p_script (0 : Int)) := rfl
          refine q_loopR (R := Unit) (n := (((m_law_cell_at p_script (2 : Int)) / (5 : Int)) % (7 : Int))) (m_law_trees_step3 p_script) (m_law_trees_v10 p_script) (fun (s3 : List (Tx × Tx)) (σ3 : L2.St) (H3L : Hp) => ∃ (j3_0 : Option V) (pM3_new : Addr), σ3 = [some (.ref ap_script), some (V.int (m_law_trees_v1 p_script)), some (.ref pM1_old), j3_0, j2_0, some (.ref pM3_new)] ∧ Ex H H3L ∧ RX H H3L ∧ H3L pM1_old = some (.dK (kd vs (m_law_trees_v7 p_script))) ∧ H3L pM3_new = some (.dK (kd vs s3)) ∧ H pM3_new = none ∧ pM3_new ≠ pM1_old) (ea_cons (e_mod (e_div (ev_call (ea_cons (ev_var rfl) (ea_cons ev_c ea_nil)) (sv_of fun HC eC => ⟨_, _, _, rfl, ex_l eC (rx_l r11m hSp_script), (by walk_at "vside"), rfl⟩)) ev_c (by walk_at "vside")) ev_c (by walk_at "vside")) ea_nil) (by walk_at "vside") (fun H14 e14a => ⟨_, _, rfl, (Ex.trans e11m e14a), (rx_of (Ex.trans e11m e14a)), e14a _ _ hM1_old, e14a _ _ h11m_new, n11m_new, (by first | exact d_p11m_new_pM1_old | exact Ne.symm d_pM1_old_p11m_new)⟩) ?_ ?_
          · intro Nx3 Bk3 i3 s3 y3 σ3 H3L hy3 hrun3 hq3 hnx3 hbk3 hrt3
            obtain ⟨j3_0, pM3_new, rfl, e3L, r3L, hM1_old, hM3_new, nM3_new, d_pM3_new_pM1_old⟩ := hq3
            have hk3 := List.mem_range.mp (List.mem_of_getElem? hy3)
            have g3 := trees3 p_script hrun3 hy3
            have kq3_0 : (m_law_trees_step3 p_script) s3 y3 = (Stp.go (m_law_trees_v11 s3 p_script y3)) := rfl
            refine s_asgK (kvs := kd vs (m_law_trees_v11 s3 p_script y3)) (ek_is (ek_call (ea_cons (ev_var rfl) (ea_cons (ev_call (ea_cons (ev_var rfl) (ea_cons (e_add ev_c (ev_var rfl)) ea_nil)) (sv_of fun HC eC => ⟨_, _, _, rfl, ex_l eC (rx_l r3L hSp_script), (by walk_at "vside"), rfl⟩)) (ea_cons (ev_var rfl) ea_nil))) (sk_of fun HC eC => ⟨_, _, _, _, rfl, ex_rd eC (Or.inl hM3_new), (by walk_at "vside"), rfl⟩)) rfl) fun p13_new H13 n13a e13a h13_new => ?_
            have n13 := fresh_back e3L n13a
            have d_pM1_old_p13_new := ne_of_none hM1_old n13a
            have e13 := Ex.trans e3L e13a
            have r13 := rx_of e13
            have hM1_old := e13a _ _ hM1_old
            exact hnx3 (m_law_trees_v11 s3 p_script y3) _ _ kq3_0 ⟨_, _, rfl, e13, r13, hM1_old, h13_new, n13, (by first | exact d_p13_new_pM1_old | exact Ne.symm d_pM1_old_p13_new)⟩
          · intro s3 σ3 H3L hr3 hq3
            obtain ⟨j3_0, pM3_new, rfl, e3L, r3L, hM1_old, hM3_new, nM3_new, d_pM3_new_pM1_old⟩ := hq3
            obtain rfl : (m_law_trees_v12 p_script) = s3 := (outL_of hr3).symm
            exact s_retU (eu_tup (ea_cons (ev_var rfl) (ea_cons (ev_var rfl) ea_nil)) (by simp)) fun pR H16 nR e16a hR => k0 pR pM1_old pM3_new _ (fresh_back e3L nR) nM1_old nM3_new (by first | exact d_pM1_old_pM3_new | exact Ne.symm d_pM3_new_pM1_old) (Ex.trans e3L e16a) hR (e16a _ _ hM1_old) (e16a _ _ hM3_new)
def sp_law_odd_deed (K : PySem.W.Frag) : Sp := spTu K fun ws H v => ∃ (p_cell : Int) (ap_new : Addr) (p_new : List (Tx × Tx)), ws = [V.int p_cell, .ref ap_new] ∧ Rd H ap_new (.dK (kd vs p_new)) ∧ (Good p_new ∧ p_new.length ≤ 1000) ∧ v = List.map vs (m_law_odd_deed p_cell p_new)
theorem ok_law_odd_deed {f : Addr} {fd : FuncData} (F : Fun K "_law_odd_deed" "_law_odd_deed" s_law_odd_deed f fd) (z : Bt mg)  : FnOk P w K mg base CX0 1 f fd ["_law_cell", "_law_new"] (sp_law_odd_deed K) := by
  refine F.ok (k := 0) sc_law_odd_deed (fun ws H Q E h => ?_) (fun cdv A outer s H ws Q E hr h => ?_)
  · obtain ⟨_, ⟨_, _, _, rfl, _⟩, _⟩ := h
    rfl
  · obtain ⟨_, ⟨p_cell, ap_new, p_new, rfl, hSp_new, hpre, rfl⟩, k0⟩ := h
    obtain ⟨tk_MOST_PARTS, z_g_MOST_PARTS⟩ := z.g_MOST_PARTS
    obtain ⟨tk_MOST_SIGNS, z_g_MOST_SIGNS⟩ := z.g_MOST_SIGNS
    obtain ⟨tk_SIGNS, z_g_SIGNS⟩ := z.g_SIGNS
    have L_l_03e927a7 := len_l_03e927a7
    have L_lCut := len_lCut
    have L_l_b2f10bc2 := len_l_b2f10bc2
    have L_lPut := len_lPut
    have L_lNil := len_lNil
    have L_lX := len_lX
    have L_l_4b1e81f8 := len_l_4b1e81f8
    have L_l_7dbde935 := len_l_7dbde935
    have L_l_7269bde5 := len_l_7269bde5
    have L_lSl := len_lSl
    have L_lY := len_lY
    have hg := hpre.1
    have hl := hpre.2
    have hs1 := srt_keys_len p_new
    refine ⟨_, (pss_cons (ps_set (i := 2) sc_law_odd_deed.nd rfl (Or.inl rfl) (pe_op op_cat (pe_callB (call_srtD rfl) (by rfl) z.z_sorted (by decide +kernel) (pa_cons (pv 1) pa_nil)) (pe_lst (pa_cons pe_str pa_nil))))
      (pss_cons (ps_set (i := 3) sc_law_odd_deed.nd rfl (Or.inl rfl) (pe_ix (ix_listK K) (pv 2) (pe_op op_mod (pe_op op_fdiv (pv 0) pe_int) (pe_callB (call_lenK K) (by rfl) z.z_len PySem.boot_len (pa_cons (pv 2) pa_nil))) (fun _ _ => rfl)))
      (pss_cons (ps_set (i := 4) sc_law_odd_deed.nd rfl (Or.inl rfl) (pe_lst (pa_cons (pe_tup (pa_cons pe_str (pa_cons pe_str pa_nil))) (pa_cons (pe_tup (pa_cons pe_str (pa_cons pe_str (pa_cons pe_str pa_nil)))) (pa_cons (pe_tup (pa_cons pe_str (pa_cons pe_str pa_nil))) (pa_cons (pe_tup (pa_cons pe_str (pa_cons pe_str (pa_cons pe_str pa_nil)))) pa_nil))))))
      (pss_one (ps_ret (pe_ix (ix_listK K) (pe_op op_cat (pv 4) (pe_lst (pa_cons (pe_tup (pa_cons pe_str (pa_cons (pe_op op_addT (pv 3) pe_str) (pa_cons pe_str pa_nil)))) (pa_cons (pe_tup (pa_cons pe_str (pa_cons (pe_ix (ix_listK K) (pe_splitT (pv 3) pe_str) pe_int (fun _ _ => rfl)) (pa_cons pe_str pa_nil)))) pa_nil)))) (pe_op op_mod (pv 0) pe_int) (fun _ _ => rfl))))))), ?_⟩
    refine q_asgL (xs := List.map vs (m_law_odd_deed_v1 p_new)) (el_is (l_catNN (g := vs) (m1 := (srt (dkeys p_new))) (m2 := [l_03e927a7]) (l_srtD (f := vs) (l := p_new) (ev_var rfl) ((RX.refl H) _ _ hSp_new) (by walk_at "vside")) (el_lst (ea_cons (ev_is (w := vs l_03e927a7) e_lit rfl) ea_nil) (by simp)) (by walk_at "vside")) rfl) fun p1_paths H1 n1a e1a h1_paths => ?_
    have n1 := fresh_back (Ex.refl H) n1a
    have e1 := Ex.trans (Ex.refl H) e1a
    have r1 := rx_of e1
    have fm_law_odd_deed_v1 : List.length (m_law_odd_deed_v1 p_new) = List.length (((srt (dkeys p_new)) ++ [l_03e927a7])) := rfl
    have g1 := odd_v1 p_new
    have g1x := odd_ix p_cell p_new
    refine q_asg (v := vs (m_law_odd_deed_v2 p_new p_cell)) (ev_is (e_ixL (f := vs) (l := (m_law_odd_deed_v1 p_new)) [] (ev_var rfl) (sq_of h1_paths) (e_mod (e_div (ev_var rfl) ev_c (by walk_at "vside")) (e_lenL (f := vs) (l := (m_law_odd_deed_v1 p_new)) (ev_var rfl) (sq_of h1_paths)) (by walk_at "vside")) (by walk_at "vside")) rfl) fun H2 e2a => ?_
    have e2 := Ex.trans e1 e2a
    have r2 := rx_of e2
    have h1_paths := e2a _ _ h1_paths
    have fm_law_odd_deed_v2 : List.length (m_law_odd_deed_v2 p_new p_cell) = List.length (((m_law_odd_deed_v1 p_new).getD ((p_cell / (6 : Int)) % ((m_law_odd_deed_v1 p_new).length : Int)).toNat [])) := rfl
    have g2 := odd_v2 p_cell hg
    have g2c := cuts_pos (m_law_odd_deed_v2 p_new p_cell)
    refine q_asgU2 (K := K) (l := (List.map (List.map vs) m_law_odd_deed_v3)) (eu2_is (eu2_is (l2 := (List.map (List.map vs) [[lCut, l_b2f10bc2], [lPut, lNil, lX], [lCut, l_4b1e81f8], [lPut, l_7dbde935, lNil]])) (u2_lst (er_consT (tu_new (eu_tup (ea_cons (ev_is (w := vs lCut) e_lit rfl) (ea_cons (ev_is (w := vs l_b2f10bc2) e_lit rfl) ea_nil)) (by simp))) (er_consT (tu_new (eu_tup (ea_cons (ev_is (w := vs lPut) e_lit rfl) (ea_cons (ev_is (w := vs lNil) e_lit rfl) (ea_cons (ev_is (w := vs lX) e_lit rfl) ea_nil))) (by simp))) (er_consT (tu_new (eu_tup (ea_cons (ev_is (w := vs lCut) e_lit rfl) (ea_cons (ev_is (w := vs l_4b1e81f8) e_lit rfl) ea_nil)) (by simp))) (er_consT (tu_new (eu_tup (ea_cons (ev_is (w := vs lPut) e_lit rfl) (ea_cons (ev_is (w := vs l_7dbde935) e_lit rfl) (ea_cons (ev_is (w := vs lNil) e_lit rfl) ea_nil))) (by simp))) er_nil)))) (by simp)) rfl) rfl) fun p3_some H3 n3a e3a h3_some => ?_
    have n3 := fresh_back e2 n3a
    have d_p1_paths_p3_some := ne_of_none h1_paths n3a
    have e3 := Ex.trans e2 e3a
    have r3 := rx_of e3
    have h1_paths := e3a _ _ h1_paths
    have fm_law_odd_deed_v3 : List.length m_law_odd_deed_v3 = List.length ([[lCut, l_b2f10bc2], [lPut, lNil, lX], [lCut, l_4b1e81f8], [lPut, l_7dbde935, lNil]]) := rfl
    have g3 : List.length m_law_odd_deed_v3 = 4 := rfl
    exact s_retTu (tu_is (tu_ixN (l := (List.map (List.map vs) (m_law_odd_deed_v3 ++ [[lPut, ((m_law_odd_deed_v2 p_new p_cell) ++ l_7269bde5), lX], [lPut, ((cuts 47 (m_law_odd_deed_v2 p_new p_cell)).getD (0 : Int).toNat []), lY]]))) (eu2_is (u2_cat (l := (List.map (List.map vs) m_law_odd_deed_v3)) (l2 := (List.map (List.map vs) [[lPut, ((m_law_odd_deed_v2 p_new p_cell) ++ l_7269bde5), lX], [lPut, ((cuts 47 (m_law_odd_deed_v2 p_new p_cell)).getD (0 : Int).toNat []), lY]])) (ev_var rfl) h3_some (eu2_is (l2 := (List.map (List.map vs) [[lPut, ((m_law_odd_deed_v2 p_new p_cell) ++ l_7269bde5), lX], [lPut, ((cuts 47 (m_law_odd_deed_v2 p_new p_cell)).getD (0 : Int).toNat []), lY]])) (u2_lst (er_consT (tu_new (eu_tup (ea_cons (ev_is (w := vs lPut) e_lit rfl) (ea_cons (e_addT (ev_var rfl) (ev_is (w := vs l_7269bde5) e_lit rfl) (by walk_at "vside")) (ea_cons (ev_is (w := vs lX) e_lit rfl) ea_nil))) (by simp))) (er_consT (tu_new (eu_tup (ea_cons (ev_is (w := vs lPut) e_lit rfl) (ea_cons (e_ixN (f := vs) (l := (cuts 47 (m_law_odd_deed_v2 p_new p_cell))) [] (l_split (c := 47) (ev_var rfl) (ev_is (w := vs [47]) (ev_is (w := vs lSl) e_lit rfl) (by first | rfl | decide)) (by decide) (by walk_at "vside")) ev_c (by walk_at "vside")) (ea_cons (ev_is (w := vs lY) e_lit rfl) ea_nil))) (by simp))) er_nil)) (by simp)) rfl) (by simp only [List.length_map]; walk_at "vside")) List.map_append.symm) (e_mod (ev_var rfl) ev_c (by walk_at "vside")) (by simp only [List.length_map]; walk_at "vside")) (getD_mapU _ _ _)) fun pR H4 e4a hR => RetTu.go k0 e3 e4a hR
def sp_law (K : PySem.W.Frag) : Sp := spP fun ws H v => ∃ (ap_script : Addr) (p_script : List Int), ws = [.ref ap_script] ∧ SqL K H ap_script (List.map V.int p_script) ∧ v = V.bl (m_law p_script)
theorem ok_law {f : Addr} {fd : FuncData} {Cs : Nat → Addr} (F : Fun K "law" "law" s_law f fd) (z : Bt mg) (C_law_trees : Cal P w K mg base 5 "_law_trees" ["_law_script"] (sp_law_trees K)) (C_between : Cal P w K mg base 1 "between" ["old", "new"] (sp_between K)) (C_law_is_deed : Cal P w K mg base 1 "_law_is_deed" ["_law_deed"] (sp_law_is_deed K)) (C_changed : CalX P w K mg base 4 "changed" ["tree", "deeds"] (sp_changed K Cs)) (C_law_word_of : Cal P w K mg base 2 "_law_word_of" ["_law_tree", "_law_deeds"] (sp_law_word_of K)) (C_law_cell_at : Cal P w K mg base 1 "_law_cell_at" ["_law_script", "_law_k"] (sp_law_cell_at K)) (C_law_odd_deed : Cal P w K mg base 1 "_law_odd_deed" ["_law_cell", "_law_new"] (sp_law_odd_deed K)) (C_law_told : Cal P w K mg base 5 "_law_told" ["_law_tree", "_law_deeds"] (sp_law_told K)) : FnOk P w K mg base CX0 6 f fd ["_law_script"] (sp_law K) := by
  refine F.ok (k := 5) sc_law (fun ws H Q E h => ?_) (fun cdv A outer s H ws Q E hr h => ?_)
  · obtain ⟨_, ⟨_, _, rfl, _⟩, _⟩ := h
    rfl
  · obtain ⟨_, ⟨ap_script, p_script, rfl, hSp_script, rfl⟩, k0⟩ := h
    obtain ⟨tk_MOST_PARTS, z_g_MOST_PARTS⟩ := z.g_MOST_PARTS
    obtain ⟨tk_MOST_SIGNS, z_g_MOST_SIGNS⟩ := z.g_MOST_SIGNS
    obtain ⟨tk_SIGNS, z_g_SIGNS⟩ := z.g_SIGNS
    have L_lCut := len_lCut
    have L_lPut := len_lPut
    have L_lX := len_lX
    have L_lY := len_lY
    refine ⟨_, (pss_cons (ps_asg (pe_cal C_law_trees (hr.mono (by decide)) (by rfl) (pa_cons (pv 0) pa_nil)) (pg_tupK K rfl (pgs_cons (pg_name (i := 12) sc_law.nd rfl (Or.inr rfl)) (pgs_cons (pg_name (i := 13) sc_law.nd rfl (Or.inr rfl)) pgs_nil))))
      (pss_cons (ps_set (i := 1) sc_law.nd rfl (Or.inl rfl) (pe_tup (pa_cons (pe_callTy call_dictD (by rfl) z.z_dict (by decide +kernel) (pa_cons (pv 12) pa_nil)) (pa_cons (pe_callTy call_dictD (by rfl) z.z_dict (by decide +kernel) (pa_cons (pv 13) pa_nil)) pa_nil))))
      (pss_cons (ps_setLc (i := 2) (own := [("_law_path", 15)]) (g := gName 15) rfl sc_law.nd rfl rfl (sw_true rfl rfl rfl (by decide +kernel)) (pi_listK K (pe_callB (call_srtD rfl) (by rfl) z.z_sorted (by decide +kernel) (pa_cons (pv 12) pa_nil))) (blkOk_by (own := [("_law_path", 15)]) (N := ["_law_script", "_law_kept", "_law_due", "_law_found", "_law_handed", "_law_made", "_law_same", "_law_at", "_law_to", "_law_ones", "_law_row", "_law_word", "_law_old", "_law_new", "_law_deed", "_law_path"]) (sc := defScope s_law) (by decide +kernel)) (fun _ _ _ _ _ => pg_name (i := 15) sc_law.nd rfl (Or.inl rfl)) (fun _ _ _ _ _ => pts_one (pt_cmp (pc_dnotin (hu_of hr) (pv 15) (pv 13)))) (fun _ _ _ _ _ => (pe_tup (pa_cons pe_str (pa_cons (pv 15) pa_nil)))))
      (pss_cons (ps_set (i := 2) sc_law.nd rfl (Or.inl rfl) (pe_op op_cat (pv 2) (pe_lc (own := [("_law_path", 15)]) (g := gName 15) rfl sc_law.nd (pi_listK K (pe_callB (call_srtD rfl) (by rfl) z.z_sorted (by decide +kernel) (pa_cons (pv 13) pa_nil))) (blkOk_by (own := [("_law_path", 15)]) (N := ["_law_script", "_law_kept", "_law_due", "_law_found", "_law_handed", "_law_made", "_law_same", "_law_at", "_law_to", "_law_ones", "_law_row", "_law_word", "_law_old", "_law_new", "_law_deed", "_law_path"]) (sc := defScope s_law) (by decide +kernel)) (fun _ _ _ _ _ => pg_name (i := 15) sc_law.nd rfl (Or.inl rfl)) (fun _ _ _ _ _ => pts_one (PW.pt (pw_or (pt_cmp (pc_dnotin (hu_of hr) (pv 15) (pv 12))) (pw_or1 (pt_cmpR op_ne (pe_dget (hu_of hr) (pv 12) (pv 15) (fun _ _ => rfl)) (pe_dget (hu_of hr) (pv 13) (pv 15) (fun _ _ => rfl)) (nomark _)))))) (fun _ _ _ _ _ => (pe_tup (pa_cons pe_str (pa_cons (pv 15) (pa_cons (pe_dget (hu_of hr) (pv 13) (pv 15) (fun _ _ => rfl)) pa_nil))))))))
      (pss_cons (ps_set (i := 3) sc_law.nd rfl (Or.inl rfl) (pe_cal C_between (hr.mono (by decide)) (by rfl) (pa_cons (pv 12) (pa_cons (pv 13) pa_nil))))
      (pss_cons (ps_if (PW.pt (pw_or (pt_not (pt_val (pe_callB (call_isiK' K) (by rfl) z.z_isinstance (by decide +kernel) (pa_cons (pv 3) (pa_cons (pe_bltn (v := .ty "list") (by rfl) z.z_list (by decide +kernel) rfl) pa_nil))))) (pw_or (pt_cmpR op_gt (pe_callB (call_lenK K) (by rfl) z.z_len PySem.boot_len (pa_cons (pe_lc (own := [("_law_deed", 14)]) (g := gName 14) rfl sc_law.nd (pi_listK K (pv 3)) (blkOk_by (own := [("_law_deed", 14)]) (N := ["_law_script", "_law_kept", "_law_due", "_law_found", "_law_handed", "_law_made", "_law_same", "_law_at", "_law_to", "_law_ones", "_law_row", "_law_word", "_law_old", "_law_new", "_law_deed", "_law_path"]) (sc := defScope s_law) (by decide +kernel)) (fun _ _ _ _ _ => pg_name (i := 14) sc_law.nd rfl (Or.inl rfl)) (fun _ _ _ _ _ => pts_one (pt_not (pt_val (pe_cal C_law_is_deed (hr.mono (by decide)) (by rfl) (pa_cons (pv 14) pa_nil))))) (fun _ _ _ _ _ => (pv 14))) pa_nil)) pe_int (nomark _)) (pw_or1 (pt_cmpR (op_neDK K hr.units) (pv 3) (pv 2) (nomark _)))))) (pss_one (ps_ret pe_bl)) pss_nil)
      (pss_cons (ps_set (i := 4) sc_law.nd rfl (Or.inl rfl) (pe_callTy (call_listK K) (by rfl) z.z_list (by decide +kernel) (pa_cons (pv 3) pa_nil)))
      (pss_cons (ps_set (i := 5) sc_law.nd rfl (Or.inl rfl) (pe_calX C_changed takesN0 (hr.mono (by decide)) (by rfl) (pa_cons (pv 12) (pa_cons (pv 4) pa_nil))))
      (pss_cons (ps_set (i := 6) sc_law.nd rfl (Or.inl rfl) (pe_calX C_changed takesN0 (hr.mono (by decide)) (by rfl) (pa_cons (pv 13) (pa_cons (pe_lst pa_nil) pa_nil))))
      (pss_cons (ps_if (PW.pt (pw_or (pt_not (pt_val (pe_callB (call_isiK' K) (by rfl) z.z_isinstance (by decide +kernel) (pa_cons (pv 5) (pa_cons (pe_bltn (v := .ty "dict") (by rfl) z.z_dict (by decide +kernel) rfl) pa_nil))))) (pw_or (pt_cmpR (op_ne_dictA hr.units0) (pv 5) (pv 13) (nomark _)) (pw_or (pt_not (pt_val (pe_callB (call_isiK' K) (by rfl) z.z_isinstance (by decide +kernel) (pa_cons (pv 6) (pa_cons (pe_bltn (v := .ty "dict") (by rfl) z.z_dict (by decide +kernel) rfl) pa_nil))))) (pw_or (pt_cmpR (op_ne_dictA hr.units0) (pv 6) (pv 13) (nomark _)) (pw_or1 (pt_cmpR (op_neDK K hr.units) (pv 4) (pv 2) (nomark _)))))))) (pss_one (ps_ret pe_bl)) pss_nil)
      (pss_cons (ps_dput (hu_of hr) (pv 6) pe_str pe_str rfl)
      (pss_cons (ps_expr (pe_bm0 PySem.F.plainAttrs_list PySem.F.slot_list_clear PySem.F.type_list_clear mt_clear (pv 3)))
      (pss_cons (ps_if (PW.pt (pw_or (pt_cmpR (op_qNeTK K hr.units) (pe_tup (pa_cons (pv 12) (pa_cons (pv 13) pa_nil))) (pv 1) (nomark _)) (pw_or (pt_cmpR (op_ne_dictA hr.units0) (pe_cal C_law_word_of (hr.mono (by decide)) (by rfl) (pa_cons (pv 12) (pa_cons (pv 2) pa_nil))) (pv 13) (nomark _)) (pw_or1 (pt_cmpR (op_neDK K hr.units) (pe_cal C_between (hr.mono (by decide)) (by rfl) (pa_cons (pv 12) (pa_cons (pv 13) pa_nil))) (pv 2) (nomark _)))))) (pss_one (ps_ret pe_bl)) pss_nil)
      (pss_cons (ps_set (i := 7) sc_law.nd rfl (Or.inl rfl) (pe_op op_mod (pe_op op_fdiv (pe_cal C_law_cell_at (hr.mono (by decide)) (by rfl) (pa_cons (pv 0) (pa_cons pe_int pa_nil))) pe_int) (pe_op op_add (pe_callB (call_lenK K) (by rfl) z.z_len PySem.boot_len (pa_cons (pv 2) pa_nil)) pe_int)))
      (pss_cons (ps_set (i := 8) sc_law.nd rfl (Or.inl rfl) (pe_op op_add (pv 7) (pe_op op_mod (pe_op op_fdiv (pe_cal C_law_cell_at (hr.mono (by decide)) (by rfl) (pa_cons (pv 0) (pa_cons pe_int pa_nil))) pe_int) (pe_op op_sub (pe_op op_add (pe_callB (call_lenK K) (by rfl) z.z_len PySem.boot_len (pa_cons (pv 2) pa_nil)) pe_int) (pv 7)))))
      (pss_cons (ps_set (i := 9) sc_law.nd rfl (Or.inl rfl) (pe_op op_cat (pe_op op_cat (pe_slice (sl_listK K) (pv 2) po_none (po_some (pv 7))) (pe_lst (pa_cons (pe_cal C_law_odd_deed (hr.mono (by decide)) (by rfl) (pa_cons (pe_op op_add (pe_cal C_law_cell_at (hr.mono (by decide)) (by rfl) (pa_cons (pv 0) (pa_cons pe_int pa_nil))) (pe_op op_fdiv (pe_cal C_law_cell_at (hr.mono (by decide)) (by rfl) (pa_cons (pv 0) (pa_cons pe_int pa_nil))) pe_int)) (pa_cons (pv 13) pa_nil))) pa_nil))) (pe_slice (sl_listK K) (pv 2) (po_some (pv 7)) (po_some (pv 8)))))
      (pss_cons (ps_set (i := 10) sc_law.nd rfl (Or.inl rfl) (pe_op op_cat (pe_op op_cat (pv 9) (pe_lst (pa_cons (pe_cal C_law_odd_deed (hr.mono (by decide)) (by rfl) (pa_cons (pe_op op_add (pe_cal C_law_cell_at (hr.mono (by decide)) (by rfl) (pa_cons (pv 0) (pa_cons pe_int pa_nil))) (pe_cal C_law_cell_at (hr.mono (by decide)) (by rfl) (pa_cons (pv 0) (pa_cons pe_int pa_nil)))) (pa_cons (pv 13) pa_nil))) pa_nil))) (pe_slice (sl_listK K) (pv 2) (po_some (pv 8)) po_none)))
      (pss_cons (ps_set (i := 4) sc_law.nd rfl (Or.inl rfl) (pe_callTy (call_listK K) (by rfl) z.z_list (by decide +kernel) (pa_cons (pv 10) pa_nil)))
      (pss_cons (ps_set (i := 11) sc_law.nd rfl (Or.inl rfl) (pe_cal C_law_told (hr.mono (by decide)) (by rfl) (pa_cons (pv 12) (pa_cons (pv 4) pa_nil))))
      (pss_one (ps_ret (pe_and (pe_cmpR (op_or op_eq (op_eq_dictA hr.units0)) (pv 11) (pe_cal C_law_word_of (hr.mono (by decide)) (by rfl) (pa_cons (pv 12) (pa_cons (pv 10) pa_nil))) (nomark _)) (pe_and (pe_cmpR (op_eqDK K hr.units) (pv 4) (pv 10) (nomark _)) (pe_one (pe_cmpR (op_qEqK K hr.units) (pe_tup (pa_cons (pv 12) (pa_cons (pv 13) pa_nil))) (pv 1) (nomark _)))))))))))))))))))))))))), ?_⟩
    refine q_unpT2 (K := K) (ea_cons (ev_var rfl) ea_nil) (fun HC eC => ⟨_, _, rfl, ex_l eC (rx_l (RX.refl H) hSp_script), rfl⟩) fun p1_old p1_new H1 n1a0 n1a1 d_p1_old_p1_new e1a h1_old h1_new => ?_
    have n1_0 := fresh_back (Ex.refl H) n1a0
    have n1_1 := fresh_back (Ex.refl H) n1a1
    have e1 := Ex.trans (Ex.refl H) e1a
    have r1 := rx_of e1
    have h1_old : H1 p1_old = some (.dK (kd vs (m_law_v1 p_script))) := h1_old
    have h1_new : H1 p1_new = some (.dK (kd vs (m_law_v2 p_script))) := h1_new
    have gt := law_trees p_script
    have gt1 := gt.1
    have gt2 := gt.2.1
    have gs1 := srt_keys_len (m_law_v1 p_script)
    have gs2 := srt_keys_len (m_law_v2 p_script)
    have gbt : Good (m_law_v1 p_script) ∧ Good (m_law_v2 p_script) ∧ (m_law_v1 p_script).length ≤ 1000 ∧ (m_law_v2 p_script).length ≤ 1000 := gt.2.2
    refine q_asgT2 (k_copy (f := vs) (l := (m_law_v1 p_script)) (ev_var rfl) (Or.inl h1_old)) (k_copy (f := vs) (l := (m_law_v2 p_script)) (ev_var rfl) (Or.inl h1_new)) fun p2_kept p2_kept0 p2_kept1 H2 n2a n2a0 n2a1 d_p2_kept0_p2_kept1 e2a h2 h2_kept0 h2_kept1 => ?_
    have n2 := fresh_back e1 n2a
    have n2_0 := fresh_back e1 n2a0
    have n2_1 := fresh_back e1 n2a1
    have d_p2_kept_p2_kept0 := ne_dt h2 h2_kept0 (fun z => nomatch z)
    have d_p2_kept_p2_kept1 := ne_dt h2 h2_kept1 (fun z => nomatch z)
    have d_p1_old_p2_kept := ne_of_none h1_old n2a
    have d_p1_old_p2_kept0 := ne_of_none h1_old n2a0
    have d_p1_old_p2_kept1 := ne_of_none h1_old n2a1
    have d_p1_new_p2_kept := ne_of_none h1_new n2a
    have d_p1_new_p2_kept0 := ne_of_none h1_new n2a0
    have d_p1_new_p2_kept1 := ne_of_none h1_new n2a1
    have e2 := Ex.trans e1 e2a
    have r2 := rx_of e2
    have h1_old := e2a _ _ h1_old
    have h1_new := e2a _ _ h1_new
    have h2_kept0 : H2 p2_kept0 = some (.dK (kd vs (m_law_v3 p_script))) := h2_kept0
    have h2_kept1 : H2 p2_kept1 = some (.dK (kd vs (m_law_v4 p_script))) := h2_kept1
    have gk1 : dsame (m_law_v1 p_script) (m_law_v3 p_script) := dsame_refl (law_trees p_script).2.2.1.nd
    have gk2 : dsame (m_law_v2 p_script) (m_law_v4 p_script) := dsame_refl (law_trees p_script).2.2.2.1.nd
    refine q_asgU2 (K := K) (l := (List.map (List.map vs) (m_law_v5 p_script))) (eu2_is (eu2_is (u_filN (f := vs) (m := (srt (dkeys (m_law_v1 p_script)))) (fun k0 : Tx => (!dhas (m_law_v2 p_script) k0)) (fun k0 => List.map vs [lCut, k0]) [] (l_srtD (f := vs) (l := (m_law_v1 p_script)) (ev_var rfl) (Or.inl h1_old) (by walk_at "vside")) (by walk_at "vside") (fun k0 hm => (et_B (e_niD (f := vs) (l := (m_law_v2 p_script)) (k := k0) (ev_var rfl) (ev_var rfl) (Or.inl h1_new)))) (fun k0 hm hc => (eu_tup (ea_cons (ev_is (w := vs lCut) e_lit rfl) (ea_cons (ev_var rfl) ea_nil)) (by simp)))) (map_map2 (List.map vs) (fun k0 : Tx => [lCut, k0]) _)) rfl) fun p3_due H3 n3a e3a h3_due => ?_
    have n3 := fresh_back e2 n3a
    have d_p1_old_p3_due := ne_of_none h1_old n3a
    have d_p1_new_p3_due := ne_of_none h1_new n3a
    have d_p2_kept_p3_due := ne_of_none h2 n3a
    have d_p2_kept0_p3_due := ne_of_none h2_kept0 n3a
    have d_p2_kept1_p3_due := ne_of_none h2_kept1 n3a
    have e3 := Ex.trans e2 e3a
    have r3 := rx_of e3
    have h1_old := e3a _ _ h1_old
    have h1_new := e3a _ _ h1_new
    have h2 := e3a _ _ h2
    have h2_kept0 := e3a _ _ h2_kept0
    have h2_kept1 := e3a _ _ h2_kept1
    have fm_law_v5 : List.length (m_law_v5 p_script) = List.length ((((srt (dkeys (m_law_v1 p_script))).filter (fun k0 : Tx => (!dhas (m_law_v2 p_script) k0))).map (fun k0 : Tx => [lCut, k0]))) := rfl
    have g5 := law_v5_len p_script
    have g6f := law_v6_fil p_script
    refine q_asgU2 (K := K) (l := (List.map (List.map vs) (m_law_v6 p_script))) (eu2_is (eu2_is (u2_cat (l := (List.map (List.map vs) (m_law_v5 p_script))) (l2 := (List.map (List.map vs) (((srt (dkeys (m_law_v2 p_script))).filter (fun k0 : Tx => ((!dhas (m_law_v1 p_script) k0) || (!decide (((dget (m_law_v1 p_script) k0).getD []) = ((dget (m_law_v2 p_script) k0).getD [])))))).map (fun k0 : Tx => [lPut, k0, ((dget (m_law_v2 p_script) k0).getD [])])))) (ev_var rfl) h3_due (eu2_is (u_filN (f := vs) (m := (srt (dkeys (m_law_v2 p_script)))) (fun k0 : Tx => ((!dhas (m_law_v1 p_script) k0) || (!decide (((dget (m_law_v1 p_script) k0).getD []) = ((dget (m_law_v2 p_script) k0).getD []))))) (fun k0 => List.map vs [lPut, k0, ((dget (m_law_v2 p_script) k0).getD [])]) [] (l_srtD (f := vs) (l := (m_law_v2 p_script)) (ev_var rfl) (Or.inl h1_new) (by walk_at "vside")) (by walk_at "vside") (fun k0 hm => have gk := has_srt hm; (et_or (et_B (e_niD (f := vs) (l := (m_law_v1 p_script)) (k := k0) (ev_var rfl) (ev_var rfl) (Or.inl h1_old))) (fun hc => (et_test (e_neT (e_getD (f := vs) (l := (m_law_v1 p_script)) (k := k0) [] (ev_var rfl) (ev_var rfl) (Or.inl h1_old) (by walk_at "vside")) (e_getD (f := vs) (l := (m_law_v2 p_script)) (k := k0) [] (ev_var rfl) (ev_var rfl) (Or.inl h1_new) (by walk_at "vside"))))))) (fun k0 hm hc => have gk := has_srt hm; (eu_tup (ea_cons (ev_is (w := vs lPut) e_lit rfl) (ea_cons (ev_var rfl) (ea_cons (e_getD (f := vs) (l := (m_law_v2 p_script)) (k := k0) [] (ev_var rfl) (ev_var rfl) (Or.inl h1_new) (by walk_at "vside")) ea_nil))) (by simp)))) (map_map2 (List.map vs) (fun k0 : Tx => [lPut, k0, ((dget (m_law_v2 p_script) k0).getD [])]) _)) (by simp only [List.length_map]; walk_at "vside")) List.map_append.symm) rfl) fun p4_due H4 n4a e4a h4_due => ?_
    have n4 := fresh_back e3 n4a
    have d_p1_old_p4_due := ne_of_none h1_old n4a
    have d_p1_new_p4_due := ne_of_none h1_new n4a
    have d_p2_kept_p4_due := ne_of_none h2 n4a
    have d_p2_kept0_p4_due := ne_of_none h2_kept0 n4a
    have d_p2_kept1_p4_due := ne_of_none h2_kept1 n4a
    have e4 := Ex.trans e3 e4a
    have r4 := rx_of e4
    have h1_old := e4a _ _ h1_old
    have h1_new := e4a _ _ h1_new
    have h2 := e4a _ _ h2
    have h2_kept0 := e4a _ _ h2_kept0
    have h2_kept1 := e4a _ _ h2_kept1
    have fm_law_v6 : List.length (m_law_v6 p_script) = List.length (((m_law_v5 p_script) ++ (((srt (dkeys (m_law_v2 p_script))).filter (fun k0 : Tx => ((!dhas (m_law_v1 p_script) k0) || (!decide (((dget (m_law_v1 p_script) k0).getD []) = ((dget (m_law_v2 p_script) k0).getD [])))))).map (fun k0 : Tx => [lPut, k0, ((dget (m_law_v2 p_script) k0).getD [])])))) := rfl
    have g6 := law_v6_len p_script
    have g6o := law_v6_okT p_script
    refine q_asgU2 (K := K) (l := (List.map (List.map vs) (m_law_v7 p_script))) (eu2_is (eu2_call (ea_cons (ev_var rfl) (ea_cons (ev_var rfl) ea_nil)) (su2_of fun HC eC => ⟨_, _, _, _, rfl, ex_rd eC (Or.inl h1_old), ex_rd eC (Or.inl h1_new), (by walk_at "vside"), rfl⟩)) rfl) fun p5_found H5 n5a e5a h5_found => ?_
    have n5 := fresh_back e4 n5a
    have d_p1_old_p5_found := ne_of_none h1_old n5a
    have d_p1_new_p5_found := ne_of_none h1_new n5a
    have d_p2_kept_p5_found := ne_of_none h2 n5a
    have d_p2_kept0_p5_found := ne_of_none h2_kept0 n5a
    have d_p2_kept1_p5_found := ne_of_none h2_kept1 n5a
    have d_p4_due_p5_found := IsLU.ne h4_due n5a
    have e5 := Ex.trans e4 e5a
    have r5 := rx_of e5
    have h1_old := e5a _ _ h1_old
    have h1_new := e5a _ _ h1_new
    have h2 := e5a _ _ h2
    have h2_kept0 := e5a _ _ h2_kept0
    have h2_kept1 := e5a _ _ h2_kept1
    have h4_due := IsLU.ex h4_due e5a
    have fm_law_v7 : List.length (m_law_v7 p_script) = List.length ((m_between (m_law_v1 p_script) (m_law_v2 p_script))) := rfl
    have g7 := law_v7_len p_script
    have g7o := law_v7_okT p_script
    have g7d := law_v7_two p_script
    have gch := law_chg_pre p_script
    have gch2 := law_same_pre p_script
    refine q_when (b := ((!true) || ((decide ((((m_law_v7 p_script).filter (fun k0 : List Tx => (!(m_law_is_deed k0)))).length : Int) > (0 : Int))) || (!decide ((m_law_v7 p_script) = (m_law_v6 p_script)))))) (et_or (et_not (et_B (e_isi (ev_var rfl) ev_c (.ty _) (fun _ eT => tyx_lst (IsLUr.ex (IsLU.r h5_found) eT).choose_spec.1) (kit_ty (by decide +kernel))))) (fun hc => (et_or (et_test (e_gt (e_lenFil (l := (m_law_v7 p_script)) (fun k0 : List Tx => (!(m_law_is_deed k0))) (ev_var rfl) (IsLU.r h5_found) (by walk_at "vside") (fun k0 hm aFk0 HFk0 eFk0 hFk0 => have gq := g7d k0 hm; (et_not (et_B (ev_call (ea_cons (ev_var rfl) ea_nil) (sv_of fun HC eC => ⟨_, _, rfl, ex_t eC hFk0, (by walk_at "vside"), rfl⟩))))) (fun aF HF => ev_var rfl)) ev_c)) (fun hc => (et_test (e_neLUd (ep_lu (l := (m_law_v7 p_script)) (ev_var rfl) (IsLU.r h5_found)) (ep_lu (l := (m_law_v6 p_script)) (ev_var rfl) (IsLU.r h4_due)) (by walk_at "vside") (by walk_at "vside"))))))) (fun hb6 H6 e6a => ?_) (fun hb6 H6 e6a => ?_)
    · have e6 := Ex.trans e5 e6a
      have r6 := rx_of e6
      have h1_old := e6a _ _ h1_old
      have h1_new := e6a _ _ h1_new
      have h2 := e6a _ _ h2
      have h2_kept0 := e6a _ _ h2_kept0
      have h2_kept1 := e6a _ _ h2_kept1
      have h4_due := IsLU.ex h4_due e6a
      have h5_found := IsLU.ex h5_found e6a
      have k1a := ret_T k0 hb6
      exact s_ret ev_c fun H7 e7a => (RetV.go k1a (Ex.trans e6 e7a))
    · have e6 := Ex.trans e5 e6a
      have r6 := rx_of e6
      have h1_old := e6a _ _ h1_old
      have h1_new := e6a _ _ h1_new
      have h2 := e6a _ _ h2
      have h2_kept0 := e6a _ _ h2_kept0
      have h2_kept1 := e6a _ _ h2_kept1
      have h4_due := IsLU.ex h4_due e6a
      have h5_found := IsLU.ex h5_found e6a
      have k2b := ret_F k0 hb6
      refine q_asgU2 (K := K) (l := (List.map (List.map vs) (m_law_v8 p_script))) (eu2_is (u2_list (l := (List.map (List.map vs) (m_law_v7 p_script))) (ev_var rfl) (IsLU.r h5_found)) rfl) fun p8_handed H8 n8a e8a h8_handed => ?_
      have n8 := fresh_back e6 n8a
      have d_p1_old_p8_handed := ne_of_none h1_old n8a
      have d_p1_new_p8_handed := ne_of_none h1_new n8a
      have d_p2_kept_p8_handed := ne_of_none h2 n8a
      have d_p2_kept0_p8_handed := ne_of_none h2_kept0 n8a
      have d_p2_kept1_p8_handed := ne_of_none h2_kept1 n8a
      have d_p4_due_p8_handed := IsLU.ne h4_due n8a
      have d_p5_found_p8_handed := IsLU.ne h5_found n8a
      have e8 := Ex.trans e6 e8a
      have r8 := rx_of e8
      have h1_old := e8a _ _ h1_old
      have h1_new := e8a _ _ h1_new
      have h2 := e8a _ _ h2
      have h2_kept0 := e8a _ _ h2_kept0
      have h2_kept1 := e8a _ _ h2_kept1
      have h4_due := IsLU.ex h4_due e8a
      have h5_found := IsLU.ex h5_found e8a
      have fm_law_v8 : List.length (m_law_v8 p_script) = List.length ((m_law_v7 p_script)) := rfl
      have g8o : ∀ q ∈ m_law_v8 p_script, ∀ p ∈ q, okT p := law_v7_okT p_script
      refine q_asgX (r := (m_changed (m_law_v1 p_script) (m_law_v8 p_script))) (ea_cons (ev_var rfl) (ea_cons (ev_var rfl) ea_nil)) (fun HC eC => ⟨_, _, _, _, rfl, ex_rd eC (Or.inl h1_old), IsLUr.ex (IsLU.r h8_handed) eC, (by walk_at "vside"), rfl⟩) (fun lT9 hT9 H9b e9b => fun p9_made H9 n9a e9a h9_made => ?_) (fun kT9 hT9 H9 e9a => ?_)
      · have n9a := fresh_back e9b n9a
        have e9a := Ex.trans e9b e9a
        have n9 := fresh_back e8 n9a
        have d_p1_old_p9_made := ne_of_none h1_old n9a
        have d_p1_new_p9_made := ne_of_none h1_new n9a
        have d_p2_kept_p9_made := ne_of_none h2 n9a
        have d_p2_kept0_p9_made := ne_of_none h2_kept0 n9a
        have d_p2_kept1_p9_made := ne_of_none h2_kept1 n9a
        have d_p4_due_p9_made := IsLU.ne h4_due n9a
        have d_p5_found_p9_made := IsLU.ne h5_found n9a
        have d_p8_handed_p9_made := IsLU.ne h8_handed n9a
        have e9 := Ex.trans e8 e9a
        have r9 := rx_of e9
        have h1_old := e9a _ _ h1_old
        have h1_new := e9a _ _ h1_new
        have h2 := e9a _ _ h2
        have h2_kept0 := e9a _ _ h2_kept0
        have h2_kept1 := e9a _ _ h2_kept1
        have h4_due := IsLU.ex h4_due e9a
        have h5_found := IsLU.ex h5_found e9a
        have h8_handed := IsLU.ex h8_handed e9a
        have k3ok := ret_ok (f := V.bl) k2b hT9
        have gmd := made_same p_script hT9
        refine q_asgXA (r := (m_changed (m_law_v2 p_script) [])) (ax_v (ev_var rfl) (ax_u2 (l := []) (u2_lst er_nil (by decide)) ax_nil)) (fun ws HC eC hP => by obtain ⟨_, rfl, pA1, _, rfl, hA1, rfl⟩ := hP; exact ⟨_, _, _, _, rfl, ex_rd eC (Or.inl h1_new), IsLU.r hA1, (by walk_at "vside"), rfl⟩) (fun lT10 hT10 H10b e10b => fun p10_same H10 n10a e10a h10_same => ?_) (fun kT10 hT10 H10 e10a => ?_)
        · have n10a := fresh_back e10b n10a
          have e10a := Ex.trans e10b e10a
          have n10 := fresh_back e9 n10a
          have d_p1_old_p10_same := ne_of_none h1_old n10a
          have d_p1_new_p10_same := ne_of_none h1_new n10a
          have d_p2_kept_p10_same := ne_of_none h2 n10a
          have d_p2_kept0_p10_same := ne_of_none h2_kept0 n10a
          have d_p2_kept1_p10_same := ne_of_none h2_kept1 n10a
          have d_p4_due_p10_same := IsLU.ne h4_due n10a
          have d_p5_found_p10_same := IsLU.ne h5_found n10a
          have d_p8_handed_p10_same := IsLU.ne h8_handed n10a
          have d_p9_made_p10_same := ne_of_none h9_made n10a
          have e10 := Ex.trans e9 e10a
          have r10 := rx_of e10
          have h1_old := e10a _ _ h1_old
          have h1_new := e10a _ _ h1_new
          have h2 := e10a _ _ h2
          have h2_kept0 := e10a _ _ h2_kept0
          have h2_kept1 := e10a _ _ h2_kept1
          have h4_due := IsLU.ex h4_due e10a
          have h5_found := IsLU.ex h5_found e10a
          have h8_handed := IsLU.ex h8_handed e10a
          have h9_made := e10a _ _ h9_made
          have k4ok := ret_ok (f := V.bl) k3ok hT10
          have gsm := same_same p_script hT10
          have gsl := same_len p_script hT10
          refine q_when (b := ((!true) || (false || ((!true) || (false || (!decide ((m_law_v8 p_script) = (m_law_v6 p_script)))))))) (et_or (et_not (et_B (e_isi (ev_var rfl) ev_c (.ty _) (fun _ eT => tyx_dct (ex_rd eT (Or.inl h9_made))) (kit_ty (by decide +kernel))))) (fun hc => (et_or (et_test (e_neDD (l := lT9) (m := (m_law_v2 p_script)) (ev_var rfl) (ev_var rfl) h9_made h1_new (by walk_at "vside"))) (fun hc => (et_or (et_not (et_B (e_isi (ev_var rfl) ev_c (.ty _) (fun _ eT => tyx_dct (ex_rd eT (Or.inl h10_same))) (kit_ty (by decide +kernel))))) (fun hc => (et_or (et_test (e_neDD (l := lT10) (m := (m_law_v2 p_script)) (ev_var rfl) (ev_var rfl) h10_same h1_new (by walk_at "vside"))) (fun hc => (et_test (e_neLUd (ep_lu (l := (m_law_v8 p_script)) (ev_var rfl) (IsLU.r h8_handed)) (ep_lu (l := (m_law_v6 p_script)) (ev_var rfl) (IsLU.r h4_due)) (by walk_at "vside") (by walk_at "vside"))))))))))) (fun hb11 H11 e11a => ?_) (fun hb11 H11 e11a => ?_)
          · have e11 := Ex.trans e10 e11a
            have r11 := rx_of e11
            have h1_old := e11a _ _ h1_old
            have h1_new := e11a _ _ h1_new
            have h2 := e11a _ _ h2
            have h2_kept0 := e11a _ _ h2_kept0
            have h2_kept1 := e11a _ _ h2_kept1
            have h4_due := IsLU.ex h4_due e11a
            have h5_found := IsLU.ex h5_found e11a
            have h8_handed := IsLU.ex h8_handed e11a
            have h9_made := e11a _ _ h9_made
            have h10_same := e11a _ _ h10_same
            have k5a := ret_T k4ok hb11
            exact s_ret ev_c fun H12 e12a => (RetV.go k5a (Ex.trans e11 e12a))
          · have e11 := Ex.trans e10 e11a
            have r11 := rx_of e11
            have h1_old := e11a _ _ h1_old
            have h1_new := e11a _ _ h1_new
            have h2 := e11a _ _ h2
            have h2_kept0 := e11a _ _ h2_kept0
            have h2_kept1 := e11a _ _ h2_kept1
            have h4_due := IsLU.ex h4_due e11a
            have h5_found := IsLU.ex h5_found e11a
            have h8_handed := IsLU.ex h8_handed e11a
            have h9_made := e11a _ _ h9_made
            have h10_same := e11a _ _ h10_same
            have k6b := ret_F k4ok hb11
            refine q_putD (f := vs) (l := lT10) (k := lX) (v := lY) (ev_is (w := vs lY) e_lit rfl) (ev_var rfl) (ev_is (w := vs lX) e_lit rfl) h10_same (by walk_at "vside") fun H13 m13 => ?_
            have e13 := Mu.ex m13 e11 n10
            have r13 := rx_of e13
            have h1_old := Mu.keep m13 (by first | exact d_p1_old_p10_same | exact Ne.symm d_p10_same_p1_old) h1_old
            have h1_new := Mu.keep m13 (by first | exact d_p1_new_p10_same | exact Ne.symm d_p10_same_p1_new) h1_new
            have h2 := Mu.keep m13 (by first | exact d_p2_kept_p10_same | exact Ne.symm d_p10_same_p2_kept) h2
            have h2_kept0 := Mu.keep m13 (by first | exact d_p2_kept0_p10_same | exact Ne.symm d_p10_same_p2_kept0) h2_kept0
            have h2_kept1 := Mu.keep m13 (by first | exact d_p2_kept1_p10_same | exact Ne.symm d_p10_same_p2_kept1) h2_kept1
            have h4_due := IsLU.mu h4_due m13 (by first | exact d_p4_due_p10_same | exact Ne.symm d_p10_same_p4_due) h10_same trivial
            have h5_found := IsLU.mu h5_found m13 (by first | exact d_p5_found_p10_same | exact Ne.symm d_p10_same_p5_found) h10_same trivial
            have h8_handed := IsLU.mu h8_handed m13 (by first | exact d_p8_handed_p10_same | exact Ne.symm d_p10_same_p8_handed) h10_same trivial
            have h9_made := Mu.keep m13 (by first | exact d_p9_made_p10_same | exact Ne.symm d_p10_same_p9_made) h9_made
            have h10_same : H13 p10_same = some (.dK (kd vs (m_law_v9 lT10))) := Mu.at m13
            obtain ⟨lw, hw1, hw2⟩ := word_due p_script
            have gdp := due_pre p_script
            have hLU14 := h5_found
            obtain ⟨ts14, h5_found, _⟩ := id hLU14
            refine q_clearU (K := K) (ev_var rfl) hLU14 fun H14 m14 => ?_
            have e14 := Mu.ex m14 e13 n5
            have r14 := rx_of e14
            have h1_old := Mu.keep m14 (by first | exact d_p1_old_p5_found | exact Ne.symm d_p5_found_p1_old) h1_old
            have h1_new := Mu.keep m14 (by first | exact d_p1_new_p5_found | exact Ne.symm d_p5_found_p1_new) h1_new
            have h2 := Mu.keep m14 (by first | exact d_p2_kept_p5_found | exact Ne.symm d_p5_found_p2_kept) h2
            have h2_kept0 := Mu.keep m14 (by first | exact d_p2_kept0_p5_found | exact Ne.symm d_p5_found_p2_kept0) h2_kept0
            have h2_kept1 := Mu.keep m14 (by first | exact d_p2_kept1_p5_found | exact Ne.symm d_p5_found_p2_kept1) h2_kept1
            have h4_due := IsLU.mu h4_due m14 (by first | exact d_p4_due_p5_found | exact Ne.symm d_p5_found_p4_due) h5_found trivial
            have h8_handed := IsLU.mu h8_handed m14 (by first | exact d_p8_handed_p5_found | exact Ne.symm d_p5_found_p8_handed) h5_found trivial
            have h9_made := Mu.keep m14 (by first | exact d_p9_made_p5_found | exact Ne.symm d_p5_found_p9_made) h9_made
            have h10_same := Mu.keep m14 (by first | exact d_p10_same_p5_found | exact Ne.symm d_p5_found_p10_same) h10_same
            have h5_found : IsLU K H14 p5_found (List.map (List.map vs) []) := ⟨[], Mu.at m14, .nil⟩
            refine q_when (b := (false || (false || (!decide ((m_between (m_law_v1 p_script) (m_law_v2 p_script)) = (m_law_v6 p_script)))))) (et_or (et_test (e_neTs (eu_tup (ea_cons (ev_var rfl) (ea_cons (ev_var rfl) ea_nil)) (by simp)) (ev_var rfl) h2 (fun HQ eQ => .cons (qv_dict (l := (m_law_v1 p_script)) (m := (m_law_v3 p_script)) (eQ _ _ h1_old) (eQ _ _ h2_kept0) (by walk_at "vside")) (.cons (qv_dict (l := (m_law_v2 p_script)) (m := (m_law_v4 p_script)) (eQ _ _ h1_new) (eQ _ _ h2_kept1) (by walk_at "vside")) (.nil))))) (fun hc => (et_or (et_test (e_neWD (l := _) (m := (m_law_v2 p_script)) (ew_call (ea_cons (ev_var rfl) (ea_cons (ev_var rfl) ea_nil)) (fun HC eC => ⟨_, _, _, _, rfl, ex_rd eC (Or.inl h1_old), IsLUr.ex (IsLU.r h4_due) eC, (by walk_at "vside"), rfl⟩)) (ev_var rfl) h1_new hw1 hw2)) (fun hc => (et_test (e_neLUd (ep_u2 (l := (m_between (m_law_v1 p_script) (m_law_v2 p_script))) (eu2_call (ea_cons (ev_var rfl) (ea_cons (ev_var rfl) ea_nil)) (su2_of fun HC eC => ⟨_, _, _, _, rfl, ex_rd eC (Or.inl h1_old), ex_rd eC (Or.inl h1_new), (by walk_at "vside"), rfl⟩))) (ep_lu (l := (m_law_v6 p_script)) (ev_var rfl) (IsLU.r h4_due)) (by walk_at "vside") (by walk_at "vside"))))))) (fun hb15 H15 e15a => ?_) (fun hb15 H15 e15a => ?_)
            · have e15 := Ex.trans e14 e15a
              have r15 := rx_of e15
              have h1_old := e15a _ _ h1_old
              have h1_new := e15a _ _ h1_new
              have h2 := e15a _ _ h2
              have h2_kept0 := e15a _ _ h2_kept0
              have h2_kept1 := e15a _ _ h2_kept1
              have h4_due := IsLU.ex h4_due e15a
              have h5_found := IsLU.ex h5_found e15a
              have h8_handed := IsLU.ex h8_handed e15a
              have h9_made := e15a _ _ h9_made
              have h10_same := e15a _ _ h10_same
              have k7a := ret_T k6b hb15
              exact s_ret ev_c fun H16 e16a => (RetV.go k7a (Ex.trans e15 e16a))
            · have e15 := Ex.trans e14 e15a
              have r15 := rx_of e15
              have h1_old := e15a _ _ h1_old
              have h1_new := e15a _ _ h1_new
              have h2 := e15a _ _ h2
              have h2_kept0 := e15a _ _ h2_kept0
              have h2_kept1 := e15a _ _ h2_kept1
              have h4_due := IsLU.ex h4_due e15a
              have h5_found := IsLU.ex h5_found e15a
              have h8_handed := IsLU.ex h8_handed e15a
              have h9_made := e15a _ _ h9_made
              have h10_same := e15a _ _ h10_same
              have k8b := ret_F k6b hb15
              refine q_asg (v := V.int (m_law_v10 p_script)) (ev_is (e_mod (e_div (ev_call (ea_cons (ev_var rfl) (ea_cons ev_c ea_nil)) (sv_of fun HC eC => ⟨_, _, _, rfl, ex_l eC (rx_l r15 hSp_script), (by walk_at "vside"), rfl⟩)) ev_c (by walk_at "vside")) (e_add (ev_is (e_lenLU (l := (List.map (List.map vs) (m_law_v6 p_script))) (ev_var rfl) (IsLU.r h4_due)) (by rw [List.length_map])) ev_c) (by walk_at "vside")) rfl) fun H17 e17a => ?_
              have e17 := Ex.trans e15 e17a
              have r17 := rx_of e17
              have h1_old := e17a _ _ h1_old
              have h1_new := e17a _ _ h1_new
              have h2 := e17a _ _ h2
              have h2_kept0 := e17a _ _ h2_kept0
              have h2_kept1 := e17a _ _ h2_kept1
              have h4_due := IsLU.ex h4_due e17a
              have h5_found := IsLU.ex h5_found e17a
              have h8_handed := IsLU.ex h8_handed e17a
              have h9_made := e17a _ _ h9_made
              have h10_same := e17a _ _ h10_same
              have fm_law_v10 : (m_law_v10 p_script) = (((m_law_cell_at p_script (18 : Int)) / (6 : Int)) % (((m_law_v6 p_script).length : Int) + (1 : Int))) := rfl
              have g10 := law_at p_script
              have gnp : Good (m_law_v2 p_script) ∧ (m_law_v2 p_script).length ≤ 1000 := ⟨gt.2.2.2.1, gt.2.2.2.2.2⟩
              refine q_asg (v := V.int (m_law_v11 p_script)) (ev_is (e_add (ev_var rfl) (e_mod (e_div (ev_call (ea_cons (ev_var rfl) (ea_cons ev_c ea_nil)) (sv_of fun HC eC => ⟨_, _, _, rfl, ex_l eC (rx_l r17 hSp_script), (by walk_at "vside"), rfl⟩)) ev_c (by walk_at "vside")) (e_sub (e_add (ev_is (e_lenLU (l := (List.map (List.map vs) (m_law_v6 p_script))) (ev_var rfl) (IsLU.r h4_due)) (by rw [List.length_map])) ev_c) (ev_var rfl)) (by walk_at "vside"))) rfl) fun H18 e18a => ?_
              have e18 := Ex.trans e17 e18a
              have r18 := rx_of e18
              have h1_old := e18a _ _ h1_old
              have h1_new := e18a _ _ h1_new
              have h2 := e18a _ _ h2
              have h2_kept0 := e18a _ _ h2_kept0
              have h2_kept1 := e18a _ _ h2_kept1
              have h4_due := IsLU.ex h4_due e18a
              have h5_found := IsLU.ex h5_found e18a
              have h8_handed := IsLU.ex h8_handed e18a
              have h9_made := e18a _ _ h9_made
              have h10_same := e18a _ _ h10_same
              have fm_law_v11 : (m_law_v11 p_script) = ((m_law_v10 p_script) + (((m_law_cell_at p_script (19 : Int)) / (6 : Int)) % ((((m_law_v6 p_script).length : Int) + (1 : Int)) - (m_law_v10 p_script)))) := rfl
              have gc1 := cut_len (m_law_v6 p_script) none (some (m_law_v10 p_script))
              have gc2 := cut_len (m_law_v6 p_script) (some (m_law_v10 p_script)) (some (m_law_v11 p_script))
              have gc3 := cut_len (m_law_v6 p_script) (some (m_law_v11 p_script)) none
              refine q_asgU2 (K := K) (l := (List.map (List.map vs) (m_law_v12 p_script))) (eu2_is (eu2_is (u2_catNN (l := (List.map (List.map vs) ((cutG (m_law_v6 p_script) none (some (m_law_v10 p_script))) ++ [(m_law_odd_deed ((m_law_cell_at p_script (18 : Int)) + ((m_law_cell_at p_script (20 : Int)) / (6 : Int))) (m_law_v2 p_script))]))) (m := (List.map (List.map vs) (cutG (m_law_v6 p_script) (some (m_law_v10 p_script)) (some (m_law_v11 p_script))))) (eu2_is (u2_catNN (l := (List.map (List.map vs) (cutG (m_law_v6 p_script) none (some (m_law_v10 p_script))))) (m := (List.map (List.map vs) [(m_law_odd_deed ((m_law_cell_at p_script (18 : Int)) + ((m_law_cell_at p_script (20 : Int)) / (6 : Int))) (m_law_v2 p_script))])) (eu2_is (u2_slR (l := (List.map (List.map vs) (m_law_v6 p_script))) (ev_var rfl) (IsLU.r h4_due) eo_none (eo_some (ev_var rfl))) (cutG_map _ _ _ _)) (eu2_is (l2 := (List.map (List.map vs) [(m_law_odd_deed ((m_law_cell_at p_script (18 : Int)) + ((m_law_cell_at p_script (20 : Int)) / (6 : Int))) (m_law_v2 p_script))])) (u2_lst (er_consT (tu_call (ea_cons (e_add (ev_call (ea_cons (ev_var rfl) (ea_cons ev_c ea_nil)) (sv_of fun HC eC => ⟨_, _, _, rfl, ex_l eC (rx_l r18 hSp_script), (by walk_at "vside"), rfl⟩)) (e_div (ev_call (ea_cons (ev_var rfl) (ea_cons ev_c ea_nil)) (sv_of fun HC eC => ⟨_, _, _, rfl, ex_l eC (rx_l r18 hSp_script), (by walk_at "vside"), rfl⟩)) ev_c (by walk_at "vside"))) (ea_cons (ev_var rfl) ea_nil)) (fun HC eC => ⟨_, _, _, rfl, ex_rd eC (Or.inl h1_new), (by walk_at "vside"), rfl⟩)) er_nil) (by simp)) rfl) (by simp only [List.length_map]; walk_at "vside")) List.map_append.symm) (eu2_is (u2_slR (l := (List.map (List.map vs) (m_law_v6 p_script))) (ev_var rfl) (IsLU.r h4_due) (eo_some (ev_var rfl)) (eo_some (ev_var rfl))) (cutG_map _ _ _ _)) (by simp only [List.length_map]; walk_at "vside")) List.map_append.symm) rfl) fun p19_ones H19 n19a e19a h19_ones => ?_
              have n19 := fresh_back e18 n19a
              have d_p1_old_p19_ones := ne_of_none h1_old n19a
              have d_p1_new_p19_ones := ne_of_none h1_new n19a
              have d_p2_kept_p19_ones := ne_of_none h2 n19a
              have d_p2_kept0_p19_ones := ne_of_none h2_kept0 n19a
              have d_p2_kept1_p19_ones := ne_of_none h2_kept1 n19a
              have d_p4_due_p19_ones := IsLU.ne h4_due n19a
              have d_p5_found_p19_ones := IsLU.ne h5_found n19a
              have d_p8_handed_p19_ones := IsLU.ne h8_handed n19a
              have d_p9_made_p19_ones := ne_of_none h9_made n19a
              have d_p10_same_p19_ones := ne_of_none h10_same n19a
              have e19 := Ex.trans e18 e19a
              have r19 := rx_of e19
              have h1_old := e19a _ _ h1_old
              have h1_new := e19a _ _ h1_new
              have h2 := e19a _ _ h2
              have h2_kept0 := e19a _ _ h2_kept0
              have h2_kept1 := e19a _ _ h2_kept1
              have h4_due := IsLU.ex h4_due e19a
              have h5_found := IsLU.ex h5_found e19a
              have h8_handed := IsLU.ex h8_handed e19a
              have h9_made := e19a _ _ h9_made
              have h10_same := e19a _ _ h10_same
              have fm_law_v12 : List.length (m_law_v12 p_script) = List.length ((((cutG (m_law_v6 p_script) none (some (m_law_v10 p_script))) ++ [(m_law_odd_deed ((m_law_cell_at p_script (18 : Int)) + ((m_law_cell_at p_script (20 : Int)) / (6 : Int))) (m_law_v2 p_script))]) ++ (cutG (m_law_v6 p_script) (some (m_law_v10 p_script)) (some (m_law_v11 p_script))))) := rfl
              have g12 := law_v12_len p_script
              refine q_asgU2 (K := K) (l := (List.map (List.map vs) (m_law_v13 p_script))) (eu2_is (eu2_is (u2_catNN (l := (List.map (List.map vs) ((m_law_v12 p_script) ++ [(m_law_odd_deed ((m_law_cell_at p_script (19 : Int)) + (m_law_cell_at p_script (20 : Int))) (m_law_v2 p_script))]))) (m := (List.map (List.map vs) (cutG (m_law_v6 p_script) (some (m_law_v11 p_script)) none))) (eu2_is (u2_cat (l := (List.map (List.map vs) (m_law_v12 p_script))) (l2 := (List.map (List.map vs) [(m_law_odd_deed ((m_law_cell_at p_script (19 : Int)) + (m_law_cell_at p_script (20 : Int))) (m_law_v2 p_script))])) (ev_var rfl) h19_ones (eu2_is (l2 := (List.map (List.map vs) [(m_law_odd_deed ((m_law_cell_at p_script (19 : Int)) + (m_law_cell_at p_script (20 : Int))) (m_law_v2 p_script))])) (u2_lst (er_consT (tu_call (ea_cons (e_add (ev_call (ea_cons (ev_var rfl) (ea_cons ev_c ea_nil)) (sv_of fun HC eC => ⟨_, _, _, rfl, ex_l eC (rx_l r19 hSp_script), (by walk_at "vside"), rfl⟩)) (ev_call (ea_cons (ev_var rfl) (ea_cons ev_c ea_nil)) (sv_of fun HC eC => ⟨_, _, _, rfl, ex_l eC (rx_l r19 hSp_script), (by walk_at "vside"), rfl⟩))) (ea_cons (ev_var rfl) ea_nil)) (fun HC eC => ⟨_, _, _, rfl, ex_rd eC (Or.inl h1_new), (by walk_at "vside"), rfl⟩)) er_nil) (by simp)) rfl) (by simp only [List.length_map]; walk_at "vside")) List.map_append.symm) (eu2_is (u2_slR (l := (List.map (List.map vs) (m_law_v6 p_script))) (ev_var rfl) (IsLU.r h4_due) (eo_some (ev_var rfl)) eo_none) (cutG_map _ _ _ _)) (by simp only [List.length_map]; walk_at "vside")) List.map_append.symm) rfl) fun p20_row H20 n20a e20a h20_row => ?_
              have n20 := fresh_back e19 n20a
              have d_p1_old_p20_row := ne_of_none h1_old n20a
              have d_p1_new_p20_row := ne_of_none h1_new n20a
              have d_p2_kept_p20_row := ne_of_none h2 n20a
              have d_p2_kept0_p20_row := ne_of_none h2_kept0 n20a
              have d_p2_kept1_p20_row := ne_of_none h2_kept1 n20a
              have d_p4_due_p20_row := IsLU.ne h4_due n20a
              have d_p5_found_p20_row := IsLU.ne h5_found n20a
              have d_p8_handed_p20_row := IsLU.ne h8_handed n20a
              have d_p9_made_p20_row := ne_of_none h9_made n20a
              have d_p10_same_p20_row := ne_of_none h10_same n20a
              have d_p19_ones_p20_row := IsLU.ne h19_ones n20a
              have e20 := Ex.trans e19 e20a
              have r20 := rx_of e20
              have h1_old := e20a _ _ h1_old
              have h1_new := e20a _ _ h1_new
              have h2 := e20a _ _ h2
              have h2_kept0 := e20a _ _ h2_kept0
              have h2_kept1 := e20a _ _ h2_kept1
              have h4_due := IsLU.ex h4_due e20a
              have h5_found := IsLU.ex h5_found e20a
              have h8_handed := IsLU.ex h8_handed e20a
              have h9_made := e20a _ _ h9_made
              have h10_same := e20a _ _ h10_same
              have h19_ones := IsLU.ex h19_ones e20a
              have fm_law_v13 : List.length (m_law_v13 p_script) = List.length ((((m_law_v12 p_script) ++ [(m_law_odd_deed ((m_law_cell_at p_script (19 : Int)) + (m_law_cell_at p_script (20 : Int))) (m_law_v2 p_script))]) ++ (cutG (m_law_v6 p_script) (some (m_law_v11 p_script)) none))) := rfl
              have g13 := law_v13_len p_script
              have g13o := row_okT p_script
              have g13p := row_pre p_script
              refine q_asgU2 (K := K) (l := (List.map (List.map vs) (m_law_v14 p_script))) (eu2_is (u2_list (l := (List.map (List.map vs) (m_law_v13 p_script))) (ev_var rfl) (IsLU.r h20_row)) rfl) fun p21_handed H21 n21a e21a h21_handed => ?_
              have n21 := fresh_back e20 n21a
              have d_p1_old_p21_handed := ne_of_none h1_old n21a
              have d_p1_new_p21_handed := ne_of_none h1_new n21a
              have d_p2_kept_p21_handed := ne_of_none h2 n21a
              have d_p2_kept0_p21_handed := ne_of_none h2_kept0 n21a
              have d_p2_kept1_p21_handed := ne_of_none h2_kept1 n21a
              have d_p4_due_p21_handed := IsLU.ne h4_due n21a
              have d_p5_found_p21_handed := IsLU.ne h5_found n21a
              have d_p9_made_p21_handed := ne_of_none h9_made n21a
              have d_p10_same_p21_handed := ne_of_none h10_same n21a
              have d_p19_ones_p21_handed := IsLU.ne h19_ones n21a
              have d_p20_row_p21_handed := IsLU.ne h20_row n21a
              have e21 := Ex.trans e20 e21a
              have r21 := rx_of e21
              have h1_old := e21a _ _ h1_old
              have h1_new := e21a _ _ h1_new
              have h2 := e21a _ _ h2
              have h2_kept0 := e21a _ _ h2_kept0
              have h2_kept1 := e21a _ _ h2_kept1
              have h4_due := IsLU.ex h4_due e21a
              have h5_found := IsLU.ex h5_found e21a
              have h9_made := e21a _ _ h9_made
              have h10_same := e21a _ _ h10_same
              have h19_ones := IsLU.ex h19_ones e21a
              have h20_row := IsLU.ex h20_row e21a
              have fm_law_v14 : List.length (m_law_v14 p_script) = List.length ((m_law_v13 p_script)) := rfl
              have g14o : ∀ q ∈ m_law_v14 p_script, ∀ p ∈ q, okT p := row_okT p_script
              have g14p : okRow (m_law_v14 p_script) ∧ Good (m_law_v1 p_script) ∧ (m_law_v1 p_script).length + (m_law_v14 p_script).length ≤ 1000 := row_pre p_script
              refine q_asgW (r := (m_law_v15 p_script)) (ew_call (ea_cons (ev_var rfl) (ea_cons (ev_var rfl) ea_nil)) (fun HC eC => ⟨_, _, _, _, rfl, ex_rd eC (Or.inl h1_old), IsLUr.ex (IsLU.r h21_handed) eC, (by walk_at "vside"), rfl⟩)) fun p22_word H22 e22a h22_word => ?_
              have e22 := Ex.trans e21 e22a
              have r22 := rx_of e22
              have h1_old := e22a _ _ h1_old
              have h1_new := e22a _ _ h1_new
              have h2 := e22a _ _ h2
              have h2_kept0 := e22a _ _ h2_kept0
              have h2_kept1 := e22a _ _ h2_kept1
              have h4_due := IsLU.ex h4_due e22a
              have h5_found := IsLU.ex h5_found e22a
              have h9_made := e22a _ _ h9_made
              have h10_same := e22a _ _ h10_same
              have h19_ones := IsLU.ex h19_ones e22a
              have h20_row := IsLU.ex h20_row e22a
              have h21_handed := IsLU.ex h21_handed e22a
              have g15 := word_row p_script
              exact s_ret (ev_andV (e_eqWW (r := (m_law_v15 p_script)) (r2 := (m_law_word_of (m_law_v1 p_script) (m_law_v13 p_script))) (ew_var rfl h22_word) (ew_call (ea_cons (ev_var rfl) (ea_cons (ev_var rfl) ea_nil)) (fun HC eC => ⟨_, _, _, _, rfl, ex_rd eC (Or.inl h1_old), IsLUr.ex (IsLU.r h20_row) eC, (by walk_at "vside"), rfl⟩)) g15) (fun hc => (ev_andV (e_eqLUd (ep_lu (l := (m_law_v14 p_script)) (ev_var rfl) (IsLU.r h21_handed)) (ep_lu (l := (m_law_v13 p_script)) (ev_var rfl) (IsLU.r h20_row)) (by walk_at "vside") (by walk_at "vside")) (fun hc => (e_eqTs (eu_tup (ea_cons (ev_var rfl) (ea_cons (ev_var rfl) ea_nil)) (by simp)) (ev_var rfl) h2 (fun HQ eQ => .cons (qv_dict (l := (m_law_v1 p_script)) (m := (m_law_v3 p_script)) (eQ _ _ h1_old) (eQ _ _ h2_kept0) (by walk_at "vside")) (.cons (qv_dict (l := (m_law_v2 p_script)) (m := (m_law_v4 p_script)) (eQ _ _ h1_new) (eQ _ _ h2_kept1) (by walk_at "vside")) (.nil)))))))) fun H23 e23a => (RetV.go k8b (Ex.trans e22 e23a))
        · have k9exc := ret_exc (f := V.bl) k3ok hT10
          exact same_no p_script hT10
      · have k10exc := ret_exc (f := V.bl) k2b hT9
        exact made_no p_script hT9
end
/-! ## what the top has written -/
theorem all_mk {l : PySem.W.OpenLaw} {w : World} {K : PySem.W.Frag} {h : Heap} {mg : Str → Option Value} {fa : Addr} (X : K.In h) (G : h.Ns mainGlobals mg) (hfa : mg "law" = some (.ref fa))
    {f0 : Addr} {od0 an0 : Option Addr} {sl0 : Array (Option Value)} {oc0 kV0 dc0 pm0 cd0 ct0 : Value}
    (a0 : PySem.W.nsIn K mainGlobals "is_part" = some (some (.ref f0))) (l0 : K.lookup f0 = some ⟨oc0, od0, .func (PySem.W.fnOf "is_part" "is_part" (defArgs s_is_part) (defBody s_is_part) (defScope s_is_part) .none kV0 dc0 pm0 an0 cd0 ct0), sl0⟩) (c0 : PySem.W.codeIn K cd0 "is_part" = true) (k0 : PySem.W.keepIn K (.ref f0) = true)
    {f1 : Addr} {od1 an1 : Option Addr} {sl1 : Array (Option Value)} {oc1 kV1 dc1 pm1 cd1 ct1 : Value}
    (a1 : PySem.W.nsIn K mainGlobals "is_path" = some (some (.ref f1))) (l1 : K.lookup f1 = some ⟨oc1, od1, .func (PySem.W.fnOf "is_path" "is_path" (defArgs s_is_path) (defBody s_is_path) (defScope s_is_path) .none kV1 dc1 pm1 an1 cd1 ct1), sl1⟩) (c1 : PySem.W.codeIn K cd1 "is_path" = true) (k1 : PySem.W.keepIn K (.ref f1) = true)
    {f2 : Addr} {od2 an2 : Option Addr} {sl2 : Array (Option Value)} {oc2 kV2 dc2 pm2 cd2 ct2 : Value}
    (a2 : PySem.W.nsIn K mainGlobals "above" = some (some (.ref f2))) (l2 : K.lookup f2 = some ⟨oc2, od2, .func (PySem.W.fnOf "above" "above" (defArgs s_above) (defBody s_above) (defScope s_above) .none kV2 dc2 pm2 an2 cd2 ct2), sl2⟩) (c2 : PySem.W.codeIn K cd2 "above" = true) (k2 : PySem.W.keepIn K (.ref f2) = true)
    {f3 : Addr} {od3 an3 : Option Addr} {sl3 : Array (Option Value)} {oc3 kV3 dc3 pm3 cd3 ct3 : Value}
    (a3 : PySem.W.nsIn K mainGlobals "is_beneath" = some (some (.ref f3))) (l3 : K.lookup f3 = some ⟨oc3, od3, .func (PySem.W.fnOf "is_beneath" "is_beneath" (defArgs s_is_beneath) (defBody s_is_beneath) (defScope s_is_beneath) .none kV3 dc3 pm3 an3 cd3 ct3), sl3⟩) (c3 : PySem.W.codeIn K cd3 "is_beneath" = true) (k3 : PySem.W.keepIn K (.ref f3) = true)
    {f4 : Addr} {od4 an4 : Option Addr} {sl4 : Array (Option Value)} {oc4 kV4 dc4 pm4 cd4 ct4 : Value}
    (a4 : PySem.W.nsIn K mainGlobals "is_blocked" = some (some (.ref f4))) (l4 : K.lookup f4 = some ⟨oc4, od4, .func (PySem.W.fnOf "is_blocked" "is_blocked" (defArgs s_is_blocked) (defBody s_is_blocked) (defScope s_is_blocked) .none kV4 dc4 pm4 an4 cd4 ct4), sl4⟩) (c4 : PySem.W.codeIn K cd4 "is_blocked" = true) (k4 : PySem.W.keepIn K (.ref f4) = true)
    {f5 : Addr} {od5 an5 : Option Addr} {sl5 : Array (Option Value)} {oc5 kV5 dc5 pm5 cd5 ct5 : Value}
    (a5 : PySem.W.nsIn K mainGlobals "done" = some (some (.ref f5))) (l5 : K.lookup f5 = some ⟨oc5, od5, .func (PySem.W.fnOf "done" "done" (defArgs s_done) (defBody s_done) (defScope s_done) .none kV5 dc5 pm5 an5 cd5 ct5), sl5⟩) (c5 : PySem.W.codeIn K cd5 "done" = true) (k5 : PySem.W.keepIn K (.ref f5) = true)
    {f6 : Addr} {od6 an6 : Option Addr} {sl6 : Array (Option Value)} {oc6 kV6 dc6 pm6 cd6 ct6 : Value}
    (a6 : PySem.W.nsIn K mainGlobals "changed" = some (some (.ref f6))) (l6 : K.lookup f6 = some ⟨oc6, od6, .func (PySem.W.fnOf "changed" "changed" (defArgs s_changed) (defBody s_changed) (defScope s_changed) .none kV6 dc6 pm6 an6 cd6 ct6), sl6⟩) (c6 : PySem.W.codeIn K cd6 "changed" = true) (k6 : PySem.W.keepIn K (.ref f6) = true)
    {f7 : Addr} {od7 an7 : Option Addr} {sl7 : Array (Option Value)} {oc7 kV7 dc7 pm7 cd7 ct7 : Value}
    (a7 : PySem.W.nsIn K mainGlobals "between" = some (some (.ref f7))) (l7 : K.lookup f7 = some ⟨oc7, od7, .func (PySem.W.fnOf "between" "between" (defArgs s_between) (defBody s_between) (defScope s_between) .none kV7 dc7 pm7 an7 cd7 ct7), sl7⟩) (c7 : PySem.W.codeIn K cd7 "between" = true) (k7 : PySem.W.keepIn K (.ref f7) = true)
    {f8 : Addr} {od8 an8 : Option Addr} {sl8 : Array (Option Value)} {oc8 kV8 dc8 pm8 cd8 ct8 : Value}
    (a8 : PySem.W.nsIn K mainGlobals "_law_cell_at" = some (some (.ref f8))) (l8 : K.lookup f8 = some ⟨oc8, od8, .func (PySem.W.fnOf "_law_cell_at" "_law_cell_at" (defArgs s_law_cell_at) (defBody s_law_cell_at) (defScope s_law_cell_at) .none kV8 dc8 pm8 an8 cd8 ct8), sl8⟩) (c8 : PySem.W.codeIn K cd8 "_law_cell_at" = true) (k8 : PySem.W.keepIn K (.ref f8) = true)
    {f9 : Addr} {od9 an9 : Option Addr} {sl9 : Array (Option Value)} {oc9 kV9 dc9 pm9 cd9 ct9 : Value}
    (a9 : PySem.W.nsIn K mainGlobals "_law_sign_by" = some (some (.ref f9))) (l9 : K.lookup f9 = some ⟨oc9, od9, .func (PySem.W.fnOf "_law_sign_by" "_law_sign_by" (defArgs s_law_sign_by) (defBody s_law_sign_by) (defScope s_law_sign_by) .none kV9 dc9 pm9 an9 cd9 ct9), sl9⟩) (c9 : PySem.W.codeIn K cd9 "_law_sign_by" = true) (k9 : PySem.W.keepIn K (.ref f9) = true)
    {f10 : Addr} {od10 an10 : Option Addr} {sl10 : Array (Option Value)} {oc10 kV10 dc10 pm10 cd10 ct10 : Value}
    (a10 : PySem.W.nsIn K mainGlobals "_law_name_by" = some (some (.ref f10))) (l10 : K.lookup f10 = some ⟨oc10, od10, .func (PySem.W.fnOf "_law_name_by" "_law_name_by" (defArgs s_law_name_by) (defBody s_law_name_by) (defScope s_law_name_by) .none kV10 dc10 pm10 an10 cd10 ct10), sl10⟩) (c10 : PySem.W.codeIn K cd10 "_law_name_by" = true) (k10 : PySem.W.keepIn K (.ref f10) = true)
    {f11 : Addr} {od11 an11 : Option Addr} {sl11 : Array (Option Value)} {oc11 kV11 dc11 pm11 cd11 ct11 : Value}
    (a11 : PySem.W.nsIn K mainGlobals "_law_path_by" = some (some (.ref f11))) (l11 : K.lookup f11 = some ⟨oc11, od11, .func (PySem.W.fnOf "_law_path_by" "_law_path_by" (defArgs s_law_path_by) (defBody s_law_path_by) (defScope s_law_path_by) .none kV11 dc11 pm11 an11 cd11 ct11), sl11⟩) (c11 : PySem.W.codeIn K cd11 "_law_path_by" = true) (k11 : PySem.W.keepIn K (.ref f11) = true)
    {f12 : Addr} {od12 an12 : Option Addr} {sl12 : Array (Option Value)} {oc12 kV12 dc12 pm12 cd12 ct12 : Value}
    (a12 : PySem.W.nsIn K mainGlobals "_law_line_by" = some (some (.ref f12))) (l12 : K.lookup f12 = some ⟨oc12, od12, .func (PySem.W.fnOf "_law_line_by" "_law_line_by" (defArgs s_law_line_by) (defBody s_law_line_by) (defScope s_law_line_by) .none kV12 dc12 pm12 an12 cd12 ct12), sl12⟩) (c12 : PySem.W.codeIn K cd12 "_law_line_by" = true) (k12 : PySem.W.keepIn K (.ref f12) = true)
    {f13 : Addr} {od13 an13 : Option Addr} {sl13 : Array (Option Value)} {oc13 kV13 dc13 pm13 cd13 ct13 : Value}
    (a13 : PySem.W.nsIn K mainGlobals "_law_is_free" = some (some (.ref f13))) (l13 : K.lookup f13 = some ⟨oc13, od13, .func (PySem.W.fnOf "_law_is_free" "_law_is_free" (defArgs s_law_is_free) (defBody s_law_is_free) (defScope s_law_is_free) .none kV13 dc13 pm13 an13 cd13 ct13), sl13⟩) (c13 : PySem.W.codeIn K cd13 "_law_is_free" = true) (k13 : PySem.W.keepIn K (.ref f13) = true)
    {f14 : Addr} {od14 an14 : Option Addr} {sl14 : Array (Option Value)} {oc14 kV14 dc14 pm14 cd14 ct14 : Value}
    (a14 : PySem.W.nsIn K mainGlobals "_law_grown" = some (some (.ref f14))) (l14 : K.lookup f14 = some ⟨oc14, od14, .func (PySem.W.fnOf "_law_grown" "_law_grown" (defArgs s_law_grown) (defBody s_law_grown) (defScope s_law_grown) .none kV14 dc14 pm14 an14 cd14 ct14), sl14⟩) (c14 : PySem.W.codeIn K cd14 "_law_grown" = true) (k14 : PySem.W.keepIn K (.ref f14) = true)
    {f15 : Addr} {od15 an15 : Option Addr} {sl15 : Array (Option Value)} {oc15 kV15 dc15 pm15 cd15 ct15 : Value}
    (a15 : PySem.W.nsIn K mainGlobals "_law_word_of" = some (some (.ref f15))) (l15 : K.lookup f15 = some ⟨oc15, od15, .func (PySem.W.fnOf "_law_word_of" "_law_word_of" (defArgs s_law_word_of) (defBody s_law_word_of) (defScope s_law_word_of) .none kV15 dc15 pm15 an15 cd15 ct15), sl15⟩) (c15 : PySem.W.codeIn K cd15 "_law_word_of" = true) (k15 : PySem.W.keepIn K (.ref f15) = true)
    {f16 : Addr} {od16 an16 : Option Addr} {sl16 : Array (Option Value)} {oc16 kV16 dc16 pm16 cd16 ct16 : Value}
    (a16 : PySem.W.nsIn K mainGlobals "_law_is_deed" = some (some (.ref f16))) (l16 : K.lookup f16 = some ⟨oc16, od16, .func (PySem.W.fnOf "_law_is_deed" "_law_is_deed" (defArgs s_law_is_deed) (defBody s_law_is_deed) (defScope s_law_is_deed) .none kV16 dc16 pm16 an16 cd16 ct16), sl16⟩) (c16 : PySem.W.codeIn K cd16 "_law_is_deed" = true) (k16 : PySem.W.keepIn K (.ref f16) = true)
    {f17 : Addr} {od17 an17 : Option Addr} {sl17 : Array (Option Value)} {oc17 kV17 dc17 pm17 cd17 ct17 : Value}
    (a17 : PySem.W.nsIn K mainGlobals "_law_told" = some (some (.ref f17))) (l17 : K.lookup f17 = some ⟨oc17, od17, .func (PySem.W.fnOf "_law_told" "_law_told" (defArgs s_law_told) (defBody s_law_told) (defScope s_law_told) .none kV17 dc17 pm17 an17 cd17 ct17), sl17⟩) (c17 : PySem.W.codeIn K cd17 "_law_told" = true) (k17 : PySem.W.keepIn K (.ref f17) = true)
    {f18 : Addr} {od18 an18 : Option Addr} {sl18 : Array (Option Value)} {oc18 kV18 dc18 pm18 cd18 ct18 : Value}
    (a18 : PySem.W.nsIn K mainGlobals "_law_trees" = some (some (.ref f18))) (l18 : K.lookup f18 = some ⟨oc18, od18, .func (PySem.W.fnOf "_law_trees" "_law_trees" (defArgs s_law_trees) (defBody s_law_trees) (defScope s_law_trees) .none kV18 dc18 pm18 an18 cd18 ct18), sl18⟩) (c18 : PySem.W.codeIn K cd18 "_law_trees" = true) (k18 : PySem.W.keepIn K (.ref f18) = true)
    {f19 : Addr} {od19 an19 : Option Addr} {sl19 : Array (Option Value)} {oc19 kV19 dc19 pm19 cd19 ct19 : Value}
    (a19 : PySem.W.nsIn K mainGlobals "_law_odd_deed" = some (some (.ref f19))) (l19 : K.lookup f19 = some ⟨oc19, od19, .func (PySem.W.fnOf "_law_odd_deed" "_law_odd_deed" (defArgs s_law_odd_deed) (defBody s_law_odd_deed) (defScope s_law_odd_deed) .none kV19 dc19 pm19 an19 cd19 ct19), sl19⟩) (c19 : PySem.W.codeIn K cd19 "_law_odd_deed" = true) (k19 : PySem.W.keepIn K (.ref f19) = true)
    {f20 : Addr} {od20 an20 : Option Addr} {sl20 : Array (Option Value)} {oc20 kV20 dc20 pm20 cd20 ct20 : Value}
    (a20 : PySem.W.nsIn K mainGlobals "law" = some (some (.ref f20))) (l20 : K.lookup f20 = some ⟨oc20, od20, .func (PySem.W.fnOf "law" "law" (defArgs s_law) (defBody s_law) (defScope s_law) .none kV20 dc20 pm20 an20 cd20 ct20), sl20⟩) (c20 : PySem.W.codeIn K cd20 "law" = true) (k20 : PySem.W.keepIn K (.ref f20) = true)
    (z_all : PySem.W.nsIn K mainGlobals "all" = some none)
    (z_any : PySem.W.nsIn K mainGlobals "any" = some none)
    (z_dict : PySem.W.nsIn K mainGlobals "dict" = some none)
    (z_int : PySem.W.nsIn K mainGlobals "int" = some none)
    (z_isinstance : PySem.W.nsIn K mainGlobals "isinstance" = some none)
    (z_len : PySem.W.nsIn K mainGlobals "len" = some none)
    (z_list : PySem.W.nsIn K mainGlobals "list" = some none)
    (z_range : PySem.W.nsIn K mainGlobals "range" = some none)
    (z_sorted : PySem.W.nsIn K mainGlobals "sorted" = some none)
    (z_str : PySem.W.nsIn K mainGlobals "str" = some none)
    (z_tuple : PySem.W.nsIn K mainGlobals "tuple" = some none)
    {t_MOST_PARTS : Tok} (z_MOST_PARTS : PySem.W.nsIn K mainGlobals "MOST_PARTS" = some (some (.int 8 t_MOST_PARTS)))
    {t_MOST_SIGNS : Tok} (z_MOST_SIGNS : PySem.W.nsIn K mainGlobals "MOST_SIGNS" = some (some (.int 12 t_MOST_SIGNS)))
    {t_SIGNS : Tok} (z_SIGNS : PySem.W.nsIn K mainGlobals "SIGNS" = some (some (.str (Str.ofString "abcdefghijklmnopqrstuvwxyzABCDEFGHIJKLMNOPQRSTUVWXYZ0123456789.-_") t_SIGNS)))
    {C0 C1 C2 C3 : Addr} (eg0 : PySem.W.nsIn K mainGlobals "RoadError" = some (some (.ref C0))) (eg1 : PySem.W.nsIn K mainGlobals "NoPath" = some (some (.ref C1))) (eg2 : PySem.W.nsIn K mainGlobals "NoFile" = some (some (.ref C2))) (eg3 : PySem.W.nsIn K mainGlobals "InTheWay" = some (some (.ref C3)))
    (rx1 : PySem.W.excIn K C1 [.type "ValueError", .type "Exception", .type "BaseException", .type "object"] "ValueError.__new__" = true) (rk1 : PySem.W.keepIn K (.ref C1) = true) (rb1 : PySem.W.subIn K (.ref C1) (.type "BaseException") = some true) (rt1 : PySem.W.typeIn K (.ref C1) = some (.type "type"))
    (rx2 : PySem.W.excIn K C2 [.type "ValueError", .type "Exception", .type "BaseException", .type "object"] "ValueError.__new__" = true) (rk2 : PySem.W.keepIn K (.ref C2) = true) (rb2 : PySem.W.subIn K (.ref C2) (.type "BaseException") = some true) (rt2 : PySem.W.typeIn K (.ref C2) = some (.type "type"))
    (rx3 : PySem.W.excIn K C3 [.type "ValueError", .type "Exception", .type "BaseException", .type "object"] "ValueError.__new__" = true) (rk3 : PySem.W.keepIn K (.ref C3) = true) (rb3 : PySem.W.subIn K (.ref C3) (.type "BaseException") = some true) (rt3 : PySem.W.typeIn K (.ref C3) = some (.type "type"))
    (qcb : PySem.W.subIn K (.ref C0) (.type "BaseException") = some true) (qci0 : PySem.W.isClsIn K C0 = true) (qci1 : PySem.W.isClsIn K C1 = true) (qci2 : PySem.W.isClsIn K C2 = true) (qci3 : PySem.W.isClsIn K C3 = true) (qct0 : PySem.W.typeIn K (.ref C0) = some (.type "type")) (qct1 : PySem.W.typeIn K (.ref C1) = some (.type "type")) (qct2 : PySem.W.typeIn K (.ref C2) = some (.type "type")) (qct3 : PySem.W.typeIn K (.ref C3) = some (.type "type"))
    (t1hg : PySem.W.findIn K (.ref C1) "__getattribute__" = some (some (.builtin "BaseException.__getattribute__"))) (t1hk : PySem.W.findIn K (.ref C1) "__getattr__" = some none) (t1hs : PySem.W.subIn K (.ref C1) (.type "BaseException") = some true) (t1hd : PySem.W.hasDictIn K C1 = true) (t1ha : PySem.W.findIn K (.ref C1) "__class__" = some (some (.builtin "object.__class__"))) (t1hn : PySem.W.specialIn K (.builtin "object.__class__") "__get__" = some (some (.builtin "getset_descriptor.__get__"))) (t1ht : PySem.W.takesIn K (.builtin "object.__class__") = some true) (t1hm : PySem.W.mroIn K C1 (.type "object") = some true) (t1v : PySem.W.subIn K (.ref C1) (.type "ValueError") = some true) (t1i0 : PySem.W.subIn K (.ref C1) (.ref C0) = some true) (t1i1 : PySem.W.subIn K (.ref C1) (.ref C1) = some true) (t1i2 : PySem.W.subIn K (.ref C1) (.ref C2) = some false) (t1i3 : PySem.W.subIn K (.ref C1) (.ref C3) = some false)
    (t2hg : PySem.W.findIn K (.ref C2) "__getattribute__" = some (some (.builtin "BaseException.__getattribute__"))) (t2hk : PySem.W.findIn K (.ref C2) "__getattr__" = some none) (t2hs : PySem.W.subIn K (.ref C2) (.type "BaseException") = some true) (t2hd : PySem.W.hasDictIn K C2 = true) (t2ha : PySem.W.findIn K (.ref C2) "__class__" = some (some (.builtin "object.__class__"))) (t2hn : PySem.W.specialIn K (.builtin "object.__class__") "__get__" = some (some (.builtin "getset_descriptor.__get__"))) (t2ht : PySem.W.takesIn K (.builtin "object.__class__") = some true) (t2hm : PySem.W.mroIn K C2 (.type "object") = some true) (t2v : PySem.W.subIn K (.ref C2) (.type "ValueError") = some true) (t2i0 : PySem.W.subIn K (.ref C2) (.ref C0) = some true) (t2i1 : PySem.W.subIn K (.ref C2) (.ref C1) = some false) (t2i2 : PySem.W.subIn K (.ref C2) (.ref C2) = some true) (t2i3 : PySem.W.subIn K (.ref C2) (.ref C3) = some false)
    (t3hg : PySem.W.findIn K (.ref C3) "__getattribute__" = some (some (.builtin "BaseException.__getattribute__"))) (t3hk : PySem.W.findIn K (.ref C3) "__getattr__" = some none) (t3hs : PySem.W.subIn K (.ref C3) (.type "BaseException") = some true) (t3hd : PySem.W.hasDictIn K C3 = true) (t3ha : PySem.W.findIn K (.ref C3) "__class__" = some (some (.builtin "object.__class__"))) (t3hn : PySem.W.specialIn K (.builtin "object.__class__") "__get__" = some (some (.builtin "getset_descriptor.__get__"))) (t3ht : PySem.W.takesIn K (.builtin "object.__class__") = some true) (t3hm : PySem.W.mroIn K C3 (.type "object") = some true) (t3v : PySem.W.subIn K (.ref C3) (.type "ValueError") = some true) (t3i0 : PySem.W.subIn K (.ref C3) (.ref C0) = some true) (t3i1 : PySem.W.subIn K (.ref C3) (.ref C1) = some false) (t3i2 : PySem.W.subIn K (.ref C3) (.ref C2) = some false) (t3i3 : PySem.W.subIn K (.ref C3) (.ref C3) = some true)
    : ∃ fd : FuncData, (∀ (s : Shared) (v : Value), BindsTo s fd ⟨[v], []⟩ [("_law_script", v)]) ∧ ∀ base : Heap, K.In base → base.Ns mainGlobals mg → FnOk l.prog w K mg base CX0 6 fa fd ["_law_script"] (sp_law K) := by
  have z : Bt mg := ⟨PySem.W.mg_none_of X G z_all, PySem.W.mg_none_of X G z_any, PySem.W.mg_none_of X G z_dict, PySem.W.mg_none_of X G z_int, PySem.W.mg_none_of X G z_isinstance, PySem.W.mg_none_of X G z_len, PySem.W.mg_none_of X G z_list, PySem.W.mg_none_of X G z_range, PySem.W.mg_none_of X G z_sorted, PySem.W.mg_none_of X G z_str, PySem.W.mg_none_of X G z_tuple, ⟨_, PySem.W.mg_of X G z_MOST_PARTS⟩, ⟨_, PySem.W.mg_of X G z_MOST_SIGNS⟩, ⟨_, PySem.W.mg_of X G z_SIGNS⟩⟩
  have EG : EG mg (cs8 C0 C1 C2 C3 C0 C0 C0 C0) := ⟨PySem.W.mg_of X G eg0, PySem.W.mg_of X G eg1, PySem.W.mg_of X G eg2, PySem.W.mg_of X G eg3⟩
  have R1 : ErrR K (cs8 C0 C1 C2 C3 C0 C0 C0 C0) 1 := ⟨rx1, rk1, rb1, rt1⟩
  have R2 : ErrR K (cs8 C0 C1 C2 C3 C0 C0 C0 C0) 2 := ⟨rx2, rk2, rb2, rt2⟩
  have R3 : ErrR K (cs8 C0 C1 C2 C3 C0 C0 C0 C0) 3 := ⟨rx3, rk3, rb3, rt3⟩
  have E1 : ErrD K (cs8 C0 C1 C2 C3 C0 C0 C0 C0) [1, 2, 3] 1 := ⟨⟨t1hg, t1hk, t1hs, t1hd, t1ha, t1hn, t1ht, t1hm⟩, kit_t qci0 qct0 t1i0, fun j hj => by
    simp only [List.mem_cons, List.not_mem_nil, or_false] at hj
    rcases hj with rfl | rfl | rfl
    · exact exm_bb rb1 qci1 qct1 t1i1
    · exact exm_bb rb2 qci2 qct2 t1i2
    · exact exm_bb rb3 qci3 qct3 t1i3⟩
  have E2 : ErrD K (cs8 C0 C1 C2 C3 C0 C0 C0 C0) [1, 2, 3] 2 := ⟨⟨t2hg, t2hk, t2hs, t2hd, t2ha, t2hn, t2ht, t2hm⟩, kit_t qci0 qct0 t2i0, fun j hj => by
    simp only [List.mem_cons, List.not_mem_nil, or_false] at hj
    rcases hj with rfl | rfl | rfl
    · exact exm_bb rb1 qci1 qct1 t2i1
    · exact exm_bb rb2 qci2 qct2 t2i2
    · exact exm_bb rb3 qci3 qct3 t2i3⟩
  have E3 : ErrD K (cs8 C0 C1 C2 C3 C0 C0 C0 C0) [1, 2, 3] 3 := ⟨⟨t3hg, t3hk, t3hs, t3hd, t3ha, t3hn, t3ht, t3hm⟩, kit_t qci0 qct0 t3i0, fun j hj => by
    simp only [List.mem_cons, List.not_mem_nil, or_false] at hj
    rcases hj with rfl | rfl | rfl
    · exact exm_bb rb1 qci1 qct1 t3i1
    · exact exm_bb rb2 qci2 qct2 t3i2
    · exact exm_bb rb3 qci3 qct3 t3i3⟩
  have F0 := fun_mk (st := s_is_part) l0 c0 k0
  have b0 := F0.binds (ps := ["text"]) fun _ _ _ _ _ _ us hl => match us, hl with | [_], _ => rfl
  have F1 := fun_mk (st := s_is_path) l1 c1 k1
  have b1 := F1.binds (ps := ["text"]) fun _ _ _ _ _ _ us hl => match us, hl with | [_], _ => rfl
  have F2 := fun_mk (st := s_above) l2 c2 k2
  have b2 := F2.binds (ps := ["path"]) fun _ _ _ _ _ _ us hl => match us, hl with | [_], _ => rfl
  have F3 := fun_mk (st := s_is_beneath) l3 c3 k3
  have b3 := F3.binds (ps := ["path", "upper"]) fun _ _ _ _ _ _ us hl => match us, hl with | [_, _], _ => rfl
  have F4 := fun_mk (st := s_is_blocked) l4 c4 k4
  have b4 := F4.binds (ps := ["tree", "path"]) fun _ _ _ _ _ _ us hl => match us, hl with | [_, _], _ => rfl
  have F5 := fun_mk (st := s_done) l5 c5 k5
  have b5 := F5.binds (ps := ["tree", "deed"]) fun _ _ _ _ _ _ us hl => match us, hl with | [_, _], _ => rfl
  have F6 := fun_mk (st := s_changed) l6 c6 k6
  have b6 := F6.binds (ps := ["tree", "deeds"]) fun _ _ _ _ _ _ us hl => match us, hl with | [_, _], _ => rfl
  have F7 := fun_mk (st := s_between) l7 c7 k7
  have b7 := F7.binds (ps := ["old", "new"]) fun _ _ _ _ _ _ us hl => match us, hl with | [_, _], _ => rfl
  have F8 := fun_mk (st := s_law_cell_at) l8 c8 k8
  have b8 := F8.binds (ps := ["_law_script", "_law_k"]) fun _ _ _ _ _ _ us hl => match us, hl with | [_, _], _ => rfl
  have F9 := fun_mk (st := s_law_sign_by) l9 c9 k9
  have b9 := F9.binds (ps := ["_law_k"]) fun _ _ _ _ _ _ us hl => match us, hl with | [_], _ => rfl
  have F10 := fun_mk (st := s_law_name_by) l10 c10 k10
  have b10 := F10.binds (ps := ["_law_k", "_law_shift"]) fun _ _ _ _ _ _ us hl => match us, hl with | [_, _], _ => rfl
  have F11 := fun_mk (st := s_law_path_by) l11 c11 k11
  have b11 := F11.binds (ps := ["_law_cell", "_law_shift"]) fun _ _ _ _ _ _ us hl => match us, hl with | [_, _], _ => rfl
  have F12 := fun_mk (st := s_law_line_by) l12 c12 k12
  have b12 := F12.binds (ps := ["_law_k", "_law_shift"]) fun _ _ _ _ _ _ us hl => match us, hl with | [_, _], _ => rfl
  have F13 := fun_mk (st := s_law_is_free) l13 c13 k13
  have b13 := F13.binds (ps := ["_law_tree", "_law_path"]) fun _ _ _ _ _ _ us hl => match us, hl with | [_, _], _ => rfl
  have F14 := fun_mk (st := s_law_grown) l14 c14 k14
  have b14 := F14.binds (ps := ["_law_tree", "_law_cell", "_law_shift"]) fun _ _ _ _ _ _ us hl => match us, hl with | [_, _, _], _ => rfl
  have F15 := fun_mk (st := s_law_word_of) l15 c15 k15
  have b15 := F15.binds (ps := ["_law_tree", "_law_deeds"]) fun _ _ _ _ _ _ us hl => match us, hl with | [_, _], _ => rfl
  have F16 := fun_mk (st := s_law_is_deed) l16 c16 k16
  have b16 := F16.binds (ps := ["_law_deed"]) fun _ _ _ _ _ _ us hl => match us, hl with | [_], _ => rfl
  have F17 := fun_mk (st := s_law_told) l17 c17 k17
  have b17 := F17.binds (ps := ["_law_tree", "_law_deeds"]) fun _ _ _ _ _ _ us hl => match us, hl with | [_, _], _ => rfl
  have F18 := fun_mk (st := s_law_trees) l18 c18 k18
  have b18 := F18.binds (ps := ["_law_script"]) fun _ _ _ _ _ _ us hl => match us, hl with | [_], _ => rfl
  have F19 := fun_mk (st := s_law_odd_deed) l19 c19 k19
  have b19 := F19.binds (ps := ["_law_cell", "_law_new"]) fun _ _ _ _ _ _ us hl => match us, hl with | [_, _], _ => rfl
  have F20 := fun_mk (st := s_law) l20 c20 k20
  have b20 := F20.binds (ps := ["_law_script"]) fun _ _ _ _ _ _ us hl => match us, hl with | [_], _ => rfl
  have e := hfa.symm.trans (PySem.W.mg_of X G a20)
  cases e
  refine ⟨PySem.W.fnOf "law" "law" (defArgs s_law) (defBody s_law) (defScope s_law) .none kV20 dc20 pm20 an20 cd20 ct20, fun s v => .of_eq rfl, fun base _ _ => ?_⟩
  have C_is_part : Cal l.prog w K mg base 1 "is_part" ["text"] (sp_is_part K) := cal_of (ok_is_part F0 z  ) (PySem.W.mg_of X G a0) F0.kp b0
  have C_is_path : Cal l.prog w K mg base 2 "is_path" ["text"] (sp_is_path K) := cal_of (ok_is_path F1 z C_is_part ) (PySem.W.mg_of X G a1) F1.kp b1
  have C_above : Cal l.prog w K mg base 1 "above" ["path"] (sp_above K) := cal_of (ok_above F2 z  ) (PySem.W.mg_of X G a2) F2.kp b2
  have C_is_beneath : Cal l.prog w K mg base 1 "is_beneath" ["path", "upper"] (sp_is_beneath K) := cal_of (ok_is_beneath F3 z  ) (PySem.W.mg_of X G a3) F3.kp b3
  have C_is_blocked : Cal l.prog w K mg base 2 "is_blocked" ["tree", "path"] (sp_is_blocked K) := cal_of (ok_is_blocked F4 z C_above C_is_beneath ) (PySem.W.mg_of X G a4) F4.kp b4
  have C_done : CalX l.prog w K mg base 3 "done" ["tree", "deed"] (sp_done K (cs8 C0 C1 C2 C3 C0 C0 C0 C0)) := calX_of (ok_done EG F5 z C_is_path C_is_blocked R1 R2 R3) (PySem.W.mg_of X G a5) F5.kp b5
  have C_changed : CalX l.prog w K mg base 4 "changed" ["tree", "deeds"] (sp_changed K (cs8 C0 C1 C2 C3 C0 C0 C0 C0)) := calX_of (ok_changed EG F6 z C_done ) (PySem.W.mg_of X G a6) F6.kp b6
  have C_between : Cal l.prog w K mg base 1 "between" ["old", "new"] (sp_between K) := cal_of (ok_between F7 z  ) (PySem.W.mg_of X G a7) F7.kp b7
  have C_law_cell_at : Cal l.prog w K mg base 1 "_law_cell_at" ["_law_script", "_law_k"] (sp_law_cell_at K) := cal_of (ok_law_cell_at F8 z  ) (PySem.W.mg_of X G a8) F8.kp b8
  have C_law_sign_by : Cal l.prog w K mg base 1 "_law_sign_by" ["_law_k"] (sp_law_sign_by K) := cal_of (ok_law_sign_by F9 z  ) (PySem.W.mg_of X G a9) F9.kp b9
  have C_law_name_by : Cal l.prog w K mg base 2 "_law_name_by" ["_law_k", "_law_shift"] (sp_law_name_by K) := cal_of (ok_law_name_by F10 z C_law_sign_by ) (PySem.W.mg_of X G a10) F10.kp b10
  have C_law_path_by : Cal l.prog w K mg base 3 "_law_path_by" ["_law_cell", "_law_shift"] (sp_law_path_by K) := cal_of (ok_law_path_by F11 z C_law_name_by ) (PySem.W.mg_of X G a11) F11.kp b11
  have C_law_line_by : Cal l.prog w K mg base 1 "_law_line_by" ["_law_k", "_law_shift"] (sp_law_line_by K) := cal_of (ok_law_line_by F12 z  ) (PySem.W.mg_of X G a12) F12.kp b12
  have C_law_is_free : Cal l.prog w K mg base 1 "_law_is_free" ["_law_tree", "_law_path"] (sp_law_is_free K) := cal_of (ok_law_is_free F13 z  ) (PySem.W.mg_of X G a13) F13.kp b13
  have C_law_grown : Cal l.prog w K mg base 4 "_law_grown" ["_law_tree", "_law_cell", "_law_shift"] (sp_law_grown K) := cal_of (ok_law_grown F14 z C_law_path_by C_law_is_free C_law_line_by ) (PySem.W.mg_of X G a14) F14.kp b14
  have C_law_word_of : Cal l.prog w K mg base 2 "_law_word_of" ["_law_tree", "_law_deeds"] (sp_law_word_of K) := cal_of (ok_law_word_of F15 z C_law_is_free ) (PySem.W.mg_of X G a15) F15.kp b15
  have C_law_is_deed : Cal l.prog w K mg base 1 "_law_is_deed" ["_law_deed"] (sp_law_is_deed K) := cal_of (ok_law_is_deed F16 z  ) (PySem.W.mg_of X G a16) F16.kp b16
  have C_law_told : Cal l.prog w K mg base 5 "_law_told" ["_law_tree", "_law_deeds"] (sp_law_told K) := cal_of (ok_law_told EG F17 z C_changed E1 E2 E3) (PySem.W.mg_of X G a17) F17.kp b17
  have C_law_trees : Cal l.prog w K mg base 5 "_law_trees" ["_law_script"] (sp_law_trees K) := cal_of (ok_law_trees F18 z C_law_cell_at C_law_grown C_law_line_by ) (PySem.W.mg_of X G a18) F18.kp b18
  have C_law_odd_deed : Cal l.prog w K mg base 1 "_law_odd_deed" ["_law_cell", "_law_new"] (sp_law_odd_deed K) := cal_of (ok_law_odd_deed F19 z  ) (PySem.W.mg_of X G a19) F19.kp b19
  exact ok_law F20 z C_law_trees C_between C_law_is_deed C_changed C_law_word_of C_law_cell_at C_law_odd_deed C_law_told
end K05


open PySem PySem.W PyProof.Rows
set_option maxHeartbeats 0 in
theorem PySem.Challenge.cw_threeroad_k05_rows_between_holds : PySem.Challenge.rw_threeroad_k05_rows_between.Holds := by
  w_on; o_law; k_head; (case hw => w_witness2)
  k_fill
  refine L2.walk_of (l := PySem.Challenge.rw_threeroad_k05_rows_between) (n := 63) (k := 6) (x := "_law_script") (CX := fun _ => L2.CX0) (sp := fun w => K05.sp_law _) rfl (by decide) rfl ⟨rfl, by decide, by decide⟩ (fun w h Y => PySem.W.kIn_of Y) ?F (fun _ _ a ns hl _ hS => ⟨_, ⟨a, ns, rfl, hS, rfl⟩, fun _ _ => congrArg L2.V.bl (K05.law_holds ns)⟩) (fun _ _ _ _ _ h => h)
  case F =>
    intro w mg fa h KX G hmg
    refine' K05.all_mk KX G hmg ?a0 ?l0 ?c0 ?k0 ?a1 ?l1 ?c1 ?k1 ?a2 ?l2 ?c2 ?k2 ?a3 ?l3 ?c3 ?k3 ?a4 ?l4 ?c4 ?k4 ?a5 ?l5 ?c5 ?k5 ?a6 ?l6 ?c6 ?k6 ?a7 ?l7 ?c7 ?k7 ?a8 ?l8 ?c8 ?k8 ?a9 ?l9 ?c9 ?k9 ?a10 ?l10 ?c10 ?k10 ?a11 ?l11 ?c11 ?k11 ?a12 ?l12 ?c12 ?k12 ?a13 ?l13 ?c13 ?k13 ?a14 ?l14 ?c14 ?k14 ?a15 ?l15 ?c15 ?k15 ?a16 ?l16 ?c16 ?k16 ?a17 ?l17 ?c17 ?k17 ?a18 ?l18 ?c18 ?k18 ?a19 ?l19 ?c19 ?k19 ?a20 ?l20 ?c20 ?k20 ?z_all ?z_any ?z_dict ?z_int ?z_isinstance ?z_len ?z_list ?z_range ?z_sorted ?z_str ?z_tuple ?z_MOST_PARTS ?z_MOST_SIGNS ?z_SIGNS ?eg0 ?eg1 ?eg2 ?eg3 ?rx1 ?rk1 ?rb1 ?rt1 ?rx2 ?rk2 ?rb2 ?rt2 ?rx3 ?rk3 ?rb3 ?rt3 ?qcb ?qci0 ?qci1 ?qci2 ?qci3 ?qct0 ?qct1 ?qct2 ?qct3 ?t1hg ?t1hk ?t1hs ?t1hd ?t1ha ?t1hn ?t1ht ?t1hm ?t1v ?t1i0 ?t1i1 ?t1i2 ?t1i3 ?t2hg ?t2hk ?t2hs ?t2hd ?t2ha ?t2hn ?t2ht ?t2hm ?t2v ?t2i0 ?t2i1 ?t2i2 ?t2i3 ?t3hg ?t3hk ?t3hs ?t3hd ?t3ha ?t3hn ?t3ht ?t3hm ?t3v ?t3i0 ?t3i1 ?t3i2 ?t3i3
    (case a0 => k_is)
    (case l0 => k_is)
    (case c0 => k_is)
    (case k0 => k_is)
    (case a1 => k_is)
    (case l1 => k_is)
    (case c1 => k_is)
    (case k1 => k_is)
    (case a2 => k_is)
    (case l2 => k_is)
    (case c2 => k_is)
    (case k2 => k_is)
    (case a3 => k_is)
    (case l3 => k_is)
    (case c3 => k_is)
    (case k3 => k_is)
    (case a4 => k_is)
    (case l4 => k_is)
    (case c4 => k_is)
    (case k4 => k_is)
    (case a5 => k_is)
    (case l5 => k_is)
    (case c5 => k_is)
    (case k5 => k_is)
    (case a6 => k_is)
    (case l6 => k_is)
    (case c6 => k_is)
    (case k6 => k_is)
    (case a7 => k_is)
    (case l7 => k_is)
    (case c7 => k_is)
    (case k7 => k_is)
    (case a8 => k_is)
    (case l8 => k_is)
    (case c8 => k_is)
    (case k8 => k_is)
    (case a9 => k_is)
    (case l9 => k_is)
    (case c9 => k_is)
    (case k9 => k_is)
    (case a10 => k_is)
    (case l10 => k_is)
    (case c10 => k_is)
    (case k10 => k_is)
    (case a11 => k_is)
    (case l11 => k_is)
    (case c11 => k_is)
    (case k11 => k_is)
    (case a12 => k_is)
    (case l12 => k_is)
    (case c12 => k_is)
    (case k12 => k_is)
    (case a13 => k_is)
    (case l13 => k_is)
    (case c13 => k_is)
    (case k13 => k_is)
    (case a14 => k_is)
    (case l14 => k_is)
    (case c14 => k_is)
    (case k14 => k_is)
    (case a15 => k_is)
    (case l15 => k_is)
    (case c15 => k_is)
    (case k15 => k_is)
    (case a16 => k_is)
    (case l16 => k_is)
    (case c16 => k_is)
    (case k16 => k_is)
    (case a17 => k_is)
    (case l17 => k_is)
    (case c17 => k_is)
    (case k17 => k_is)
    (case a18 => k_is)
    (case l18 => k_is)
    (case c18 => k_is)
    (case k18 => k_is)
    (case a19 => k_is)
    (case l19 => k_is)
    (case c19 => k_is)
    (case k19 => k_is)
    (case a20 => k_is)
    (case l20 => k_is)
    (case c20 => k_is)
    (case k20 => k_is)
    (case z_all => k_is)
    (case z_any => k_is)
    (case z_dict => k_is)
    (case z_int => k_is)
    (case z_isinstance => k_is)
    (case z_len => k_is)
    (case z_list => k_is)
    (case z_range => k_is)
    (case z_sorted => k_is)
    (case z_str => k_is)
    (case z_tuple => k_is)
    (case z_MOST_PARTS => k_is)
    (case z_MOST_SIGNS => k_is)
    (case z_SIGNS => k_is)
    (case eg0 => k_is)
    (case eg1 => k_is)
    (case eg2 => k_is)
    (case eg3 => k_is)
    (case rx1 => k_exc)
    (case rk1 => k_is)
    (case rb1 => k_is)
    (case rt1 => k_is)
    (case rx2 => k_exc)
    (case rk2 => k_is)
    (case rb2 => k_is)
    (case rt2 => k_is)
    (case rx3 => k_exc)
    (case rk3 => k_is)
    (case rb3 => k_is)
    (case rt3 => k_is)
    (case qcb => k_is)
    (case qci0 => k_is)
    (case qci1 => k_is)
    (case qci2 => k_is)
    (case qci3 => k_is)
    (case qct0 => k_is)
    (case qct1 => k_is)
    (case qct2 => k_is)
    (case qct3 => k_is)
    (case t1hg => k_is)
    (case t1hk => k_is)
    (case t1hs => k_is)
    (case t1hd => k_is)
    (case t1ha => k_is)
    (case t1hn => k_is)
    (case t1ht => k_is)
    (case t1hm => k_is)
    (case t1v => k_is)
    (case t1i0 => k_is)
    (case t1i1 => k_is)
    (case t1i2 => k_is)
    (case t1i3 => k_is)
    (case t2hg => k_is)
    (case t2hk => k_is)
    (case t2hs => k_is)
    (case t2hd => k_is)
    (case t2ha => k_is)
    (case t2hn => k_is)
    (case t2ht => k_is)
    (case t2hm => k_is)
    (case t2v => k_is)
    (case t2i0 => k_is)
    (case t2i1 => k_is)
    (case t2i2 => k_is)
    (case t2i3 => k_is)
    (case t3hg => k_is)
    (case t3hk => k_is)
    (case t3hs => k_is)
    (case t3hd => k_is)
    (case t3ha => k_is)
    (case t3hn => k_is)
    (case t3ht => k_is)
    (case t3hm => k_is)
    (case t3v => k_is)
    (case t3i0 => k_is)
    (case t3i1 => k_is)
    (case t3i2 => k_is)
    (case t3i3 => k_is)

