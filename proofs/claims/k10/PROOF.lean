import PyProof.Rows.All
import Wide.All
import OpenK.AllK
import Wide.FinOn
import HandS.ForMost
import HandS.Evl
import HandS.IsInst
import HandS.DeepEq
import HandS.ListItems
import HandS.HotCalls
import HandS.ExcCtx
import HandS.ExcIs
import HandS.ForExc
import HandS.DictComp
import HandS.Style
import HandS.FStr
import PyProof.Rows.SortShellAny
import PyProof.Rows.StrMeet
import HandS.ListEq
import HandS.Set
import HandS.SetFor
import HandS.Steps
import KE.KSortTupG
import HandS.SetKeys
import HandS.Strs
import HandS.RevRange
import HandS.Zip
import HandS.TryOnly
import PySem.Challenge.RW_threeroad_k10_no_version
set_option Elab.async false
set_option linter.all false
set_option maxRecDepth 100000
set_option maxHeartbeats 40000000
set_option autoImplicit false
/-! Own layer: values of expressions over plain data (ints, texts as lists of signs, lists). -/
namespace Vf
open PySem PySem.Spec PyProof.Rows L2 TL Evl

/-! ## texts -/
abbrev Tx := List Nat
def mk (l : Tx) : Str := ⟨l.toArray⟩
def vs (l : Tx) : V := .str (mk l)
def tx (s : String) : Tx := s.toList.map Char.toNat
theorem tl_of (l : Tx) : tl (mk l) = l := rfl
theorem len_of (l : Tx) : (mk l).length = l.length := by rw [len_tl, tl_of]
theorem mk_of (x : Str) : mk (tl x) = x := ext_tl rfl
theorem app_of (a b : Tx) : mk a ++ mk b = mk (a ++ b) := ext_tl (by rw [tl_append, tl_of, tl_of, tl_of])
theorem mk_inj {a b : Tx} (h : mk a = mk b) : a = b := by rw [← tl_of a, h, tl_of]
theorem vs_inj {a b : Tx} (h : vs a = vs b) : a = b := mk_inj (V.str.inj h)
theorem lit_of (s : String) : Str.ofString s = mk (tx s) := ext_tl (tl_ofString s)
theorem vlit (s : String) : V.str (Str.ofString s) = vs (tx s) := congrArg V.str (lit_of s)
theorem dec_vs (a b : Tx) : decide (vs a = vs b) = decide (a = b) := by
  by_cases h : a = b
  · subst h
    rw [decide_eq_true rfl, decide_eq_true rfl]
  · rw [decide_eq_false h, decide_eq_false (fun e => h (vs_inj e))]
theorem dec_int (a b : Int) : decide (V.int a = V.int b) = decide (a = b) := by
  by_cases h : a = b
  · subst h
    rw [decide_eq_true rfl, decide_eq_true rfl]
  · rw [decide_eq_false h, decide_eq_false (fun e => h (V.int.inj e))]
theorem dec_bl (a b : Bool) : decide (V.bl a = V.bl b) = (a == b) := by
  cases a <;> cases b <;> decide

/-! ## places -/
theorem atI_get {α β : Type} (f : α → β) (l : List α) (d : α) {i : Int} (h0 : 0 ≤ i) (h1 : i < l.length) : atI (l.map f) i = some (f (l.getD i.toNat d)) := by
  have hj : i.toNat < l.length := by omega
  unfold atI ixN
  rw [if_pos h0, if_pos (by rw [List.length_map]; exact h1)]
  show (l.map f)[i.toNat]? = _
  rw [List.getElem?_map, List.getElem?_eq_getElem hj, List.getD_eq_getElem?_getD, List.getElem?_eq_getElem hj]
  rfl
theorem atI_getT (l : Tx) {i : Int} (h0 : 0 ≤ i) (h1 : i < l.length) : atI (mk l).cps.toList i = some (l.getD i.toNat 0) := by
  have h := atI_get (id : Nat → Nat) l 0 h0 h1
  rw [List.map_id] at h
  exact h
/-- slices, of anything -/
def cutG {α : Type} (l : List α) (lo hi : Option Int) : List α := (l.drop (HT.sIx l.length 0 lo)).take (HT.sIx l.length l.length hi - HT.sIx l.length 0 lo)
theorem cutV_map {α : Type} (f : α → V) (l : List α) (lo hi : Option Int) : cutV (l.map f) lo hi = (cutG l lo hi).map f := by
  unfold cutV cutG
  rw [List.length_map, List.map_take, List.map_drop]
theorem cutS_of (l : Tx) (lo hi : Option Int) : cutS (mk l) lo hi = mk (cutG l lo hi) := by
  unfold cutS cutG
  rw [len_of]
  rfl
theorem cutG_to {α : Type} (l : List α) (n : Nat) : cutG l none (some (n : Int)) = l.take n := by
  unfold cutG
  rw [HT.sIx_none, HT.sIx_nat, Nat.sub_zero, List.drop_zero]
  by_cases h : n ≤ l.length
  · rw [Nat.min_eq_left h]
  · rw [Nat.min_eq_right (by omega), List.take_length, List.take_of_length_le (by omega)]
theorem cutG_from {α : Type} (l : List α) (n : Nat) : cutG l (some (n : Int)) none = l.drop n := by
  unfold cutG
  rw [HT.sIx_none, HT.sIx_nat]
  by_cases h : n ≤ l.length
  · rw [Nat.min_eq_left h]
    exact List.take_of_length_le (by rw [List.length_drop]; omega)
  · rw [Nat.min_eq_right (by omega), Nat.sub_self, List.take_zero, List.drop_of_length_le (by omega)]

section
variable {K : PySem.W.Frag} {σ : L2.St} {H H' : Hp} {ta tb te tx' : TE} {t u : TT} {x y z v : V} {r : R2} {a b i j : Int} {p q : Tx}

/-! ## ints -/
theorem e_add (ha : Ev ta σ H (.int a)) (hb : Ev tb σ H (.int b)) : Ev (tOp (rI0 fun i j => .int (i + j)) ta tb) σ H (.int (a + b)) := ev_op ha hb rv_I0
theorem e_sub (ha : Ev ta σ H (.int a)) (hb : Ev tb σ H (.int b)) : Ev (tOp (rI0 fun i j => .int (i - j)) ta tb) σ H (.int (a - b)) := ev_op ha hb rv_I0
theorem e_mul (ha : Ev ta σ H (.int a)) (hb : Ev tb σ H (.int b)) (h : CMul a b) : Ev (tOp (rI CMul fun i j => .int (i * j)) ta tb) σ H (.int (a * b)) := ev_op ha hb (rv_I h)
theorem e_mod (ha : Ev ta σ H (.int a)) (hb : Ev tb σ H (.int b)) (h : 0 < b) : Ev (tOp (rI (fun _ j => 0 < j) fun i j => .int (i % j)) ta tb) σ H (.int (a % b)) := ev_op ha hb (rv_I (C := fun _ j => 0 < j) h)
theorem e_div (ha : Ev ta σ H (.int a)) (hb : Ev tb σ H (.int b)) (h : 0 < b ∧ b < 1073741824) : Ev (tOp (rI CDiv fun i j => .int (i / j)) ta tb) σ H (.int (a / b)) := ev_op ha hb (rv_I (C := CDiv) h)
theorem e_neg (ha : Ev ta σ H (.int a)) : Ev (tUn (rU fun i => .int (-i)) ta) σ H (.int (-a)) := ev_un ha ru_neg
theorem e_lt (ha : Ev ta σ H (.int a)) (hb : Ev tb σ H (.int b)) : Ev (tOp (rI0 fun i j => .bl (decide (i < j))) ta tb) σ H (.bl (decide (a < b))) := ev_op ha hb rv_I0
theorem e_le (ha : Ev ta σ H (.int a)) (hb : Ev tb σ H (.int b)) : Ev (tOp (rI0 fun i j => .bl (decide (i ≤ j))) ta tb) σ H (.bl (decide (a ≤ b))) := ev_op ha hb rv_I0
theorem e_gt (ha : Ev ta σ H (.int a)) (hb : Ev tb σ H (.int b)) : Ev (tOp (rI0 fun i j => .bl (decide (j < i))) ta tb) σ H (.bl (decide (b < a))) := ev_op ha hb rv_I0
theorem e_ge (ha : Ev ta σ H (.int a)) (hb : Ev tb σ H (.int b)) : Ev (tOp (rI0 fun i j => .bl (decide (j ≤ i))) ta tb) σ H (.bl (decide (b ≤ a))) := ev_op ha hb rv_I0
theorem e_eqI (ha : Ev ta σ H (.int a)) (hb : Ev tb σ H (.int b)) : Ev (tOp rEq ta tb) σ H (.bl (decide (a = b))) := dec_int a b ▸ ev_op ha hb (rv_eq rfl)
theorem e_neI (ha : Ev ta σ H (.int a)) (hb : Ev tb σ H (.int b)) : Ev (tOp rNe ta tb) σ H (.bl (!decide (a = b))) := dec_int a b ▸ ev_op ha hb (rv_ne rfl)
theorem e_eqT (ha : Ev ta σ H (vs p)) (hb : Ev tb σ H (vs q)) : Ev (tOp rEq ta tb) σ H (.bl (decide (p = q))) := dec_vs p q ▸ ev_op ha hb (rv_eq rfl)
theorem e_neT (ha : Ev ta σ H (vs p)) (hb : Ev tb σ H (vs q)) : Ev (tOp rNe ta tb) σ H (.bl (!decide (p = q))) := dec_vs p q ▸ ev_op ha hb (rv_ne rfl)
theorem e_eqB {c d : Bool} (ha : Ev ta σ H (.bl c)) (hb : Ev tb σ H (.bl d)) : Ev (tOp rEq ta tb) σ H (.bl (c == d)) := dec_bl c d ▸ ev_op ha hb (rv_eq rfl)
theorem e_neB {c d : Bool} (ha : Ev ta σ H (.bl c)) (hb : Ev tb σ H (.bl d)) : Ev (tOp rNe ta tb) σ H (.bl (!(c == d))) := dec_bl c d ▸ ev_op ha hb (rv_ne rfl)

/-! ## texts -/
theorem e_lit {s : String} : Ev (tC (.str (Str.ofString s))) σ H (vs (tx s)) := by
  rw [← vlit]
  exact ev_c
def rAddT : R2 := fun x y H Q => ∃ i j, x = .str i ∧ y = .str j ∧ i.length + j.length ≤ sizeLine ∧ Q (.str (i ++ j)) H
theorem op_addT {X : Cx} : OpR X (binaryOp .Add) rAddT := op_add_str
theorem rv_addT (h : p.length + q.length ≤ 100000) : RV rAddT (vs p) (vs q) H (vs (p ++ q)) := fun H1 _ Q k =>
  ⟨mk p, mk q, rfl, rfl, by rw [len_of, len_of]; exact sz_of h, by rw [app_of]; exact k H1 (Ex.refl H1)⟩
theorem e_addT (ha : Ev ta σ H (vs p)) (hb : Ev tb σ H (vs q)) (h : p.length + q.length ≤ 100000) : Ev (tOp rAddT ta tb) σ H (vs (p ++ q)) := ev_op ha hb (rv_addT h)
theorem e_ixS (ha : Ev ta σ H (vs p)) (hb : Ev tb σ H (.int i)) (h : 0 ≤ i ∧ i < p.length ∧ p.length ≤ 100000) : Ev (tOp rIxS ta tb) σ H (vs [p.getD i.toNat 0]) :=
  ev_op ha hb (rv_ixS (by rw [len_of]; exact h.2.2) (atI_getT p h.1 h.2.1))
theorem e_slS {tl' th : TO} {lo hi : Option Int} (h : Ev te σ H (vs p)) (h1 : EvO tl' σ H lo) (h2 : EvO th σ H hi) (hz : p.length ≤ 100000) : Ev (tSl rSlS te tl' th) σ H (vs (cutG p lo hi)) := fun H1 e Q k =>
  h H1 e _ fun H2 e2 => h1 H2 (e.trans e2) _ fun H3 e3 => h2 H3 ((e.trans e2).trans e3) _ fun H4 e4 =>
    ⟨mk p, rfl, by rw [len_of]; exact sz_of hz, by rw [cutS_of]; exact k H4 ((e2.trans e3).trans e4)⟩
def rLenT : List V → Hp → VK → Prop := fun xs H Q => ∃ z, xs = [.str z] ∧ z.length ≤ sizeLine ∧ Q (.int z.length) H
theorem call_lenT {X : Cx} : CallR X (.builtin "len") rLenT := call_len_str
theorem e_lenT (h : Ev te σ H (vs p)) (hz : p.length ≤ 100000) : Ev (tCB rLenT (tCons te tNil)) σ H (.int (p.length : Int)) := ev_cb (ea_cons h ea_nil) fun H1 _ Q k =>
  ⟨mk p, rfl, by rw [len_of]; exact sz_of hz, by rw [len_of]; exact k H1 (Ex.refl H1)⟩
/-- one sign in a text -/
def rInT : R2 := fun x y H Q => ∃ (c : Nat) (z : Str), x = .str ⟨#[c]⟩ ∧ y = .str z ∧ Q (.bl (decide (c ∈ z.cps.toList))) H
def rNiT : R2 := fun x y H Q => ∃ (c : Nat) (z : Str), x = .str ⟨#[c]⟩ ∧ y = .str z ∧ Q (.bl (!decide (c ∈ z.cps.toList))) H
theorem op_inT {X : Cx} : OpR X (compareOp .In) rInT := op_in_sign
theorem op_niT {X : Cx} : OpR X (compareOp .NotIn) rNiT := op_notIn_sign
theorem e_inT {c : Nat} (ha : Ev ta σ H (vs [c])) (hb : Ev tb σ H (vs p)) : Ev (tOp rInT ta tb) σ H (.bl (decide (c ∈ p))) := ev_op ha hb fun H1 _ Q k => ⟨c, mk p, rfl, rfl, k H1 (Ex.refl H1)⟩
theorem e_niT {c : Nat} (ha : Ev ta σ H (vs [c])) (hb : Ev tb σ H (vs p)) : Ev (tOp rNiT ta tb) σ H (.bl (!decide (c ∈ p))) := ev_op ha hb fun H1 _ Q k => ⟨c, mk p, rfl, rfl, k H1 (Ex.refl H1)⟩
/-- sep.join(list) -/
def rJoinT (K : PySem.W.Frag) : V → List V → Hp → VK → Prop := fun x xs H Q => ∃ a p, ∃ ys : List Str, x = .str a ∧ xs = [.ref p] ∧ (SqL K H p (ys.map V.str) ∨ SqT K H p (ys.map V.str)) ∧
  (ys.map (·.length)).sum + ys.length * a.length ≤ 16777216 ∧ Q (.str (Txt.join a ys)) H
theorem pe_joinT {X : Cx} {o e : Expr} {to te : TE} {apos pos : Pos} (ho : PE X o to) (he : PE X e te) (hs : starEach [e] X.env = [(false, eval e X.env)] := by rfl) (hbase : attributeBase o "join" X.env (eval o X.env) = eval o X.env := by rfl) (hline : (apos.endLine == pos.line) = true := by rfl) :
    PE X (.Call (.Attribute o "join" apos) [e] [] pos) (tM1 (rJoinT X.K) to te) := pe_join ho he hs hbase hline
def sumLen (l : List Tx) : Nat := (l.map List.length).sum
theorem map_vs (l : List Tx) : l.map vs = (l.map mk).map V.str := by rw [List.map_map]; rfl
theorem sum_mk (l : List Tx) : ((l.map mk).map (·.length)).sum = sumLen l := by
  unfold sumLen
  rw [List.map_map]
  congr 1
theorem join_of (s : Tx) (l : List Tx) : Txt.join (mk s) (l.map mk) = mk (joinL s l) := ext_tl (by
  rw [join_eq, tl_join, tl_of, tl_of, List.map_map]
  congr 1
  exact (List.map_congr_left fun x _ => tl_of x).trans (List.map_id l))
theorem jn_rule {s : Tx} {l : List Tx} {pl : Addr} {H1 : Hp} {Q : VK} (hS : SqL K H1 pl (l.map vs)) (hz : sumLen l + l.length * s.length ≤ 16777216) (k : Q (vs (joinL s l)) H1) : rJoinT K (vs s) [.ref pl] H1 Q :=
  ⟨mk s, pl, l.map mk, rfl, rfl, Or.inl (map_vs l ▸ hS), by rw [sum_mk, List.length_map, len_of]; exact hz, by rw [join_of]; exact k⟩
theorem jn_size {s : Tx} {l : List Tx} (hz : sumLen l ≤ 1000000 ∧ l.length ≤ 1000 ∧ s.length ≤ 1000) : sumLen l + l.length * s.length ≤ 16777216 := by
  have h := Nat.mul_le_mul hz.2.1 hz.2.2
  omega
theorem e_joinN {s : Tx} {l : List Tx} (h : Ev ta σ H (vs s)) (hl : EvL te σ H (l.map vs)) (hz : sumLen l ≤ 1000000 ∧ l.length ≤ 1000 ∧ s.length ≤ 1000) : Ev (tM1 (rJoinT K) ta te) σ H (vs (joinL s l)) := fun H1 e Q k =>
  h H1 e _ fun H2 e2 => ⟨⟨mk s, rfl⟩, hl H2 (e.trans e2) _ fun pl H3 _ e3 hp => jn_rule (sq_of hp) (jn_size hz) (k H3 (e2.trans e3))⟩
theorem e_joinR {s : Tx} {l : List Tx} {pl : Addr} (h : Ev ta σ H (vs s)) (hl : Ev te σ H (.ref pl)) (hS : SqL K H pl (l.map vs)) (hz : sumLen l ≤ 1000000 ∧ l.length ≤ 1000 ∧ s.length ≤ 1000) : Ev (tM1 (rJoinT K) ta te) σ H (vs (joinL s l)) := fun H1 e Q k =>
  h H1 e _ fun H2 e2 => ⟨⟨mk s, rfl⟩, hl H2 (e.trans e2) _ fun H3 e3 => jn_rule (ex_l ((e.trans e2).trans e3) hS) (jn_size hz) (k H3 (e2.trans e3))⟩
/-- x.split(one sign) -/
def rSplitT : V → List V → Hp → VK → Prop := fun x xs H Q => ∃ a b, x = .str a ∧ xs = [.str b] ∧ (b.length == 0) = false ∧ a.length + 2 ≤ sizeLine ∧ rNewStrs (Txt.split a b) H Q
theorem pe_splitT {X : Cx} {o e : Expr} {to te : TE} {apos pos : Pos} (ho : PE X o to) (he : PE X e te) (hs : starEach [e] X.env = [(false, eval e X.env)] := by rfl) (hbase : attributeBase o "split" X.env (eval o X.env) = eval o X.env := by rfl) (hline : (apos.endLine == pos.line) = true := by rfl) :
    PE X (.Call (.Attribute o "split" apos) [e] [] pos) (tM1 rSplitT to te) := pe_split ho he hs hbase hline
def cuts (c : Nat) (l : Tx) : List Tx := spl [c] 0 [] l
theorem split_of {c : Nat} (hc : c < 256) (l : Tx) : (Txt.split (mk l) (mk [c])).map V.str = (cuts c l).map vs := by
  have h := split_spl (mk l) (mk [c]) (by rw [tl_of]; simp) (kind_ok (by show (#[c] : Array Nat).all (· < 256) = true; simp [hc]))
  rw [tl_of, tl_of] at h
  show _ = (spl [c] 0 [] l).map vs
  rw [← h, List.map_map]
  exact List.map_congr_left fun y _ => by
    show V.str y = V.str (mk (tl y))
    rw [mk_of]
theorem l_split {c : Nat} (ha : Ev ta σ H (vs p)) (hb : Ev te σ H (vs [c])) (hc : c < 256) (hz : p.length ≤ 90000) : EvL (tM1 rSplitT ta te) σ H ((cuts c p).map vs) := fun H1 e Q k =>
  ha H1 e _ fun H2 e2 => ⟨⟨mk p, rfl⟩, hb H2 (e.trans e2) _ fun H3 e3 =>
    ⟨mk p, mk [c], rfl, rfl, by rw [len_of]; rfl, by rw [len_of]; exact sz_of (by omega), fun pl np => by
      have e4 := split_of hc p
      refine k pl _ (fresh_back (e2.trans e3) np) ((e2.trans e3).trans (Ex.new np)) ?_
      rw [upd_same, e4]⟩⟩
/-- startswith -/
theorem starts_of (p q : Tx) : Txt.startswith (mk p) (mk q) = q.isPrefixOf p := by
  show ((decide (0 + (mk q).length ≤ (mk p).length)) && Builtin.Str.subAt (mk p) (mk q) 0) = _
  rw [len_of, len_of, Nat.zero_add, PySem.StrLaws.subAt_eq, List.drop_zero, len_of]
  show (decide (q.length ≤ p.length) && (p.take q.length == q)) = q.isPrefixOf p
  cases h : q.isPrefixOf p with
  | true =>
    obtain ⟨r, rfl⟩ := List.isPrefixOf_iff_prefix.mp h
    simp
  | false =>
    have hn : ¬ q <+: p := fun z => by rw [List.isPrefixOf_iff_prefix.mpr z] at h; cases h
    have : ¬ p.take q.length = q := fun z => hn ⟨p.drop q.length, (congrArg (· ++ p.drop q.length) z).symm.trans (List.take_append_drop _ _)⟩
    rw [beq_eq_false_iff_ne.mpr this, Bool.and_false]
def rStartsT : V → List V → Hp → VK → Prop := fun x xs H Q => ∃ a b, x = .str a ∧ xs = [.str b] ∧ Q (.bl (Txt.startswith a b)) H
theorem pe_startsT {X : Cx} {o e : Expr} {to te : TE} {apos pos : Pos} (ho : PE X o to) (he : PE X e te) (hs : starEach [e] X.env = [(false, eval e X.env)] := by rfl) (hbase : attributeBase o "startswith" X.env (eval o X.env) = eval o X.env := by rfl) (hline : (apos.endLine == pos.line) = true := by rfl) :
    PE X (.Call (.Attribute o "startswith" apos) [e] [] pos) (tM1 rStartsT to te) := pe_m1 PySem.F.slot_str_startswith PySem.F.type_str_startswith mt_startswith ho he hs hbase hline
theorem e_starts (ha : Ev ta σ H (vs p)) (hb : Ev te σ H (vs q)) : Ev (tM1 rStartsT ta te) σ H (.bl (q.isPrefixOf p)) := fun H1 e Q k =>
  ha H1 e _ fun H2 e2 => ⟨⟨mk p, rfl⟩, hb H2 (e.trans e2) _ fun H3 e3 => ⟨mk p, mk q, rfl, rfl, by rw [starts_of]; exact k H3 (e2.trans e3)⟩⟩
/-! ## lists -/
theorem e_ixL {α : Type} {f : α → V} {l : List α} (d : α) {pl : Addr} (h : Ev ta σ H (.ref pl)) (hS : SqL K H pl (l.map f)) (hb : Ev tb σ H (.int i)) (hi : 0 ≤ i ∧ i < l.length) : Ev (tOp (rIxL K) ta tb) σ H (f (l.getD i.toNat d)) := ev_op h hb (rv_ixL hS (atI_get f l d hi.1 hi.2))
theorem e_ixN {α : Type} {f : α → V} {l : List α} (d : α) (h : EvL ta σ H (l.map f)) (hb : Ev tb σ H (.int i)) (hi : 0 ≤ i ∧ i < l.length) : Ev (tOp (rIxL K) ta tb) σ H (f (l.getD i.toNat d)) :=
  ev_opL1 h (fun _ e => hb.mono e) fun _ _ hp _ => rv_ixL (sq_of hp) (atI_get f l d hi.1 hi.2)
theorem e_lenL {α : Type} {f : α → V} {l : List α} {pl : Addr} (h : Ev ta σ H (.ref pl)) (hS : SqL K H pl (l.map f)) : Ev (tCB (rLenS K) (tCons ta tNil)) σ H (.int (l.length : Int)) := by
  have g := ev_len h hS
  rw [List.length_map] at g
  exact g
theorem e_lenN {α : Type} {f : α → V} {l : List α} (h : EvL ta σ H (l.map f)) : Ev (tCB (rLenS K) (tCons ta tNil)) σ H (.int (l.length : Int)) := by
  have g := ev_lenN (K := K) h
  rw [List.length_map] at g
  exact g
theorem call_lenQ {X : Cx} : CallR X (.builtin "len") (rLenS X.K) := call_len_seq
theorem l_slR {α : Type} {f : α → V} {l : List α} {tl' th : TO} {lo hi : Option Int} {pl : Addr} (h : Ev te σ H (.ref pl)) (hS : SqL K H pl (l.map f)) (h1 : EvO tl' σ H lo) (h2 : EvO th σ H hi) : EvL (tSl (rSlL K) te tl' th) σ H ((cutG l lo hi).map f) :=
  cutV_map f l lo hi ▸ el_sl h h1 h2 hS
theorem e_all {l : List Bool} (h : EvL ta σ H (l.map V.bl)) : Ev (tCB (rAll K) (tCons ta tNil)) σ H (.bl (l.all id)) := fun H1 e Q k =>
  h H1 e _ fun pl H2 _ e2 hp => ⟨pl, l, rfl, sq_of hp, k H2 e2⟩
theorem inV_vs (p : Tx) (l : List Tx) : inV (vs p) (l.map vs) = decide (p ∈ l) := by
  unfold inV
  rw [List.any_map]
  induction l with
  | nil => rfl
  | cons y r ih =>
    rw [List.any_cons, ih]
    show ((mk y == mk p) || _) = _
    by_cases h : y = p
    · subst h
      simp
    · have : (mk y == mk p) = false := beq_eq_false_iff_ne.mpr fun e => h (mk_inj e)
      rw [this]
      have h2 : ¬ p = y := fun e => h e.symm
      simp [h2]
theorem flat_vs (l : List Tx) : (l.map vs).all flatV = true := by
  rw [List.all_map]
  exact List.all_eq_true.mpr fun _ _ => rfl
theorem e_inN {l : List Tx} (ha : Ev ta σ H (vs p)) (hb : EvL tb σ H (l.map vs)) : Ev (tOp (rIn K false) ta tb) σ H (.bl (decide (p ∈ l))) := inV_vs p l ▸ ev_opL ha hb fun _ _ h _ => rv_isL (sq_of h) rfl (flat_vs l)
theorem e_inU {l : List Tx} (ha : Ev ta σ H (vs p)) (hb : EvU tb σ H (l.map vs)) : Ev (tOp (rIn K false) ta tb) σ H (.bl (decide (p ∈ l))) := inV_vs p l ▸ ev_inU ha hb rfl (flat_vs l)
theorem e_inR {l : List Tx} {pl : Addr} (ha : Ev ta σ H (vs p)) (hb : Ev tb σ H (.ref pl)) (hS : SqL K H pl (l.map vs)) : Ev (tOp (rIn K false) ta tb) σ H (.bl (decide (p ∈ l))) := inV_vs p l ▸ ev_op ha hb (rv_isL hS rfl (flat_vs l))

/-! ## comprehensions without ifs -/
theorem given_all (n : Nat) (g : Nat → V) : given n (fun _ => true) g = (List.range n).map g := by
  unfold given
  rw [List.filter_eq_self.mpr fun _ _ => rfl]
theorem l_mapR {α : Type} {f : α → V} {ta' : TA} {jx : Nat} {ws : List Nat} {n : Int} (g : Nat → α) (h : EvA ta' σ H [.int n]) (hn : 0 ≤ n ∧ n ≤ 40000) (he : ∀ k : Nat, (k : Int) < n → Ev te ((wipe σ ws).set jx (some (.int (k : Int)))) H (f (g k)))
    (hw : ∀ w, wipe ((wipe σ ws).set jx (some w)) ws = wipe σ ws := by exact fun _ => rfl) : EvL (tLc (iRng1 ta') (gName jx) tYes te ws) σ H (((List.range n.toNat).map g).map f) := by
  have q := el_lcR1 (t := tYes) (te := te) (fun _ => true) (fun k => f (g k)) h hn hw (fun _ _ _ _ => fun H1 _ Q k => k H1 (Ex.refl H1)) (fun k H1 e hk _ => (he k hk).mono e)
  rw [given_all] at q
  rw [List.map_map]
  exact q
theorem given_list {α β : Type} (f : β → V) (g : α → β) (l : List α) (d : α) : given l.length (fun _ => true) (fun k => f (g (l.getD k d))) = (l.map g).map f := by
  rw [given_all]
  apply List.ext_getElem
  · simp
  · intro k h1 h2
    simp only [List.getElem_map, List.getElem_range]
    rw [List.getD_eq_getElem?_getD, List.getElem?_eq_getElem (by simpa using h1)]
    rfl
theorem map_at {α : Type} {f : α → V} {l : List α} {k : Nat} {w : V} (d : α) (h : (l.map f)[k]? = some w) : l.getD k d ∈ l ∧ w = f (l.getD k d) := by
  rw [List.getElem?_map] at h
  cases e : l[k]? with
  | none => rw [e] at h; cases h
  | some y =>
    rw [e] at h
    have e2 : l.getD k d = y := by rw [List.getD_eq_getElem?_getD, e]; rfl
    rw [e2]
    exact ⟨List.mem_of_getElem? e, (Option.some.inj h).symm⟩
/-- over a list that stands -/
theorem l_mapL {α β : Type} {f : α → V} {f2 : β → V} {l : List α} {pl : Addr} {tl' : TE} {jx : Nat} {ws : List Nat} (d : α) (g : α → β) (h : Ev tl' σ H (.ref pl)) (hS : SqL K H pl (l.map f)) (hz : l.length ≤ 40000)
    (he : ∀ y ∈ l, Ev te ((wipe σ ws).set jx (some (f y))) H (f2 (g y))) (hw : ∀ w, wipe ((wipe σ ws).set jx (some w)) ws = wipe σ ws := by exact fun _ => rfl) : EvL (tLc (iList K tl') (gName jx) tYes te ws) σ H ((l.map g).map f2) := by
  have q := el_lcL (t := tYes) (te := te) (fun _ => true) (fun k => f2 (g (l.getD k d))) h hS (by rw [List.length_map]; exact hz) hw (fun _ _ _ _ _ => fun H1 _ Q k => k H1 (Ex.refl H1)) (fun k w H1 e hk _ => by
    obtain ⟨hm, ew⟩ := map_at d hk
    rw [ew]
    exact (he _ hm).mono e)
  rw [List.length_map, given_list] at q
  exact q
/-- over the signs of a text -/
theorem l_mapS {β : Type} {f2 : β → V} {tl' : TE} {jx : Nat} {ws : List Nat} (g : Nat → β) (h : Ev tl' σ H (vs p)) (hz : p.length ≤ 40000)
    (he : ∀ c ∈ p, Ev te ((wipe σ ws).set jx (some (vs [c]))) H (f2 (g c))) (hw : ∀ w, wipe ((wipe σ ws).set jx (some w)) ws = wipe σ ws := by exact fun _ => rfl) : EvL (tLc (iStr tl') (gName jx) tYes te ws) σ H ((p.map g).map f2) := fun H0 e0 Q q => h H0 e0 _ fun H1 e1 => ⟨mk p, rfl, fun D hD => by
  refine ⟨fun k m H2 => m = p.length - k ∧ k ≤ p.length ∧ Cw H1 (fun _ => true) (fun k => f2 (g (p.getD k 0))) D k H2, ⟨p.length, by simp, Nat.zero_le _, hD, Ex.new hD, upd_same⟩, fun k m H2 hW => ?_⟩
  obtain ⟨rfl, hk, hC⟩ := hW
  have hsz : (mk p).cps.size = p.length := by show p.toArray.size = _; simp
  by_cases hlt : k < p.length
  · refine Or.inr ⟨by show k < (mk p).cps.size; omega, fun H3 => Cw H1 (fun _ => true) (fun k => f2 (g (p.getD k 0))) D (k + 1) H3, fun H3 h3 => ⟨p.length - (k + 1), by omega, rfl, hlt, h3⟩, fun w H3 hy => ?_⟩
    obtain ⟨rfl, c, hc, rfl⟩ := hy
    have hc2 : p[k]? = some c := by
      have : (mk p).cps[k]? = p[k]? := by show p.toArray[k]? = _; simp
      rw [← this]; exact hc
    have hm : c ∈ p := List.mem_of_getElem? hc2
    have hd : p.getD k 0 = c := by rw [List.getD_eq_getElem?_getD, hc2]; rfl
    exact ⟨hw _, cw_turn hC (by omega) (fun H4 _ Q k => k H4 (Ex.refl H4)) (fun _ => by
      show Ev te _ H1 (f2 (g (p.getD k 0)))
      rw [hd]
      exact (he c hm).mono (e0.trans e1))⟩
  · have ek : k = p.length := by omega
    refine Or.inl ⟨by show (mk p).cps.size ≤ k; omega, ?_⟩
    subst ek
    have h3 := hC.2.2
    rw [given_list] at h3
    exact q D H2 (fresh_back e1 hC.1) (e1.trans hC.2.1) h3⟩

/-! ## displays -/
theorem a_one (h : Ev te σ H x) : EvA (tCons te tNil) σ H [x] := ea_cons h ea_nil
theorem a_two (h : Ev ta σ H x) (h2 : Ev tb σ H y) : EvA (tCons ta (tCons tb tNil)) σ H [x, y] := ea_cons h (a_one h2)
theorem tyx_lst {pl : Addr} {xs : List V} (h : SqL K H pl xs) : TyX K H (.ref pl) (.type "list") := by
  rcases h with (h | ⟨o, h⟩) | ⟨o, _, _, h, hc, _⟩
  · exact .base (.lst h)
  · exact .base (.frz h)
  · exact .kList h hc
/-! ## isinstance of plain values -/
theorem e_isi {w : V} {tw uw : Value} {c : V} {ok : Bool} (h : Ev ta σ H w) (hc : Ev tb σ H c) (k : ClsV c uw) (ty : ∀ H1, Ex H H1 → TyX K H1 w tw) (hk : PySem.W.kitOne K tw uw = some ok) : Ev (tCB (rIsi K) (tCons ta (tCons tb tNil))) σ H (.bl ok) :=
  ev_cb (a_two h hc) fun H1 e Q q => ⟨w, c, tw, uw, ok, rfl, k, ty H1 e, hk, q H1 (Ex.refl H1)⟩
end

/-! ## promises: a value, or a new list -/
/-- a pure def: called with such arguments it gives such a value, whatever else stands -/
def spP (R : List V → Hp → V → Prop) : Sp := fun vs' H Q _ => ∃ v, R vs' H v ∧ RetV v H Q
def spN (R : List V → Hp → List V → Prop) : Sp := fun vs' H Q _ => ∃ xs, R vs' H xs ∧ RetL xs H Q
theorem sv_of {R : List V → Hp → V → Prop} {ws : List V} {H : Hp} {v : V} (h : ∀ H1, Ex H H1 → R ws H1 v) : SpV (spP R) ws H v := fun H1 e Q q _ => ⟨v, h H1 e, q⟩
theorem sl_of {R : List V → Hp → List V → Prop} {ws : List V} {H : Hp} {xs : List V} (h : ∀ H1, Ex H H1 → R ws H1 xs) : SpL (spN R) ws H xs := fun H1 e Q q _ => ⟨xs, h H1 e, q⟩

/-! ## a def as its callers see it -/
structure Cal (P : Program) (w : World) (K : PySem.W.Frag) (mg : Str → Option Value) (base : Heap) (k : Nat) (x : Str) (ps : List Str) (sp : Sp) : Prop where
  ex : ∃ f fd, FnOk P w K mg base CX0 k f fd ps sp ∧ mg x = some (.ref f) ∧ PySem.W.keepIn K (.ref f) = true ∧ Binds K fd ps []
theorem pe_cal {X : Cx} {k : Nat} {x : Str} {ps : List Str} {sp : Sp} {e : Expr} {es : List Expr} {t : TA} {p pos : Pos} (C : Cal X.prog X.w X.K X.mg X.base k x ps sp) (hr : Room k X.A) (hg : Gl X x) (ha : PA X (e :: es) t)
    (hdb : (x == ("__debug__" : Str)) = false := by decide) (he : starEach (e :: es) X.env = (false, eval e X.env) :: starEach es X.env := by rfl) (hpl : (backTo pos (starEach es X.env)).any (·.1) = false := by rfl) :
    PE X (.Call (.Name x p) (e :: es) [] pos) (tCall sp [] E0 t) := by
  obtain ⟨f, fd, F, g, kp, b⟩ := C.ex
  exact pe_call (CX := CX0) (E := E0) F hr hg g kp b .nil pass0 ha hdb he hpl
/-- a def of the text, proved -/
theorem cal_of {P : Program} {w : World} {K : PySem.W.Frag} {mg : Str → Option Value} {base : Heap} {k : Nat} {x : Str} {ps : List Str} {sp : Sp} {f : Addr} {fd : FuncData} (F : FnOk P w K mg base CX0 k f fd ps sp) (g : mg x = some (.ref f)) (kp : PySem.W.keepIn K (.ref f) = true) (b : Binds K fd ps []) :
    Cal P w K mg base k x ps sp := ⟨f, fd, F, g, kp, b⟩
end Vf
namespace Vf
open PySem PySem.Spec PyProof.Rows L2 TL Evl

/-! ## loops as folds that may be left -/
inductive Stp (S R : Type) where
  | go (s : S) | brk (s : S) | ret (r : R)
def runL {α S R : Type} (f : S → α → Stp S R) : List α → S → Stp S R
  | [], s => .go s
  | x :: xs, s => match f s x with
    | .go s2 => runL f xs s2
    | .brk s2 => .brk s2
    | .ret r => .ret r
def aftL {S R : Type} (o : Stp S R) (g : S → R) : R := match o with
  | .go s => g s
  | .brk s => g s
  | .ret r => r
theorem runL_app {α S R : Type} (f : S → α → Stp S R) : ∀ (l m : List α) (s : S), runL f (l ++ m) s = match runL f l s with
    | .go s2 => runL f m s2
    | .brk s2 => .brk s2
    | .ret r => .ret r
  | [], m, s => rfl
  | x :: xs, m, s => by
    rw [List.cons_append]
    simp only [runL]
    cases h : f s x with
    | go s2 => exact runL_app f xs m s2
    | brk s2 => rfl
    | ret r => rfl
theorem runL_go {α S R : Type} {f : S → α → Stp S R} {y : α} {r : List α} {s s2 : S} (h : f s y = .go s2) : runL f (y :: r) s = runL f r s2 := by
  simp only [runL]
  rw [h]
theorem runL_ret {α S R : Type} {f : S → α → Stp S R} {y : α} {r : List α} {s : S} {q : R} (h : f s y = .ret q) : runL f (y :: r) s = .ret q := by
  simp only [runL]
  rw [h]
theorem runL_all {α S R : Type} (f : S → α → Stp S R) (g : S → α → S) (hf : ∀ s y, f s y = .go (g s y)) : ∀ (l : List α) (s : S), runL f l s = .go (l.foldl g s)
  | [], s => rfl
  | y :: r, s => by
    rw [runL_go (hf s y), runL_all f g hf r, List.foldl_cons]
theorem runL_next {α S R : Type} {f : S → α → Stp S R} {l : List α} {i : Nat} {y : α} {s0 s : S} (h : runL f (l.take i) s0 = .go s) (hy : l[i]? = some y) : runL f (l.take (i + 1)) s0 = f s y := by
  rw [List.take_add_one, hy, runL_app, h]
  show (match f s y with | .go s2 => runL f [] s2 | .brk s2 => .brk s2 | .ret r => .ret r) = _
  cases f s y <;> rfl
theorem runL_out {α S R : Type} {f : S → α → Stp S R} {l : List α} {i : Nat} {s0 : S} {o : Stp S R} (h : runL f (l.take i) s0 = o) (ho : ∀ s, o ≠ .go s) : runL f l s0 = o := by
  have e : l = l.take i ++ l.drop i := (List.take_append_drop i l).symm
  rw [e, runL_app, h]
  cases o with
  | go s => exact absurd rfl (ho s)
  | brk s => rfl
  | ret r => rfl

section
variable {K : PySem.W.Frag} {σ : L2.St} {H H' : Hp} {ta tb te tl' : TE} {D : Ends} {tu tw tz : TS} {α S R : Type}
/-- what a loop's body has to show -/
def BodyOk (tu : TS) (D : Ends) (j : Nat) (f : α → V) (step : S → α → Stp S R) (l : List α) (s0 : S) (Rep : S → L2.St → Hp → Prop) : Prop :=
  ∀ (Nx Bk : L2.St → Hp → Prop) (i : Nat) (s : S) (y : α) (σ1 : L2.St) (H1 : Hp), l[i]? = some y → runL step (l.take i) s0 = .go s → Rep s σ1 H1 → (∀ s2 σ2 H2, step s y = .go s2 → Rep s2 σ2 H2 → Nx σ2 H2) → (∀ s2 σ2 H2, step s y = .brk s2 → Rep s2 σ2 H2 → Bk σ2 H2) →
    (∀ r, step s y = .ret r → runL step l s0 = .ret r) → tu { D with nx := Nx, ct := Nx, bk := Bk } (σ1.set j (some (f y))) H1
def OutOk (tz : TS) (D : Ends) (step : S → α → Stp S R) (l : List α) (s0 : S) (Rep : S → L2.St → Hp → Prop) : Prop :=
  ∀ s σ1 H1, (runL step l s0 = .go s ∨ runL step l s0 = .brk s) → Rep s σ1 H1 → tz D σ1 H1
theorem loop_core {f : α → V} {l : List α} {step : S → α → Stp S R} {s0 : S} {Rep : S → L2.St → Hp → Prop} {j : Nat} (hb : BodyOk tu D j f step l s0 Rep) (ho : OutOk tz D step l s0 Rep) {i : Nat} {y : α} {σ1 : L2.St} {H1 : Hp} (hy : l[i]? = some y)
    (p : ∃ s, runL step (l.take i) s0 = .go s ∧ Rep s σ1 H1) : tu { D with nx := fun σ2 H2 => ∃ s, runL step (l.take (i + 1)) s0 = .go s ∧ Rep s σ2 H2, ct := fun σ2 H2 => ∃ s, runL step (l.take (i + 1)) s0 = .go s ∧ Rep s σ2 H2, bk := tz D } (σ1.set j (some (f y))) H1 := by
  obtain ⟨s, hr, hp⟩ := p
  have hn := runL_next hr hy
  exact hb _ _ i s y σ1 H1 hy hr hp (fun s2 σ2 H2 e q => ⟨s2, hn.trans e, q⟩) (fun s2 σ2 H2 e q => ho s2 σ2 H2 (Or.inr (runL_out (hn.trans e) (fun _ z => by cases z))) q) (fun r e => runL_out (hn.trans e) (fun _ z => by cases z))
theorem loop_end {l : List α} {step : S → α → Stp S R} {s0 : S} {Rep : S → L2.St → Hp → Prop} (ho : OutOk tz D step l s0 Rep) {n : Nat} (hn : n = l.length) {σ1 : L2.St} {H1 : Hp} (p : ∃ s, runL step (l.take n) s0 = .go s ∧ Rep s σ1 H1) : tz D σ1 H1 := by
  obtain ⟨s, hr, hp⟩ := p
  rw [hn, List.take_length] at hr
  exact ho s σ1 H1 (Or.inl hr) hp
/-- for x in a list that stands -/
theorem q_loopL {f : α → V} {l : List α} (step : S → α → Stp S R) (s0 : S) (Rep : S → L2.St → Hp → Prop) {j : Nat} {pl : Addr} (h : Ev tl' σ H (.ref pl)) (hS : SqL K H pl (l.map f)) (h0 : ∀ H1, Ex H H1 → Rep s0 σ H1) (hl : ∀ s σ1 H1, Rep s σ1 H1 → SqL K H1 pl (l.map f))
    (hb : BodyOk tu D j f step l s0 Rep) (ho : OutOk tz D step l s0 Rep) : tSeq (tFor (iList K tl') (gName j) tu) tz D σ H :=
  q_forLn h hS (fun i σ1 H1 => ∃ s, runL step (l.take i) s0 = .go s ∧ Rep s σ1 H1) (fun H1 e => ⟨s0, rfl, h0 H1 e⟩) (fun i σ1 H1 _ ⟨s, _, p⟩ => hl s σ1 H1 p) (fun i x σ1 H1 hx p => by
    rw [List.getElem?_map] at hx
    cases hy : l[i]? with
    | none => rw [hy] at hx; cases hx
    | some y =>
      rw [hy] at hx
      have ex : f y = x := Option.some.inj hx
      subst ex
      exact loop_core hb ho hy p) (fun σ1 H1 p => loop_end ho (List.length_map _ ) p)
/-- for x in a new list -/
theorem q_loopN {f : α → V} {l : List α} (step : S → α → Stp S R) (s0 : S) (Rep : Addr → S → L2.St → Hp → Prop) {j : Nat} (h : EvL tl' σ H (l.map f)) (h0 : ∀ p H1, H p = none → Ex H H1 → H1 p = some (.lst (l.map f)) → Rep p s0 σ H1) (hl : ∀ p s σ1 H1, Rep p s σ1 H1 → SqL K H1 p (l.map f))
    (hb : ∀ p, H p = none → BodyOk tu D j f step l s0 (Rep p)) (ho : ∀ p, H p = none → OutOk tz D step l s0 (Rep p)) : tSeq (tFor (iList K tl') (gName j) tu) tz D σ H :=
  q_forNLn h (fun p i σ1 H1 => ∃ s, runL step (l.take i) s0 = .go s ∧ H p = none ∧ Rep p s σ1 H1) (fun p H1 np e hp => ⟨s0, rfl, np, h0 p H1 np e hp⟩) (fun p i σ1 H1 _ ⟨s, _, _, q⟩ => hl p s σ1 H1 q) (fun p i x σ1 H1 hx q => by
    rw [List.getElem?_map] at hx
    cases hy : l[i]? with
    | none => rw [hy] at hx; cases hx
    | some y =>
      rw [hy] at hx
      have ex : f y = x := Option.some.inj hx
      subst ex
      obtain ⟨s, hr, np, hp⟩ := q
      have hn := runL_next hr hy
      exact hb p np _ _ i s y σ1 H1 hy hr hp (fun s2 σ2 H2 e q => ⟨s2, hn.trans e, np, q⟩) (fun s2 σ2 H2 e q => ho p np s2 σ2 H2 (Or.inr (runL_out (hn.trans e) (fun _ z => by cases z))) q) (fun r e => runL_out (hn.trans e) (fun _ z => by cases z))) (fun p σ1 H1 ⟨s, hr, np, q⟩ => loop_end (ho p np) (List.length_map _) ⟨s, hr, q⟩)
/-- for k in range(n) -/
theorem q_loopR {ta' : TA} {n : Int} (step : S → Nat → Stp S R) (s0 : S) (Rep : S → L2.St → Hp → Prop) {j : Nat} (h : EvA ta' σ H [.int n]) (hn : 0 ≤ n ∧ n ≤ 100000) (h0 : ∀ H1, Ex H H1 → Rep s0 σ H1)
    (hb : BodyOk tu D j (fun k : Nat => V.int (k : Int)) step (List.range n.toNat) s0 Rep) (ho : OutOk tz D step (List.range n.toNat) s0 Rep) : tSeq (tFor (iRng1 ta') (gName j) tu) tz D σ H :=
  q_forR1 h hn (fun i σ1 H1 => ∃ s, runL step ((List.range n.toNat).take i) s0 = .go s ∧ Rep s σ1 H1) (fun H1 e => ⟨s0, rfl, h0 H1 e⟩) (fun i σ1 H1 hi p => by
    have hy : (List.range n.toNat)[i]? = some i := by rw [List.getElem?_range (by omega)]
    exact loop_core (f := fun k : Nat => V.int (k : Int)) hb ho hy p) (fun σ1 H1 p => loop_end ho (by rw [List.length_range]) p)
/-- for k in range(a, b) -/
theorem q_loopR2 {ta' : TA} {lo n : Int} (step : S → Nat → Stp S R) (s0 : S) (Rep : S → L2.St → Hp → Prop) {j : Nat} (h : EvA ta' σ H [.int lo, .int n]) (hn : 0 ≤ lo ∧ lo ≤ 100000 ∧ -100000 ≤ n ∧ n ≤ 100000) (h0 : ∀ H1, Ex H H1 → Rep s0 σ H1)
    (hb : BodyOk tu D j (fun k : Nat => V.int (lo + (k : Int))) step (List.range (n - lo).toNat) s0 Rep) (ho : OutOk tz D step (List.range (n - lo).toNat) s0 Rep) : tSeq (tFor (iRng2 ta') (gName j) tu) tz D σ H :=
  q_forR2 h hn (fun i σ1 H1 => ∃ s, runL step ((List.range (n - lo).toNat).take i) s0 = .go s ∧ Rep s σ1 H1) (fun H1 e => ⟨s0, rfl, h0 H1 e⟩) (fun i σ1 H1 hi p => by
    have hy : (List.range (n - lo).toNat)[i]? = some i := by rw [List.getElem?_range (by omega)]
    exact loop_core (f := fun k : Nat => V.int (lo + (k : Int))) hb ho hy p) (fun σ1 H1 p => loop_end ho (by rw [List.length_range]) p)
/-- for c in a text -/
theorem q_loopS {p : Tx} (step : S → Nat → Stp S R) (s0 : S) (Rep : S → L2.St → Hp → Prop) {j : Nat} (h : Ev tl' σ H (vs p)) (h0 : ∀ H1, Ex H H1 → Rep s0 σ H1)
    (hb : BodyOk tu D j (fun c : Nat => vs [c]) step p s0 Rep) (ho : OutOk tz D step p s0 Rep) : tSeq (tFor (iStr tl') (gName j) tu) tz D σ H := h H (Ex.refl H) _ fun H1 e => ⟨mk p, rfl, by
  refine ⟨fun i m σ1 H2 => m = p.length - i ∧ i ≤ p.length ∧ ∃ s, runL step (p.take i) s0 = .go s ∧ Rep s σ1 H2, ⟨p.length, by simp, Nat.zero_le _, s0, rfl, h0 H1 e⟩, fun i m σ1 H2 hW => ?_⟩
  obtain ⟨rfl, hi, q⟩ := hW
  have hsz : (mk p).cps.size = p.length := by show p.toArray.size = _; simp
  by_cases hlt : i < p.length
  · refine Or.inr ⟨by show i < (mk p).cps.size; omega, fun σ2 H3 => ∃ s, runL step (p.take (i + 1)) s0 = .go s ∧ Rep s σ2 H3, fun σ2 H3 h3 => ⟨p.length - (i + 1), by omega, rfl, hlt, h3⟩, fun w H3 hy => ?_⟩
    obtain ⟨rfl, c, hc, rfl⟩ := hy
    have hc2 : p[i]? = some c := by
      have : (mk p).cps[i]? = p[i]? := by show p.toArray[i]? = _; simp
      rw [← this]; exact hc
    exact loop_core (f := fun c : Nat => vs [c]) hb ho hc2 q
  · have ei : i = p.length := by omega
    exact Or.inl ⟨by show (mk p).cps.size ≤ i; omega, loop_end ho ei q⟩⟩
/-! ## what is wanted, along the ways -/
theorem ret_T {β : Type} {f : β → V} {b : Bool} {x y : β} {Q : VK} (k : RetV (f (if b = true then x else y)) H Q) (hb : b = true) : RetV (f x) H Q := by
  rw [if_pos hb] at k
  exact k
theorem ret_F {β : Type} {f : β → V} {b : Bool} {x y : β} {Q : VK} (k : RetV (f (if b = true then x else y)) H Q) (hb : b = false) : RetV (f y) H Q := by
  rw [hb, if_neg Bool.false_ne_true] at k
  exact k
theorem retL_T {β : Type} {f : β → V} {b : Bool} {x y : List β} {Q : VK} (k : RetL ((if b = true then x else y).map f) H Q) (hb : b = true) : RetL (x.map f) H Q := by
  rw [if_pos hb] at k
  exact k
theorem retL_F {β : Type} {f : β → V} {b : Bool} {x y : List β} {Q : VK} (k : RetL ((if b = true then x else y).map f) H Q) (hb : b = false) : RetL (y.map f) H Q := by
  rw [hb, if_neg Bool.false_ne_true] at k
  exact k
theorem ret_run {β : Type} {f : β → V} {o : Stp S β} {g : S → β} {r : β} {Q : VK} (k : RetV (f (aftL o g)) H Q) (h : o = .ret r) : RetV (f r) H Q := by
  rw [h] at k
  exact k
theorem ret_go {β : Type} {f : β → V} {o : Stp S β} {g : S → β} {s : S} {Q : VK} (k : RetV (f (aftL o g)) H Q) (h : o = .go s ∨ o = .brk s) : RetV (f (g s)) H Q := by
  rcases h with h | h
  · rw [h] at k
    exact k
  · rw [h] at k
    exact k
theorem retL_run {β : Type} {f : β → V} {o : Stp S (List β)} {g : S → List β} {r : List β} {Q : VK} (k : RetL ((aftL o g).map f) H Q) (h : o = .ret r) : RetL (r.map f) H Q := by
  rw [h] at k
  exact k
theorem retL_go {β : Type} {f : β → V} {o : Stp S (List β)} {g : S → List β} {s : S} {Q : VK} (k : RetL ((aftL o g).map f) H Q) (h : o = .go s ∨ o = .brk s) : RetL ((g s).map f) H Q := by
  rcases h with h | h
  · rw [h] at k
    exact k
  · rw [h] at k
    exact k
/-! ## own lists that change -/
theorem q_appM {H0 : Hp} {pl : Addr} {f : α → V} {l : List α} {v : α} (e0 : Ex H0 H) (n0 : H0 pl = none) (hl : H pl = some (.lst (l.map f))) (ha : Ev ta σ H (.ref pl)) (h : Ev te σ H (f v)) (hz : l.length < 100000)
    (k : ∀ H1, Ex H0 H1 → H1 pl = some (.lst ((l ++ [v]).map f)) → (∀ q o, q ≠ pl → H q = some o → H1 q = some o) → tz D σ H1) : tSeq (tDrop (tBM K "list" rAppend ta (tCons te tNil))) tz D σ H :=
  q_app hl ha h (by rw [List.length_map]; exact hz) fun H1 e1 => k _ (Ex.mut (e0.trans e1) n0) (by rw [upd_same, List.map_append]; rfl) fun q o hq hh => by
    rw [upd_ne hq]
    exact e1 q o hh
theorem s_appM {H0 : Hp} {pl : Addr} {f : α → V} {l : List α} {v : α} (e0 : Ex H0 H) (n0 : H0 pl = none) (hl : H pl = some (.lst (l.map f))) (ha : Ev ta σ H (.ref pl)) (h : Ev te σ H (f v)) (hz : l.length < 100000)
    (k : ∀ H1, Ex H0 H1 → H1 pl = some (.lst ((l ++ [v]).map f)) → (∀ q o, q ≠ pl → H q = some o → H1 q = some o) → D.nx σ H1) : tDrop (tBM K "list" rAppend ta (tCons te tNil)) D σ H :=
  s_app hl ha h (by rw [List.length_map]; exact hz) fun H1 e1 => k _ (Ex.mut (e0.trans e1) n0) (by rw [upd_same, List.map_append]; rfl) fun q o hq hh => by
    rw [upd_ne hq]
    exact e1 q o hh
theorem ixN_at {n : Nat} {i : Int} {j : Nat} (h : (0 ≤ i ∧ i = j ∨ i < 0 ∧ i + n = j) ∧ j < n) : ixN n i = some j := by
  unfold ixN
  by_cases h0 : 0 ≤ i
  · rw [if_pos h0, if_pos (by omega)]
    congr 1
    omega
  · rw [if_neg h0, if_pos (by omega)]
    congr 1
    omega
theorem s_setM {H0 : Hp} {pl : Addr} {f : α → V} {l : List α} {v : α} {i : Int} (j : Nat) {tb' : TE} (e0 : Ex H0 H) (n0 : H0 pl = none) (hl : H pl = some (.lst (l.map f))) (h : Ev te σ H (f v)) (ha : Ev ta σ H (.ref pl)) (hi : Ev tb' σ H (.int i)) (hj : (0 ≤ i ∧ i = j ∨ i < 0 ∧ i + l.length = j) ∧ j < l.length)
    (k : ∀ H1, Ex H0 H1 → H1 pl = some (.lst ((l.set j v).map f)) → (∀ q o, q ≠ pl → H q = some o → H1 q = some o) → D.nx σ H1) : tAsg te (gSub ta tb' rSetL) D σ H := h H (Ex.refl H) _ fun H1 e1 => ha H1 e1 _ fun H2 e2 => hi H2 (e1.trans e2) _ fun H3 e3 =>
  ⟨pl, l.map f, i, j, rfl, rfl, ((e1.trans e2).trans e3) pl _ hl, ixN_at (by rw [List.length_map]; exact hj), k _ (Ex.mut (e0.trans ((e1.trans e2).trans e3)) n0) (by rw [upd_same, List.map_set]) fun q o hq hh => by
    rw [upd_ne hq]
    exact ((e1.trans e2).trans e3) q o hh⟩
theorem q_setM {H0 : Hp} {pl : Addr} {f : α → V} {l : List α} {v : α} {i : Int} (j : Nat) {tb' : TE} (e0 : Ex H0 H) (n0 : H0 pl = none) (hl : H pl = some (.lst (l.map f))) (h : Ev te σ H (f v)) (ha : Ev ta σ H (.ref pl)) (hi : Ev tb' σ H (.int i)) (hj : (0 ≤ i ∧ i = j ∨ i < 0 ∧ i + l.length = j) ∧ j < l.length)
    (k : ∀ H1, Ex H0 H1 → H1 pl = some (.lst ((l.set j v).map f)) → (∀ q o, q ≠ pl → H q = some o → H1 q = some o) → tz D σ H1) : tSeq (tAsg te (gSub ta tb' rSetL)) tz D σ H := s_setM (D := { D with nx := tz D }) j e0 n0 hl h ha hi hj k
/-! ## more -/
theorem el_is {xs ys : List V} (h : EvL te σ H xs) (e : xs = ys) : EvL te σ H ys := e ▸ h
def aftS {S S2 R : Type} (o : Stp S R) (g : S → Stp S2 R) : Stp S2 R := match o with
  | .go s => g s
  | .brk s => g s
  | .ret r => .ret r
theorem aftS_go {S2 : Type} {o : Stp S R} {g : S → Stp S2 R} {s : S} {q : Stp S2 R} (kq : q = aftS o g) (h : o = .go s ∨ o = .brk s) : q = g s := by
  rcases h with h | h
  · rw [h] at kq
    exact kq
  · rw [h] at kq
    exact kq
theorem aftS_ret {S2 : Type} {o : Stp S R} {g : S → Stp S2 R} {r : R} {q : Stp S2 R} (kq : q = aftS o g) (h : o = .ret r) : q = .ret r := by
  rw [h] at kq
  exact kq
theorem kq_T {β : Type} {b : Bool} {x y q : β} (kq : q = if b = true then x else y) (hb : b = true) : q = x := by
  rw [if_pos hb] at kq
  exact kq
theorem kq_F {β : Type} {b : Bool} {x y q : β} (kq : q = if b = true then x else y) (hb : b = false) : q = y := by
  rw [hb, if_neg Bool.false_ne_true] at kq
  exact kq
/-- if c: x = e -/
theorem set_same {β : Type} : ∀ {l : List (Option β)} {i : Nat} {y : β}, l[i]? = some (some y) → l.set i (some y) = l
  | [], _, _, h => by simp at h
  | a :: r, 0, y, h => by
    have e : a = some y := Option.some.inj h
    rw [e]
    rfl
  | a :: r, i + 1, y, h => by
    show a :: r.set i (some y) = a :: r
    rw [set_same (l := r) (i := i) h]
theorem q_ifSet {i : Nat} {b : Bool} {t : TT} {f : α → V} {x y z : α} (h : EvT t σ H b) (h1 : b = true → Ev te σ H (f x)) (h2 : σ[i]? = some (some (f y))) (hz : (if b = true then x else y) = z) (k : ∀ H1, Ex H H1 → tz D (σ.set i (some (f z))) H1) : tSeq (tIfS t (tAsg te (gName i)) tNext) tz D σ H := by
  subst hz
  exact q_ifAsg h (fun hb => by rw [if_pos hb]; exact h1 hb) (fun hb => by
    rw [hb, if_neg Bool.false_ne_true]
    exact set_same h2) k
theorem s_ifSet {i : Nat} {b : Bool} {t : TT} {f : α → V} {x y z : α} (h : EvT t σ H b) (h1 : b = true → Ev te σ H (f x)) (h2 : σ[i]? = some (some (f y))) (hz : (if b = true then x else y) = z) (k : ∀ H1, Ex H H1 → D.nx (σ.set i (some (f z))) H1) : tIfS t (tAsg te (gName i)) tNext D σ H := by
  subst hz
  exact s_ifAsg h (fun hb => by rw [if_pos hb]; exact h1 hb) (fun hb => by
    rw [hb, if_neg Bool.false_ne_true]
    exact set_same h2) k
theorem e_if {t : TT} {b : Bool} {f : α → V} {x y : α} (h : EvT t σ H b) (h1 : b = true → Ev ta σ H (f x)) (h2 : b = false → Ev tb σ H (f y)) : Ev (tIf t ta tb) σ H (f (if b = true then x else y)) :=
  ev_if h (fun hb => by rw [if_pos hb]; exact h1 hb) (fun hb => by rw [hb, if_neg Bool.false_ne_true]; exact h2 hb)
theorem e_chain {r r' : R2} {tc : TE} {x y z : V} {b c : Bool} (ha : Ev ta σ H x) (hb : Ev tb σ H y) (hc : Ev tc σ H z) (h1 : ∀ H1, Ex H H1 → RV r x y H1 (.bl b)) (h2 : ∀ H1, Ex H H1 → RV r' y z H1 (.bl c)) : Ev (tChain r r' ta tb tc) σ H (.bl (b && c)) := fun H1 e Q q =>
  ha H1 e _ fun H2 e2 => hb H2 (e.trans e2) _ fun H3 e3 => h1 H3 ((e.trans e2).trans e3) H3 (Ex.refl H3) _ fun H4 e4 => ⟨b, rfl, by
    cases b with
    | true => exact hc H4 (((e.trans e2).trans e3).trans e4) _ fun H5 e5 => h2 H5 ((((e.trans e2).trans e3).trans e4).trans e5) H5 (Ex.refl H5) Q fun H6 e6 => q H6 ((((e2.trans e3).trans e4).trans e5).trans e6)
    | false => exact q H4 ((e2.trans e3).trans e4)⟩
theorem e_min2 {i j : Int} (ha : Ev ta σ H (.int i)) (hb : Ev tb σ H (.int j)) : Ev (tCB (fun xs H Q => ∃ i j, xs = [.int i, .int j] ∧ Q (.int (if j < i then j else i)) H) (tCons ta (tCons tb tNil))) σ H (.int (min i j)) := fun H1 e Q q =>
  ha H1 e _ fun H2 e2 => hb H2 (e.trans e2) _ fun H3 e3 => ⟨i, j, rfl, by
    have : (if j < i then j else i) = min i j := by split <;> omega
    rw [this]
    exact q H3 (e2.trans e3)⟩
theorem e_max2 {i j : Int} (ha : Ev ta σ H (.int i)) (hb : Ev tb σ H (.int j)) : Ev (tCB (fun xs H Q => ∃ i j, xs = [.int i, .int j] ∧ Q (.int (if j > i then j else i)) H) (tCons ta (tCons tb tNil))) σ H (.int (max i j)) := fun H1 e Q q =>
  ha H1 e _ fun H2 e2 => hb H2 (e.trans e2) _ fun H3 e3 => ⟨i, j, rfl, by
    have : (if j > i then j else i) = max i j := by split <;> omega
    rw [this]
    exact q H3 (e2.trans e3)⟩
theorem l_mapR2 {α' : Type} {f : α' → V} {ta' : TA} {jx : Nat} {ws : List Nat} {lo n : Int} (g : Nat → α') (h : EvA ta' σ H [.int lo, .int n]) (hn : -100000 ≤ lo ∧ lo ≤ 100000 ∧ -100000 ≤ n ∧ n ≤ 100000 ∧ n - lo ≤ 40000) (he : ∀ k : Nat, lo + (k : Int) < n → Ev te ((wipe σ ws).set jx (some (.int (lo + (k : Int))))) H (f (g k)))
    (hw : ∀ w, wipe ((wipe σ ws).set jx (some w)) ws = wipe σ ws := by exact fun _ => rfl) : EvL (tLc (iRng2 ta') (gName jx) tYes te ws) σ H (((List.range (n - lo).toNat).map g).map f) := fun H0 e0 Q q => h H0 e0 _ fun H1 e1 => ⟨lo, n, rfl, ⟨by omega, by omega, by omega, by omega⟩, fun Dl hD =>
  lc_range (lo := lo) (n := (n - lo).toNat) (Cw H1 (fun _ => true) (fun k => f (g k)) Dl) ⟨hD, Ex.new hD, upd_same⟩ (fun i H2 hi p =>
    ⟨hw _, cw_turn p (by omega) (fun H4 _ Q k => k H4 (Ex.refl H4)) (fun _ => (he i (by omega)).mono (e0.trans e1))⟩) (fun H2 p => by
      have h3 := p.2.2
      rw [given_all] at h3
      exact q Dl H2 (fresh_back e1 p.1) (e1.trans p.2.1) (h3.trans (by rw [List.map_map]; rfl)))⟩
theorem e_ixLast {f : α → V} {l : List α} (d : α) {pl : Addr} (h : Ev ta σ H (.ref pl)) (hS : SqL K H pl (l.map f)) (hb : Ev tb σ H (.int (-1))) (hi : 0 < l.length) : Ev (tOp (rIxL K) ta tb) σ H (f (l.getLastD d)) :=
  ev_op h hb (rv_ixL hS (by
    unfold atI
    rw [ixN_at (j := l.length - 1) (by rw [List.length_map]; omega)]
    show (l.map f)[l.length - 1]? = _
    rw [List.getElem?_map, List.getElem?_eq_getElem (by omega)]
    show some _ = some _
    congr 2
    rw [List.getLastD_eq_getLast?, List.getLast?_eq_getElem?, List.getElem?_eq_getElem (by omega)]
    rfl))
/-- a filter ahead -/
theorem given_filter {β : Type} (f : β → V) (g : α → β) (c : α → Bool) (l : List α) (d : α) : given l.length (fun k => c (l.getD k d)) (fun k => f (g (l.getD k d))) = ((l.filter c).map g).map f := by
  unfold given
  rw [List.map_map]
  have e : l = (List.range l.length).map (fun k => l.getD k d) := by
    apply List.ext_getElem
    · simp
    · intro k h1 h2
      simp only [List.getElem_map, List.getElem_range]
      rw [List.getD_eq_getElem?_getD, List.getElem?_eq_getElem h1]
      rfl
  conv => rhs; rw [e, List.filter_map, List.map_map]
  rfl
theorem l_filL {β : Type} {f : α → V} {f2 : β → V} {l : List α} {pl : Addr} {jx : Nat} {ws : List Nat} {t : TT} (c : α → Bool) (g : α → β) (d : α) (h : Ev tl' σ H (.ref pl)) (hS : SqL K H pl (l.map f)) (hz : l.length ≤ 40000)
    (ht : ∀ y ∈ l, EvT t ((wipe σ ws).set jx (some (f y))) H (c y)) (he : ∀ y ∈ l, c y = true → Ev te ((wipe σ ws).set jx (some (f y))) H (f2 (g y))) (hw : ∀ w, wipe ((wipe σ ws).set jx (some w)) ws = wipe σ ws := by exact fun _ => rfl) :
    EvL (tLc (iList K tl') (gName jx) t te ws) σ H (((l.filter c).map g).map f2) := by
  have q := el_lcL (t := t) (te := te) (fun k => c (l.getD k d)) (fun k => f2 (g (l.getD k d))) h hS (by rw [List.length_map]; exact hz) hw (fun k w H1 e hk => by
    obtain ⟨hm, ew⟩ := map_at d hk
    rw [ew]
    exact (ht _ hm).mono e) (fun k w H1 e hk hc => by
    obtain ⟨hm, ew⟩ := map_at d hk
    rw [ew]
    exact (he _ hm hc).mono e)
  rw [List.length_map, given_filter] at q
  exact q
theorem paired_self {E : V → V → Prop} : ∀ {l : List V}, (∀ y ∈ l, E y y) → Paired E l l
  | [], _ => .nil
  | _ :: r, h => .cons (h _ List.mem_cons_self) (paired_self fun y hy => h y (List.mem_cons_of_mem _ hy))
/-- two new lists that are equal -/
theorem e_eqLL {f : α → V} {l l2 : List α} (hf : ∀ y, flatB (f y) = true) (ha : EvL ta σ H (l.map f)) (hb : EvL tb σ H (l2.map f)) (h : l = l2) : Ev (tOp (rEqV K) ta tb) σ H (.bl true) :=
  ev_opLL ha hb fun p q H1 hp hq _ => fun H2 e2 Q k => ⟨1, by decide, Or.inl ⟨p, q, _, _, rfl, rfl, sq_of (e2 p _ hp), sq_of (e2 q _ hq), by
    rw [← h]
    exact paired_self fun y hy => by
      obtain ⟨z, _, rfl⟩ := List.mem_map.mp hy
      exact Or.inl ⟨rfl, hf z⟩⟩, k H2 (Ex.refl H2)⟩
/-! ## a text many times -/
def rep (p : Tx) (n : Int) : Tx := (List.replicate n.toNat p).flatten
def rMulT : R2 := fun x y H Q => ∃ i n, x = .str i ∧ y = .int n ∧ MulOk i n ∧ Q (.str (Txt.mul i n)) H
theorem op_mulT {X : Cx} : OpR X (binaryOp .Mult) rMulT := by
  intro pins s σ H x y v u Q I rx ry h
  obtain ⟨i, n, rfl, rfl, hok, q⟩ := h
  obtain ⟨t, rfl⟩ := rx
  obtain ⟨t', rfl⟩ := ry
  exact SB.mul hok fun t' tk => ⟨.str (Txt.mul i n), H, I.tok _, ⟨_, rfl⟩, q⟩
theorem fold_tl : ∀ (k : Nat) (a p : Array Nat), ((List.replicate k p).foldl (· ++ ·) a).toList = a.toList ++ (List.replicate k p.toList).flatten
  | 0, a, p => by simp
  | k + 1, a, p => by
    rw [List.replicate_succ, List.foldl_cons, fold_tl k, List.replicate_succ, List.flatten_cons, Array.toList_append, List.append_assoc]
theorem mul_of (p : Tx) (n : Int) : Txt.mul (mk p) n = mk (rep p n) := by
  unfold Txt.mul rep
  by_cases h : n < 1
  · rw [if_pos h, show n.toNat = 0 by omega]
    rfl
  · rw [if_neg h]
    by_cases h2 : (n == 1 || (mk p).length == 0) = true
    · rw [if_pos h2]
      rcases Bool.or_eq_true_iff.mp h2 with h3 | h3
      · have : n = 1 := by simpa using h3
        subst this
        show mk p = mk ((List.replicate 1 p).flatten)
        simp
      · rw [len_of] at h3
        have : p = [] := List.length_eq_zero_iff.mp (by simpa using h3)
        subst this
        simp
    · rw [if_neg h2]
      exact ext_tl (by
        rw [tl_of]
        show ((List.replicate n.toNat (mk p).cps).foldl (· ++ ·) #[]).toList = _
        rw [fold_tl]
        rfl)
theorem mulok {p : Tx} {n : Int} (h : n ≤ 4096 ∧ p.length ≤ 4096 ∧ -4096 ≤ n) : MulOk (mk p) n := by
  have e : (mk p).length = p.length := len_of p
  refine ⟨by simp only [Bool.or_eq_false_iff, decide_eq_false_iff_not]; omega, fun h1 _ => ?_, fun h1 _ => ?_⟩
  · rw [e]
    have h5 : ((2 : Int) ^ 63 - 1) / 4096 ≤ (2 ^ 63 - 1) / n := by
      apply Int.le_ediv_of_mul_le (by omega)
      have : ((2 : Int) ^ 63 - 1) / 4096 * n ≤ ((2 : Int) ^ 63 - 1) / 4096 * 4096 := Int.mul_le_mul_of_nonneg_left h.1 (by decide)
      exact Int.le_trans this (by decide)
    have h6 : (4096 : Int) ≤ (2 ^ 63 - 1) / 4096 := by decide
    omega
  · rw [e]
    have h5 : p.length * n.toNat ≤ 4096 * 4096 := Nat.mul_le_mul h.2.1 (by omega)
    unfold Builtin.Str.tooLong
    simp only [decide_eq_false_iff_not]
    have : sizeLine = 16777216 := rfl
    omega
theorem e_mulT {p : Tx} {n : Int} (ha : Ev ta σ H (vs p)) (hb : Ev tb σ H (.int n)) (h : n ≤ 4096 ∧ p.length ≤ 4096 ∧ -4096 ≤ n) : Ev (tOp rMulT ta tb) σ H (vs (rep p n)) :=
  ev_op ha hb fun H1 _ Q k => ⟨mk p, n, rfl, rfl, mulok h, by rw [mul_of]; exact k H1 (Ex.refl H1)⟩
/-- the state behind a loop that nothing leaves by return -/
def outL [Inhabited S] : Stp S Unit → S
  | .go s => s
  | .brk s => s
  | .ret _ => default
theorem outL_of [Inhabited S] {o : Stp S Unit} {s : S} (h : o = .go s ∨ o = .brk s) : s = outL o := by
  rcases h with h | h
  · rw [h]
    rfl
  · rw [h]
    rfl
end
/-! ## rules whose answer hangs on the written part, with it named -/
section
variable {X : Cx}
theorem sl_listK (K : PySem.W.Frag) (h : X.K = K := by rfl) : SlR X (rSlL K) := h ▸ sl_list
theorem ix_listK (K : PySem.W.Frag) (h : X.K = K := by rfl) : IxR X (rIxL K) := h ▸ ix_list
theorem op_inK (K : PySem.W.Frag) (h : X.K = K := by rfl) : OpR X (compareOp .In) (rIn K false) := h ▸ op_in_seq
theorem call_lenK (K : PySem.W.Frag) (h : X.K = K := by rfl) : CallR X (.builtin "len") (rLenS K) := h ▸ call_lenQ
theorem cr_allK (K : PySem.W.Frag) (hc : X.calm = true) (h : X.K = K := by rfl) : CallR X (.builtin "all") (rAll K) := h ▸ cr_all hc
theorem call_isiK' (K : PySem.W.Frag) (h : X.K = K := by rfl) : CallR X (.builtin "isinstance") (rIsi K) := h ▸ call_isi
theorem op_eqVK (K : PySem.W.Frag) (hu : X.A.units + 64 < cLine) (h : X.K = K := by rfl) : OpR X (compareOp .Eq) (rEqV K) := h ▸ op_eqV hu
theorem pi_listK (K : PySem.W.Frag) {tg l : Expr} {tl' : TE} (hl : PE X l tl') (h : X.K = K := by rfl) : PI X tg l (iList K tl') := h ▸ pi_list hl
theorem pe_joinK (K : PySem.W.Frag) {o e : Expr} {to te : TE} {apos pos : Pos} (ho : PE X o to) (he : PE X e te) (h : X.K = K := by rfl) (hs : starEach [e] X.env = [(false, eval e X.env)] := by rfl) (hbase : attributeBase o "join" X.env (eval o X.env) = eval o X.env := by rfl) (hline : (apos.endLine == pos.line) = true := by rfl) :
    PE X (.Call (.Attribute o "join" apos) [e] [] pos) (tM1 (rJoinT K) to te) := h ▸ pe_joinT ho he hs hbase hline
end
/-! ## texts and their parts -/
theorem cuts_nil (c : Nat) : cuts c [] = [[]] := rfl
theorem spl_acc (c : Nat) : ∀ (l acc : Tx), spl [c] 0 acc l = match spl [c] 0 [] l with | [] => [] | p :: r => (acc ++ p) :: r
  | [], acc => by rw [spl_nil, spl_nil]; simp
  | d :: r, acc => by
    by_cases h : d = c
    · subst h
      have hp : pre [d] (d :: r) = true := by simp [pre]
      rw [spl_hit hp, spl_hit hp]
      simp
    · have hp : pre [c] (d :: r) = false := pre_of_head [] r h
      rw [spl_miss hp, spl_miss hp, spl_acc c r (acc ++ [d]), spl_acc c r ([] ++ [d])]
      cases spl [c] 0 [] r with
      | nil => rfl
      | cons p q => simp
theorem cuts_hit (c : Nat) (r : Tx) : cuts c (c :: r) = [] :: cuts c r := by
  have hp : pre [c] (c :: r) = true := by simp [pre]
  exact spl_hit hp
theorem cuts_miss {c d : Nat} (h : d ≠ c) (r : Tx) : cuts c (d :: r) = match cuts c r with | [] => [] | p :: q => (d :: p) :: q := by
  have hp : pre [c] (d :: r) = false := pre_of_head [] r h
  show spl [c] 0 [] (d :: r) = _
  rw [spl_miss hp, spl_acc]
  rfl
theorem cuts_ne (c : Nat) : ∀ l : Tx, cuts c l ≠ []
  | [] => by rw [cuts_nil]; simp
  | d :: r => by
    by_cases h : d = c
    · subst h
      rw [cuts_hit]
      simp
    · rw [cuts_miss h]
      have := cuts_ne c r
      cases e : cuts c r with
      | nil => exact absurd e this
      | cons p q => simp
theorem cuts_len (c : Nat) : ∀ l : Tx, (cuts c l).length ≤ l.length + 1
  | [] => by rw [cuts_nil]; simp
  | d :: r => by
    have ih := cuts_len c r
    by_cases h : d = c
    · subst h
      rw [cuts_hit]
      simp only [List.length_cons]
      omega
    · rw [cuts_miss h]
      cases e : cuts c r with
      | nil => simp
      | cons p q =>
        rw [e] at ih
        simp only [List.length_cons] at ih ⊢
        omega
theorem cuts_free (c : Nat) : ∀ (l : Tx), ∀ p ∈ cuts c l, c ∉ p
  | [], p, h => by
    rw [cuts_nil] at h
    rw [List.mem_singleton.mp h]
    simp
  | d :: r, p, h => by
    have ih := cuts_free c r
    by_cases e : d = c
    · subst e
      rw [cuts_hit] at h
      rcases List.mem_cons.mp h with z | z
      · rw [z]; simp
      · exact ih p z
    · rw [cuts_miss e] at h
      cases ec : cuts c r with
      | nil => exact absurd ec (cuts_ne c r)
      | cons q s =>
        rw [ec] at h ih
        rcases List.mem_cons.mp h with z | z
        · rw [z]
          intro m
          rcases List.mem_cons.mp m with y | y
          · exact e y.symm
          · exact ih q List.mem_cons_self y
        · exact ih p (List.mem_cons_of_mem _ z)
theorem sumLen_cons (p : Tx) (l : List Tx) : sumLen (p :: l) = p.length + sumLen l := by
  unfold sumLen
  rw [List.map_cons, List.sum_cons]
theorem sumLen_nil : sumLen [] = 0 := rfl
theorem sumLen_app (l m : List Tx) : sumLen (l ++ m) = sumLen l + sumLen m := by
  unfold sumLen
  rw [List.map_append, List.sum_append]
theorem cuts_sum (c : Nat) : ∀ l : Tx, sumLen (cuts c l) ≤ l.length
  | [] => by rw [cuts_nil]; decide
  | d :: r => by
    have ih := cuts_sum c r
    by_cases h : d = c
    · subst h
      rw [cuts_hit, sumLen_cons]
      simp only [List.length_cons, List.length_nil]
      omega
    · rw [cuts_miss h]
      cases e : cuts c r with
      | nil => simp [sumLen_nil]
      | cons p q =>
        rw [e, sumLen_cons] at ih
        show sumLen ((d :: p) :: q) ≤ _
        rw [sumLen_cons]
        simp only [List.length_cons]
        omega
theorem sumLen_mem : ∀ {l : List Tx} {k : Tx}, k ∈ l → k.length ≤ sumLen l
  | [], k, h => by cases h
  | p :: r, k, h => by
    rw [sumLen_cons]
    rcases List.mem_cons.mp h with e | e
    · subst e
      omega
    · have := sumLen_mem e
      omega
theorem cuts_mem (c : Nat) {l k : Tx} (h : k ∈ cuts c l) : k.length ≤ l.length := Nat.le_trans (sumLen_mem h) (cuts_sum c l)
theorem sumLen_take : ∀ (l : List Tx) (n : Nat), sumLen (l.take n) ≤ sumLen l
  | [], n => by simp
  | p :: r, 0 => by rw [List.take_zero, sumLen_nil]; omega
  | p :: r, n + 1 => by
    rw [List.take_succ_cons, sumLen_cons, sumLen_cons]
    have := sumLen_take r n
    omega
theorem sumLen_drop : ∀ (l : List Tx) (n : Nat), sumLen (l.drop n) ≤ sumLen l
  | [], n => by simp
  | p :: r, 0 => by rw [List.drop_zero]; omega
  | p :: r, n + 1 => by
    rw [List.drop_succ_cons, sumLen_cons]
    have := sumLen_drop r n
    omega
theorem cut_sum (l : List Tx) (a b : Option Int) : sumLen (cutG l a b) ≤ sumLen l := Nat.le_trans (sumLen_take _ _) (sumLen_drop _ _)
theorem cut_len {α : Type} (l : List α) (a b : Option Int) : (cutG l a b).length ≤ l.length := by
  unfold cutG
  rw [List.length_take, List.length_drop]
  omega
theorem joinL_len (s : Tx) : ∀ l : List Tx, (joinL s l).length ≤ sumLen l + l.length * s.length
  | [] => by simp [joinL]
  | [p] => by simp [joinL, sumLen]
  | p :: q :: r => by
    have ih := joinL_len s (q :: r)
    show (p ++ (s ++ joinL s (q :: r))).length ≤ _
    rw [sumLen_cons, List.length_append, List.length_append, List.length_cons, Nat.succ_mul]
    omega
theorem getD_le {l : List Tx} {n : Nat} (h : ∀ p ∈ l, p.length ≤ n) (i : Nat) : (l.getD i []).length ≤ n := by
  rw [List.getD_eq_getElem?_getD]
  cases e : l[i]? with
  | none => simp
  | some p => exact h p (List.mem_of_getElem? e)
end Vf

/-! Own layer, further: dicts with texts as keys, what is read while a thing is locked, own things that change. -/
namespace Vf
open PySem PySem.Spec PyProof.Rows L2 TL Evl

/-! ## the data of a dict -/
section
variable {α β : Type}
def ky (k : Tx) : Key := Sum.inr (mk k)
theorem ky_inj {a b : Tx} (h : ky a = ky b) : a = b := mk_inj (Sum.inr.inj h)
def kd (f : α → V) (l : List (Tx × α)) : List (Key × V) := l.map fun p => (ky p.1, f p.2)
def dget (l : List (Tx × α)) (k : Tx) : Option α := (l.find? fun p => decide (p.1 = k)).map (·.2)
def dput (l : List (Tx × α)) (k : Tx) (v : α) : List (Tx × α) := if (l.any fun p => decide (p.1 = k)) = true then l.map (fun p => if p.1 = k then (p.1, v) else p) else l ++ [(k, v)]
def ddel (l : List (Tx × α)) (k : Tx) : List (Tx × α) := l.filter fun p => decide (p.1 ≠ k)
def dkeys (l : List (Tx × α)) : List Tx := l.map (·.1)
theorem dec_ky (a b : Tx) : decide (ky a = ky b) = decide (a = b) := by
  by_cases h : a = b
  · subst h
    rw [decide_eq_true rfl, decide_eq_true rfl]
  · rw [decide_eq_false h, decide_eq_false (fun e => h (ky_inj e))]
theorem kd_len (f : α → V) (l : List (Tx × α)) : (kd f l).length = l.length := List.length_map _
theorem kd_get (f : α → V) (k : Tx) : ∀ l : List (Tx × α), valV (kd f l) (ky k) = (dget l k).map f
  | [] => rfl
  | p :: r => by
    have ih := kd_get f k r
    unfold valV dget kd at ih ⊢
    rw [List.map_cons, List.find?_cons, List.find?_cons]
    show (match decide (ky p.1 = ky k) with | true => some _ | false => _ : Option (Key × V)).map _ = _
    rw [dec_ky]
    cases decide (p.1 = k) with
    | true => rfl
    | false => exact ih
theorem kd_put (f : α → V) (l : List (Tx × α)) (k : Tx) (v : α) : putK (kd f l) (ky k) (f v) = kd f (dput l k v) := by
  have e : ((kd f l).any fun kv => decide (kv.1 = ky k)) = l.any fun p => decide (p.1 = k) := by
    unfold kd
    rw [List.any_map]
    congr 1
    funext p
    exact dec_ky p.1 k
  unfold putK dput
  rw [e]
  by_cases h : (l.any fun p => decide (p.1 = k)) = true
  · rw [if_pos h, if_pos h]
    unfold kd
    rw [List.map_map, List.map_map]
    apply List.map_congr_left
    intro p _
    show (if ky p.1 = ky k then (ky p.1, f v) else (ky p.1, f p.2)) = (ky (if p.1 = k then (p.1, v) else p).1, f (if p.1 = k then (p.1, v) else p).2)
    by_cases h2 : p.1 = k
    · rw [if_pos h2, if_pos (congrArg ky h2)]
    · rw [if_neg h2, if_neg (fun z => h2 (ky_inj z))]
  · rw [if_neg h, if_neg h]
    unfold kd
    rw [List.map_append]
    rfl
theorem kd_del (f : α → V) (l : List (Tx × α)) (k : Tx) : dropK (kd f l) (ky k) = kd f (ddel l k) := by
  unfold dropK ddel kd
  rw [List.filter_map]
  congr 1
  apply List.filter_congr
  intro p _
  show decide (ky p.1 ≠ ky k) = decide (p.1 ≠ k)
  by_cases h : p.1 = k
  · rw [decide_eq_false (fun z => z (congrArg ky h)), decide_eq_false (fun z => z h)]
  · exact (decide_eq_true (p := ky p.1 ≠ ky k) (fun z => h (ky_inj z))).trans (decide_eq_true (p := p.1 ≠ k) h).symm
theorem kd_keys (f : α → V) (l : List (Tx × α)) : ((kd f l).map fun kv => kV kv.1) = (dkeys l).map vs := by
  unfold kd dkeys
  rw [List.map_map, List.map_map]
  rfl
def dhas (l : List (Tx × α)) (k : Tx) : Bool := (dget l k).isSome
end

/-! ## what is read goes on to be read -/
def RX (H H2 : Hp) : Prop := ∀ a u, Rd H a u → Rd H2 a u
theorem RX.refl (H : Hp) : RX H H := fun _ _ h => h
theorem RX.trans {H H1 H2 : Hp} (a : RX H H1) (b : RX H1 H2) : RX H H2 := fun x u h => b x u (a x u h)
theorem rx_of {H H2 : Hp} (e : Ex H H2) : RX H H2 := fun _ _ h => ex_rd e h
theorem rx_l {K : PySem.W.Frag} {H H2 : Hp} {a : Addr} {xs : List V} (r : RX H H2) (h : SqL K H a xs) : SqL K H2 a xs := by
  rcases h with h | h
  · exact Or.inl (r a _ h)
  · exact Or.inr h
theorem rx_t {K : PySem.W.Frag} {H H2 : Hp} {a : Addr} {xs : List V} (r : RX H H2) (h : SqT K H a xs) : SqT K H2 a xs := by
  rcases h with h | h
  · exact Or.inl (r a _ h)
  · exact Or.inr h
/-- the locked things as they stood before -/
def unl (ls : List (Addr × HO)) (H : Hp) : Hp := ls.foldl (fun H p => upd H p.1 p.2) H
theorem ex_upd {H H2 : Hp} {a : Addr} {o : HO} (e : Ex H H2) : Ex (upd H a o) (upd H2 a o) := fun b u h => by
  by_cases hb : b = a
  · subst hb
    rw [upd_same] at h ⊢
    exact h
  · rw [upd_ne hb] at h ⊢
    exact e b u h
theorem unl_ex : ∀ {ls : List (Addr × HO)} {H H2 : Hp}, Ex H H2 → Ex (unl ls H) (unl ls H2)
  | [], _, _, e => e
  | p :: r, _, _, e => unl_ex (ls := r) (ex_upd e)
theorem unl_grow {ls : List (Addr × HO)} {H0 H H2 : Hp} (e : Ex H0 (unl ls H)) (e2 : Ex H H2) : Ex H0 (unl ls H2) := e.trans (unl_ex e2)
theorem upd_keep {H : Hp} {a b : Addr} {o u : HO} (hne : b ≠ a) (h : H b = some o) : upd H a u b = some o := by
  rw [upd_ne hne]
  exact h
theorem upd_self {H : Hp} {a : Addr} {o : HO} (h : H a = some o) : upd H a o = H := by
  funext b
  by_cases hb : b = a
  · subst hb
    rw [upd_same, h]
  · rw [upd_ne hb]
/-- an own thing at p has become X, behind whatever was made ahead of that -/
def Mu (H : Hp) (p : Addr) (X : HO) (H1 : Hp) : Prop := ∃ H2, Ex H H2 ∧ H1 = upd H2 p X
theorem Mu.at {H H1 : Hp} {p : Addr} {X : HO} (m : Mu H p X H1) : H1 p = some X := by
  obtain ⟨H2, _, rfl⟩ := m
  exact upd_same
theorem Mu.keep {H H1 : Hp} {p : Addr} {X : HO} (m : Mu H p X H1) {q : Addr} {o : HO} (hne : q ≠ p) (h : H q = some o) : H1 q = some o := by
  obtain ⟨H2, e, rfl⟩ := m
  exact upd_keep hne (e q o h)
theorem Mu.ex {H0 H H1 : Hp} {p : Addr} {X : HO} (m : Mu H p X H1) (e : Ex H0 H) (n : H0 p = none) : Ex H0 H1 := by
  obtain ⟨H2, e2, rfl⟩ := m
  exact Ex.mut (e.trans e2) n
theorem Mu.rx {H0 H H1 : Hp} {p : Addr} {X : HO} (m : Mu H p X H1) (r : RX H0 H) (n : H0 p = none) : RX H0 H1 := by
  obtain ⟨H2, e2, rfl⟩ := m
  intro a u h
  have ha : a ≠ p := fun z => by
    subst z
    rcases h with h | ⟨o, h⟩ <;> (rw [n] at h; cases h)
  rcases ex_rd e2 (r a u h) with h2 | ⟨o, h2⟩
  · exact Or.inl (upd_keep ha h2)
  · exact Or.inr ⟨o, upd_keep ha h2⟩
theorem ex_updn {H0 H : Hp} {p : Addr} {X : HO} (e : Ex H0 H) (n : H0 p = none) : Ex H0 (upd H p X) := Ex.mut e n
theorem unl_upd : ∀ {ls : List (Addr × HO)} {H0 H : Hp} {p : Addr} {X : HO}, H0 p = none → Ex H0 (unl ls H) → Ex H0 (unl ls (upd H p X))
  | [], _, _, _, _, n, e => Ex.mut e n
  | q :: r, H0, H, p, X, n, e => by
    show Ex H0 (unl r (upd (upd H p X) q.1 q.2))
    by_cases h : p = q.1
    · subst h
      rw [upd_upd]
      exact e
    · have e2 : upd (upd H p X) q.1 q.2 = upd (upd H q.1 q.2) p X := by
        funext b
        unfold upd
        by_cases h1 : b = q.1
        · subst h1
          rw [if_pos rfl, if_neg (fun z => h z.symm), if_pos rfl]
        · rw [if_neg h1]
          by_cases h2 : b = p
          · rw [if_pos h2, if_pos h2]
          · rw [if_neg h2, if_neg h2, if_neg h1]
      rw [e2]
      exact unl_upd n e
theorem Mu.unl {ls : List (Addr × HO)} {H0 H H1 : Hp} {p : Addr} {X : HO} (m : Mu H p X H1) (e : Ex H0 (unl ls H)) (n : H0 p = none) : Ex H0 (unl ls H1) := by
  obtain ⟨H2, e2, rfl⟩ := m
  exact unl_upd n (unl_grow e e2)
theorem rx_lock {H0 H : Hp} {d : Addr} {kvs : List (Key × V)} {o : Obj} (r : RX H0 H) (hd : H d = some (.dK kvs)) : RX H0 (upd H d (.frz o (.dK kvs))) := fun a u h => by
  have h2 := r a u h
  by_cases ha : a = d
  · subst ha
    have e : u = .dK kvs := by
      rcases h2 with z | ⟨_, z⟩
      · rw [hd] at z
        exact (Option.some.inj z).symm
      · rw [hd] at z
        cases z
    subst e
    exact Or.inr ⟨o, upd_same⟩
  · rcases h2 with z | ⟨q, z⟩
    · exact Or.inl (upd_keep ha z)
    · exact Or.inr ⟨q, upd_keep ha z⟩

section
variable {K : PySem.W.Frag} {σ : L2.St} {H H' : Hp} {ta tb te td : TE} {D : Ends} {tu tw tz : TS} {α S R : Type} {d : Addr} {k : Tx} {f : α → V} {l : List (Tx × α)}
/-! ## reading a dict -/
theorem dg_of (h : Rd H d (.dK (kd f l))) (k : Tx) : DGet H d (vs k) ((dget l k).map f) := Or.inl ⟨kd f l, ky k, h, rfl, (kd_get f k l).symm⟩
theorem e_inD (hk : Ev ta σ H (vs k)) (hd : Ev td σ H (.ref d)) (h : Rd H d (.dK (kd f l))) : Ev (tDIn ta td) σ H (.bl (dhas l k)) := fun H1 e Q q =>
  hk H1 e _ fun H2 e2 => hd H2 (e.trans e2) _ fun H3 e3 => ⟨d, _, rfl, dg_of (ex_rd ((e.trans e2).trans e3) h) k, by
    have : ((dget l k).map f).isSome = dhas l k := Option.isSome_map
    rw [this]
    exact q H3 (e2.trans e3)⟩
theorem e_niD (hk : Ev ta σ H (vs k)) (hd : Ev td σ H (.ref d)) (h : Rd H d (.dK (kd f l))) : Ev (tDNotIn ta td) σ H (.bl (!dhas l k)) := fun H1 e Q q =>
  hk H1 e _ fun H2 e2 => hd H2 (e.trans e2) _ fun H3 e3 => ⟨d, _, rfl, dg_of (ex_rd ((e.trans e2).trans e3) h) k, by
    have : ((dget l k).map f).isSome = dhas l k := Option.isSome_map
    rw [this]
    exact q H3 (e2.trans e3)⟩
theorem e_getD (dv : α) (hd : Ev td σ H (.ref d)) (hk : Ev ta σ H (vs k)) (h : Rd H d (.dK (kd f l))) (hh : dhas l k = true) : Ev (tDGet td ta) σ H (f ((dget l k).getD dv)) := fun H1 e Q q =>
  hd H1 e _ fun H2 e2 => hk H2 (e.trans e2) _ fun H3 e3 => ⟨d, _, rfl, by
    have g := dg_of (ex_rd ((e.trans e2).trans e3) h) k
    obtain ⟨v, hv⟩ := Option.isSome_iff_exists.mp (show (dget l k).isSome = true from hh)
    rw [hv] at g ⊢
    exact g, q H3 (e2.trans e3)⟩
/-- a text or nothing -/
def vo : Option Tx → V
  | none => .non
  | some t => vs t
theorem e_get1 {l : List (Tx × Tx)} (hd : Ev td σ H (.ref d)) (hk : Ev ta σ H (vs k)) (h : Rd H d (.dK (kd vs l))) : Ev (tDGet1 td ta) σ H (vo (dget l k)) := fun H1 e Q q =>
  hd H1 e _ fun H2 e2 => ⟨d, rfl, Or.inl ⟨_, ex_rd (e.trans e2) h⟩, hk H2 (e.trans e2) _ fun H3 e3 => ⟨_, dg_of (ex_rd ((e.trans e2).trans e3) h) k, by
    have : ((dget l k).map vs).getD .non = vo (dget l k) := by cases dget l k <;> rfl
    rw [this]
    exact q H3 (e2.trans e3)⟩⟩
def rLenD : List V → Hp → VK → Prop := fun xs H Q => ∃ a kvs, xs = [V.ref a] ∧ Rd H a (.dK kvs) ∧ Q (.int kvs.length) H
theorem e_lenD (hd : Ev td σ H (.ref d)) (h : H d = some (.dK (kd f l))) : Ev (tCB (fun xs H Q => ∃ a kvs, xs = [V.ref a] ∧ H a = some (.dK kvs) ∧ Q (.int kvs.length) H) (tCons td tNil)) σ H (.int (l.length : Int)) :=
  ev_cb (ea_cons hd ea_nil) fun H1 e Q q => ⟨d, _, rfl, e d _ h, by rw [kd_len]; exact q H1 (Ex.refl H1)⟩
theorem l_keysD (hd : Ev td σ H (.ref d)) (h : Rd H d (.dK (kd f l))) : EvL (tCB (fun xs H Q => ∃ (a : Addr) (kvs : List (Key × V)), xs = [.ref a] ∧ Rd H a (.dK kvs) ∧ ∀ p, H p = none → Q (.ref p) (upd H p (.lst (kvs.map fun kv => kV kv.1)))) (tCons td tNil)) σ H ((dkeys l).map vs) := fun H1 e Q q =>
  hd H1 e _ fun H2 e2 => ⟨d, _, rfl, ex_rd (e.trans e2) h, fun p np => q p _ (fresh_back e2 np) (e2.trans (Ex.new np)) (by rw [upd_same, kd_keys])⟩
/-- a new dict -/
def EvK (te : TE) (σ : L2.St) (H : Hp) (kvs : List (Key × V)) : Prop := ∀ H1, Ex H H1 → ∀ Q : VK, (∀ p H2, H1 p = none → Ex H1 H2 → H2 p = some (.dK kvs) → Q (.ref p) H2) → te σ H1 Q
theorem ek_is {a b : List (Key × V)} (h : EvK te σ H a) (e : a = b) : EvK te σ H b := e ▸ h
theorem k_new : EvK tDNewK σ H [] := fun H1 _ Q q p np => q p _ np (Ex.new np) upd_same
theorem k_copy (hd : Ev td σ H (.ref d)) (h : Rd H d (.dK (kd f l))) : EvK (tCB (fun xs H Q => ∃ (a : Addr) (kvs : List (Key × V)), xs = [.ref a] ∧ Rd H a (.dK kvs) ∧ ∀ p, H p = none → Q (.ref p) (upd H p (.dK kvs))) (tCons td tNil)) σ H (kd f l) := fun H1 e Q q =>
  hd H1 e _ fun H2 e2 => ⟨d, _, rfl, ex_rd (e.trans e2) h, fun p np => q p _ (fresh_back e2 np) (e2.trans (Ex.new np)) upd_same⟩
theorem s_asgK {i : Nat} {kvs : List (Key × V)} (h : EvK te σ H kvs) (k : ∀ p H1, H p = none → Ex H H1 → H1 p = some (.dK kvs) → D.nx (σ.set i (some (.ref p))) H1) : tAsg te (gName i) D σ H := h H (Ex.refl H) _ fun p H1 hp e h1 => k p H1 hp e h1
theorem q_asgK {i : Nat} {kvs : List (Key × V)} (h : EvK te σ H kvs) (k : ∀ p H1, H p = none → Ex H H1 → H1 p = some (.dK kvs) → tz D (σ.set i (some (.ref p))) H1) : tSeq (tAsg te (gName i)) tz D σ H := s_asgK (D := { D with nx := tz D }) h k
theorem s_retK {kvs : List (Key × V)} (h : EvK te σ H kvs) (k : ∀ p H1, H p = none → Ex H H1 → H1 p = some (.dK kvs) → D.rt (.ref p) H1) : tRet te D σ H := h H (Ex.refl H) _ k
/-! ## writing own things -/
theorem s_putD {v : α} (hv : Ev te σ H (f v)) (hd : Ev td σ H (.ref d)) (hk : Ev ta σ H (vs k)) (h : H d = some (.dK (kd f l))) (hz : l.length < 100000) (q : ∀ H1, Mu H d (.dK (kd f (dput l k v))) H1 → D.nx σ H1) : sDPut td ta te D σ H :=
  hv H (Ex.refl H) _ fun H1 e1 => hd H1 e1 _ fun H2 e2 => hk H2 (e1.trans e2) _ fun H3 e3 =>
    ⟨d, upd H3 d (.dK (kd f (dput l k v))), rfl, Or.inl ⟨kd f l, ky k, ((e1.trans e2).trans e3) d _ h, rfl, sz_lt (by rw [kd_len]; exact hz), by rw [kd_put]⟩, q _ ⟨H3, (e1.trans e2).trans e3, rfl⟩⟩
theorem q_putD {v : α} (hv : Ev te σ H (f v)) (hd : Ev td σ H (.ref d)) (hk : Ev ta σ H (vs k)) (h : H d = some (.dK (kd f l))) (hz : l.length < 100000) (q : ∀ H1, Mu H d (.dK (kd f (dput l k v))) H1 → tz D σ H1) : tSeq (sDPut td ta te) tz D σ H :=
  s_putD (D := { D with nx := tz D }) hv hd hk h hz q
theorem s_delD (hd : Ev td σ H (.ref d)) (hk : Ev ta σ H (vs k)) (h : H d = some (.dK (kd f l))) (hh : dhas l k = true) (q : ∀ H1, Mu H d (.dK (kd f (ddel l k))) H1 → D.nx σ H1) : sDDel td ta D σ H :=
  hd H (Ex.refl H) _ fun H1 e1 => hk H1 e1 _ fun H2 e2 => ⟨d, kd f l, ky k, rfl, (e1.trans e2) d _ h, rfl, by rw [kd_get, Option.isSome_map]; exact hh, q _ ⟨H2, e1.trans e2, by rw [kd_del]⟩⟩
theorem q_delD (hd : Ev td σ H (.ref d)) (hk : Ev ta σ H (vs k)) (h : H d = some (.dK (kd f l))) (hh : dhas l k = true) (q : ∀ H1, Mu H d (.dK (kd f (ddel l k))) H1 → tz D σ H1) : tSeq (sDDel td ta) tz D σ H :=
  s_delD (D := { D with nx := tz D }) hd hk h hh q
/-- d.pop(k) alone -/
theorem s_popD (dv : α) (hd : Ev td σ H (.ref d)) (hk : Ev ta σ H (vs k)) (h : H d = some (.dK (kd f l))) (hh : dhas l k = true) (q : ∀ H1, Mu H d (.dK (kd f (ddel l k))) H1 → D.nx σ H1) : tDrop (tDPop1 td ta) D σ H :=
  hd H (Ex.refl H) _ fun H1 e1 => ⟨d, rfl, Or.inl ⟨_, Or.inl (e1 d _ h)⟩, hk H1 e1 _ fun H2 e2 => ⟨kd f l, ky k, f ((dget l k).getD dv), (e1.trans e2) d _ h, rfl, by
    obtain ⟨v, hv⟩ := Option.isSome_iff_exists.mp (show (dget l k).isSome = true from hh)
    rw [kd_get, hv]
    rfl, q _ ⟨H2, e1.trans e2, by rw [kd_del]⟩⟩⟩
theorem q_popD (dv : α) (hd : Ev td σ H (.ref d)) (hk : Ev ta σ H (vs k)) (h : H d = some (.dK (kd f l))) (hh : dhas l k = true) (q : ∀ H1, Mu H d (.dK (kd f (ddel l k))) H1 → tz D σ H1) : tSeq (tDrop (tDPop1 td ta)) tz D σ H :=
  s_popD (D := { D with nx := tz D }) dv hd hk h hh q
/-- c[j] = d.pop(k), c another own dict -/
theorem s_putPop {tc tj : TE} {c : Addr} {j : Tx} {m : List (Tx × α)} (dv : α) (hd : Ev td σ H (.ref d)) (hk : Ev ta σ H (vs k)) (h : H d = some (.dK (kd f l))) (hh : dhas l k = true) (hc : ∀ H1, Ev tc σ H1 (.ref c)) (hj : ∀ H1, Ev tj σ H1 (vs j)) (h2 : H c = some (.dK (kd f m))) (hne : c ≠ d) (hz : m.length < 100000)
    (q : ∀ H1 H2, Mu H d (.dK (kd f (ddel l k))) H1 → Mu H1 c (.dK (kd f (dput m j ((dget l k).getD dv)))) H2 → D.nx σ H2) : sDPut tc tj (tDPop1 td ta) D σ H :=
  hd H (Ex.refl H) _ fun H1 e1 => ⟨d, rfl, Or.inl ⟨_, Or.inl (e1 d _ h)⟩, hk H1 e1 _ fun H2 e2 => ⟨kd f l, ky k, f ((dget l k).getD dv), (e1.trans e2) d _ h, rfl, by
    obtain ⟨v, hv⟩ := Option.isSome_iff_exists.mp (show (dget l k).isSome = true from hh)
    rw [kd_get, hv]
    rfl, by
    rw [kd_del]
    have hm : Mu H d (.dK (kd f (ddel l k))) (upd H2 d (.dK (kd f (ddel l k)))) := ⟨H2, e1.trans e2, rfl⟩
    exact hc _ _ (Ex.refl _) _ fun H3 e3 => hj H3 H3 (Ex.refl _) _ fun H4 e4 => ⟨c, upd H4 c (.dK (kd f (dput m j ((dget l k).getD dv)))), rfl, Or.inl ⟨kd f m, ky j, (e3.trans e4) c _ (hm.keep hne h2), rfl, sz_lt (by rw [kd_len]; exact hz), by rw [kd_put]⟩,
      q _ _ hm ⟨H4, e3.trans e4, rfl⟩⟩⟩⟩
theorem q_putPop {tc tj : TE} {c : Addr} {j : Tx} {m : List (Tx × α)} (dv : α) (hd : Ev td σ H (.ref d)) (hk : Ev ta σ H (vs k)) (h : H d = some (.dK (kd f l))) (hh : dhas l k = true) (hc : ∀ H1, Ev tc σ H1 (.ref c)) (hj : ∀ H1, Ev tj σ H1 (vs j)) (h2 : H c = some (.dK (kd f m))) (hne : c ≠ d) (hz : m.length < 100000)
    (q : ∀ H1 H2, Mu H d (.dK (kd f (ddel l k))) H1 → Mu H1 c (.dK (kd f (dput m j ((dget l k).getD dv)))) H2 → tz D σ H2) : tSeq (sDPut tc tj (tDPop1 td ta)) tz D σ H :=
  s_putPop (D := { D with nx := tz D }) dv hd hk h hh hc hj h2 hne hz q
/-- lists likewise -/
theorem s_appG {β : Type} {g : β → V} {pl : Addr} {m : List β} {v : β} (hl : H pl = some (.lst (m.map g))) (ha : Ev ta σ H (.ref pl)) (h : Ev te σ H (g v)) (hz : m.length < 100000)
    (q : ∀ H1, Mu H pl (.lst ((m ++ [v]).map g)) H1 → D.nx σ H1) : tDrop (tBM K "list" rAppend ta (tCons te tNil)) D σ H :=
  s_app hl ha h (by rw [List.length_map]; exact hz) fun H1 e1 => q _ ⟨H1, e1, by rw [List.map_append]; rfl⟩
theorem q_appG {β : Type} {g : β → V} {pl : Addr} {m : List β} {v : β} (hl : H pl = some (.lst (m.map g))) (ha : Ev ta σ H (.ref pl)) (h : Ev te σ H (g v)) (hz : m.length < 100000)
    (q : ∀ H1, Mu H pl (.lst ((m ++ [v]).map g)) H1 → tz D σ H1) : tSeq (tDrop (tBM K "list" rAppend ta (tCons te tNil))) tz D σ H := s_appG (D := { D with nx := tz D }) hl ha h hz q
theorem s_setG {β : Type} {g : β → V} {pl : Addr} {m : List β} {v : β} {i : Int} (j : Nat) {tb' : TE} (hl : H pl = some (.lst (m.map g))) (h : Ev te σ H (g v)) (ha : Ev ta σ H (.ref pl)) (hi : Ev tb' σ H (.int i)) (hj : (0 ≤ i ∧ i = j ∨ i < 0 ∧ i + m.length = j) ∧ j < m.length)
    (q : ∀ H1, Mu H pl (.lst ((m.set j v).map g)) H1 → D.nx σ H1) : tAsg te (gSub ta tb' rSetL) D σ H := h H (Ex.refl H) _ fun H1 e1 => ha H1 e1 _ fun H2 e2 => hi H2 (e1.trans e2) _ fun H3 e3 =>
  ⟨pl, m.map g, i, j, rfl, rfl, ((e1.trans e2).trans e3) pl _ hl, ixN_at (by rw [List.length_map]; exact hj), q _ ⟨H3, (e1.trans e2).trans e3, by rw [List.map_set]⟩⟩
theorem q_setG {β : Type} {g : β → V} {pl : Addr} {m : List β} {v : β} {i : Int} (j : Nat) {tb' : TE} (hl : H pl = some (.lst (m.map g))) (h : Ev te σ H (g v)) (ha : Ev ta σ H (.ref pl)) (hi : Ev tb' σ H (.int i)) (hj : (0 ≤ i ∧ i = j ∨ i < 0 ∧ i + m.length = j) ∧ j < m.length)
    (q : ∀ H1, Mu H pl (.lst ((m.set j v).map g)) H1 → tz D σ H1) : tSeq (tAsg te (gSub ta tb' rSetL)) tz D σ H := s_setG (D := { D with nx := tz D }) j hl h ha hi hj q

/-! ## a walk over a dict's keys -/
/-- the dict locked for the walk, or locked before -/
def tMay (t : TS) : TS := fun D σ H => t D σ H ∨ tLock t D σ H
theorem ps_may {X : Cx} {st : Stmt} {t : TS} (h : PS X st t) : PS X st (tMay t) := by
  refine ⟨fun pins s σ H D I hw => ?_⟩
  rcases hw with hw | hw
  · exact h.run pins s σ H D I hw
  · exact (ps_lock h).run pins s σ H D I hw
theorem keys_walk {t : TG} {step : S → Tx → Stp S R} {s0 : S} {Rep : S → L2.St → Hp → Prop} {i : Nat} {j : Nat} {o : Obj} {D' : Ends} (hσ : σ[i]? = some (some (.ref d))) (hd : H d = some (.frz o (.dK (kd f l)))) (h0 : Rep s0 σ H)
    (hk : ∀ s σ1 H1, Rep s σ1 H1 → H1 d = some (.frz o (.dK (kd f l)))) (hb : BodyOk tu D' j vs step (dkeys l) s0 Rep)
    (ho : ∀ s σ1 H1, (runL step (dkeys l) s0 = .go s ∨ runL step (dkeys l) s0 = .brk s) → Rep s σ1 H1 → D'.nx σ1 H1) : tFor (iKeys (tVar i)) (gName j) tu D' σ H := by
  have hbr : BodyOk tu D' j vs step (dkeys l) s0 Rep := hb
  refine ⟨.ref d, hσ, d, o, rfl, Or.inl ⟨kd f l, hd, ?_⟩⟩
  refine ⟨fun n m σ1 H2 => m = l.length - n ∧ n ≤ l.length ∧ ∃ s, runL step ((dkeys l).take n) s0 = .go s ∧ Rep s σ1 H2, ⟨l.length, by simp, Nat.zero_le _, s0, rfl, h0⟩, fun n m σ1 H2 hW => ?_⟩
  obtain ⟨rfl, hn, s, hr, hp⟩ := hW
  have hlen : (dkeys l).length = l.length := List.length_map _
  by_cases hlt : n < l.length
  · refine Or.inr ⟨⟨hk s σ1 H2 hp, by rw [kd_len]; exact hlt⟩, fun σ2 H3 => ∃ s, runL step ((dkeys l).take (n + 1)) s0 = .go s ∧ Rep s σ2 H3, fun σ2 H3 h3 => ⟨l.length - (n + 1), by omega, rfl, hlt, h3⟩, fun w H3 hy => ?_⟩
    obtain ⟨rfl, kk, vv, hkv, rfl⟩ := hy
    have hy2 : (dkeys l)[n]? = some (l[n]).1 := by
      unfold dkeys
      rw [List.getElem?_map, List.getElem?_eq_getElem hlt]
      rfl
    have ek : kV kk = vs (l[n]).1 := by
      unfold kd at hkv
      rw [List.getElem?_map, List.getElem?_eq_getElem hlt] at hkv
      have e : ky (l[n]).1 = kk := congrArg Prod.fst (Option.some.inj hkv)
      rw [← e]
      rfl
    rw [ek]
    have hnx := runL_next hr hy2
    exact hbr _ _ n s _ σ1 _ hy2 hr hp (fun s2 σ2 H2 e q => ⟨s2, hnx.trans e, q⟩) (fun s2 σ2 H2 e q => ho s2 σ2 H2 (Or.inr (runL_out (hnx.trans e) (fun _ z => by cases z))) q) (fun r e => runL_out (hnx.trans e) (fun _ z => by cases z))
  · have en : n = l.length := by omega
    subst en
    rw [← hlen, List.take_length] at hr
    exact Or.inl ⟨⟨hk s σ1 H2 hp, by rw [kd_len]; exact Nat.le_refl _⟩, ho s σ1 H2 (Or.inl hr) hp⟩
/-- for k in d -/
theorem q_loopK (step : S → Tx → Stp S R) (s0 : S) (Rep : HO → Obj → S → L2.St → Hp → Prop) {i j : Nat} (hσ : σ[i]? = some (some (.ref d))) (hd : Rd H d (.dK (kd f l)))
    (h0 : ∀ U o, H d = some U → (U = .dK (kd f l) ∨ U = .frz o (.dK (kd f l))) → Rep U o s0 σ (upd H d (.frz o (.dK (kd f l)))))
    (hk : ∀ U o s σ1 H1, Rep U o s σ1 H1 → H1 d = some (.frz o (.dK (kd f l))))
    (hb : ∀ U o (Rt : VK), H d = some U → (U = .dK (kd f l) ∨ U = .frz o (.dK (kd f l))) → (∀ v H1, H1 d = some (.frz o (.dK (kd f l))) → D.rt v (upd H1 d U) → Rt v H1) → BodyOk tu { D with rt := Rt } j vs step (dkeys l) s0 (Rep U o))
    (ho : ∀ U o s σ1 H1, H d = some U → (U = .dK (kd f l) ∨ U = .frz o (.dK (kd f l))) → (runL step (dkeys l) s0 = .go s ∨ runL step (dkeys l) s0 = .brk s) → Rep U o s σ1 H1 → tz D σ1 (upd H1 d U)) :
    tSeq (tMay (tFor (iKeys (tVar i)) (gName j) tu)) tz D σ H := by
  rcases hd with h | ⟨o, h⟩
  · refine Or.inr ⟨d, .dK (kd f l), h, trivial, fun od => ?_⟩
    have hb2 := hb (.dK (kd f l)) od (fun v H1 => H1 d = some (.frz od (.dK (kd f l))) ∧ D.rt v (upd H1 d (.dK (kd f l)))) h (Or.inl rfl) (fun v H1 a b => ⟨a, b⟩)
    exact keys_walk (t := gName j) (Rep := Rep (.dK (kd f l)) od) hσ upd_same (h0 _ od h (Or.inl rfl)) (hk _ od) hb2 (fun s σ1 H1 hr hp => ⟨hk _ od s σ1 H1 hp, ho _ od s σ1 H1 h (Or.inl rfl) hr hp⟩)
  · have hb2 := hb (.frz o (.dK (kd f l))) o D.rt h (Or.inr rfl) (fun v H1 a b => by rw [upd_self a] at b; exact b)
    have h02 := h0 _ o h (Or.inr rfl)
    rw [upd_self h] at h02
    exact Or.inl (keys_walk (t := gName j) (Rep := Rep (.frz o (.dK (kd f l))) o) hσ h h02 (hk _ o) hb2 (fun s σ1 H1 hr hp => by
      have q := ho _ o s σ1 H1 h (Or.inr rfl) hr hp
      rw [upd_self (hk _ o s σ1 H1 hp)] at q
      exact q))
theorem rx_may {H0 : Hp} {U : HO} {o : Obj} {kvs : List (Key × V)} (r : RX H0 H) (hd : H d = some U) (hU : U = .dK kvs ∨ U = .frz o (.dK kvs)) : RX H0 (upd H d (.frz o (.dK kvs))) := by
  rcases hU with rfl | rfl
  · exact rx_lock r hd
  · rw [upd_self hd]
    exact r
theorem unl_lock {ls : List (Addr × HO)} {H0 : Hp} {U W : HO} (e : Ex H0 (unl ls H)) (hd : H d = some U) : Ex H0 (unl ((d, U) :: ls) (upd H d W)) := by
  show Ex H0 (unl ls (upd (upd H d W) d U))
  rw [upd_upd, upd_self hd]
  exact e
theorem unl_open {ls : List (Addr × HO)} {H0 : Hp} {U : HO} (e : Ex H0 (unl ((d, U) :: ls) H)) : Ex H0 (unl ls (upd H d U)) := e
/-! ## small builtins -/
theorem e_intB {b : Bool} (h : Ev ta σ H (.bl b)) : Ev (tCB (fun xs H Q => (∃ i, xs = [.int i] ∧ Q (.int i) H) ∨ ∃ k, xs = [.bl k] ∧ Q (.int (if k then 1 else 0)) H) (tCons ta tNil)) σ H (.int (if b = true then 1 else 0)) :=
  ev_cb (ea_cons h ea_nil) fun H1 e Q q => Or.inr ⟨b, rfl, q H1 (Ex.refl H1)⟩
/-- str(n) -/
def dec (n : Int) : Tx := tl (toString n : String)
theorem e_strI {n : Int} (h : Ev ta σ H (.int n)) (hz : n.natAbs.log2 < 1920) : Ev (tCB (fun xs H Q => ∃ i, xs = [.int i] ∧ i.natAbs.log2 < 1920 ∧ Q (.str (toString i)) H) (tCons ta tNil)) σ H (vs (dec n)) :=
  ev_cb (ea_cons h ea_nil) fun H1 e Q q => ⟨n, rfl, hz, by
    have : V.str (toString n : String) = vs (dec n) := congrArg V.str (mk_of _).symm
    rw [this]
    exact q H1 (Ex.refl H1)⟩
end
end Vf
namespace Vf
open PySem PySem.Spec PyProof.Rows L2 TL Evl
section
variable {X : Cx}
theorem call_lenRd : CallR X (.builtin "len") rLenD := by
  intro pins s σ H xs us Q I r h
  obtain ⟨a, kvs, rfl, ha, q⟩ := h
  obtain ⟨u, rfl, ru⟩ := vals1 r
  cases ru
  exact d_len I ha fun t s' I' => ⟨.int kvs.length, H, I', ⟨t, rfl⟩, q⟩
theorem call_listDK (hc : X.calm = true) : CallR X (.type "list") (fun xs H Q => ∃ (a : Addr) (kvs : List (Key × V)), xs = [.ref a] ∧ Rd H a (.dK kvs) ∧ ∀ p, H p = none → Q (.ref p) (upd H p (.lst (kvs.map fun kv => kV kv.1)))) := call_listD hc
end
section
variable {σ : L2.St} {H : Hp} {td ta : TE} {α : Type} {f : α → V} {l : List (Tx × α)} {d : Addr} {x y : V}
theorem e_lenRd (hd : Ev td σ H (.ref d)) (h : Rd H d (.dK (kd f l))) : Ev (tCB rLenD (tCons td tNil)) σ H (.int (l.length : Int)) :=
  ev_cb (ea_cons hd ea_nil) fun H1 e Q q => ⟨d, _, rfl, ex_rd e h, by rw [kd_len]; exact q H1 (Ex.refl H1)⟩
theorem rx_updn {H0 : Hp} {p : Addr} {Y : HO} (r : RX H0 H) (n : H0 p = none) : RX H0 (upd H p Y) := fun a u h => by
  have ha : a ≠ p := fun z => by
    subst z
    rcases h with h | ⟨o, h⟩ <;> (rw [n] at h; cases h)
  rcases r a u h with h2 | ⟨o, h2⟩
  · exact Or.inl (upd_keep ha h2)
  · exact Or.inr ⟨o, upd_keep ha h2⟩
/-- what is read stands elsewhere than what is new -/
theorem ne_rdn {H0 : Hp} {a p : Addr} {u : HO} (h : Rd H0 a u) (n : H0 p = none) : a ≠ p := fun z => by
  subst z
  rcases h with h | ⟨o, h⟩ <;> (rw [n] at h; cases h)
theorem tyx_dct {K : PySem.W.Frag} {kvs : List (Key × V)} (h : Rd H d (.dK kvs)) : TyX K H (.ref d) (.type "dict") := by
  rcases h with h | ⟨o, h⟩
  · exact .base (.dK h)
  · exact .fDict h
theorem rx_free {H0 : Hp} {p : Addr} (r : RX H0 H) (n : H p = none) : H0 p = none := by
  cases h : H0 p with
  | none => rfl
  | some o =>
    rcases r p o (Or.inl h) with h2 | ⟨_, h2⟩ <;> (rw [n] at h2; cases h2)
/-! ## lists laid together -/
theorem l_catNR {β : Type} {g : β → V} {m1 m2 : List β} {pl : Addr} {tb : TE} (ha : EvL ta σ H (m1.map g)) (hb : Ev tb σ H (.ref pl)) (h : H pl = some (.lst (m2.map g))) (hz : m1.length + m2.length ≤ 100000) : EvL (tOp rCat ta tb) σ H ((m1 ++ m2).map g) := fun H1 e Q q =>
  ha H1 e _ fun p H2 np e2 hp => hb H2 (e.trans e2) _ fun H3 e3 => ⟨p, pl, m1.map g, m2.map g, rfl, rfl, e3 p _ hp, ((e.trans e2).trans e3) pl _ h, by rw [List.length_map, List.length_map]; exact sz_of hz, fun r nr =>
    q r _ (fresh_back (e2.trans e3) nr) ((e2.trans e3).trans (Ex.new nr)) (by rw [upd_same, List.map_append])⟩
theorem l_catNN {β : Type} {g : β → V} {m1 m2 : List β} {tb : TE} (ha : EvL ta σ H (m1.map g)) (hb : EvL tb σ H (m2.map g)) (hz : m1.length + m2.length ≤ 100000) : EvL (tOp rCat ta tb) σ H ((m1 ++ m2).map g) := fun H1 e Q q =>
  ha H1 e _ fun p H2 np e2 hp => hb H2 (e.trans e2) _ fun p2 H3 np2 e3 hp2 => ⟨p, p2, m1.map g, m2.map g, rfl, rfl, e3 p _ hp, hp2, by rw [List.length_map, List.length_map]; exact sz_of hz, fun r nr =>
    q r _ (fresh_back (e2.trans e3) nr) ((e2.trans e3).trans (Ex.new nr)) (by rw [upd_same, List.map_append])⟩
theorem l_catRN {β : Type} {g : β → V} {m1 m2 : List β} {pl : Addr} {tb : TE} (ha : Ev ta σ H (.ref pl)) (h : H pl = some (.lst (m1.map g))) (hb : EvL tb σ H (m2.map g)) (hz : m1.length + m2.length ≤ 100000) : EvL (tOp rCat ta tb) σ H ((m1 ++ m2).map g) := fun H1 e Q q =>
  ha H1 e _ fun H2 e2 => hb H2 (e.trans e2) _ fun p2 H3 np2 e3 hp2 => ⟨pl, p2, m1.map g, m2.map g, rfl, rfl, ((e.trans e2).trans e3) pl _ h, hp2, by rw [List.length_map, List.length_map]; exact sz_of hz, fun r nr =>
    q r _ (fresh_back (e2.trans e3) nr) ((e2.trans e3).trans (Ex.new nr)) (by rw [upd_same, List.map_append])⟩
/-- a slice of a new list -/
theorem l_slN {K : PySem.W.Frag} {β : Type} {g : β → V} {m : List β} {te : TE} {tl' th : TO} {lo hi : Option Int} (h : EvL te σ H (m.map g)) (h1 : EvO tl' σ H lo) (h2 : EvO th σ H hi) : EvL (tSl (rSlL K) te tl' th) σ H ((cutG m lo hi).map g) := fun H1 e Q q =>
  h H1 e _ fun p H2 np e2 hp => h1 H2 (e.trans e2) _ fun H3 e3 => h2 H3 ((e.trans e2).trans e3) _ fun H4 e4 => ⟨p, m.map g, rfl, sq_of (e4 p _ (e3 p _ hp)), fun r nr =>
    q r _ (fresh_back ((e2.trans e3).trans e4) nr) (((e2.trans e3).trans e4).trans (Ex.new nr)) (by rw [upd_same, cutV_map])⟩
/-! ## promises that give a new dict -/
def RetK (kvs : List (Key × V)) (H : Hp) (Q : VK) : Prop := ∀ p H2, H p = none → Ex H H2 → H2 p = some (.dK kvs) → Q (.ref p) H2
def spK (R : List V → Hp → List (Key × V) → Prop) : Sp := fun vs' H Q _ => ∃ xs, R vs' H xs ∧ RetK xs H Q
def SpK (sp : Sp) (ws : List V) (H : Hp) (xs : List (Key × V)) : Prop := ∀ H1, Ex H H1 → ∀ Q : VK, (∀ p H2, H1 p = none → Ex H1 H2 → H2 p = some (.dK xs) → Q (.ref p) H2) → ∀ E : XK, sp ws H1 Q E
theorem sk_of {R : List V → Hp → List (Key × V) → Prop} {ws : List V} {xs : List (Key × V)} (h : ∀ H1, Ex H H1 → R ws H1 xs) : SpK (spK R) ws H xs := fun H1 e Q q _ => ⟨xs, h H1 e, q⟩
theorem ek_call {sp : Sp} {dvs ws : List V} {xs : List (Key × V)} {E : XK} {ta : TA} (h : EvA ta σ H ws) (hs : SpK sp (ws ++ dvs) H xs) : EvK (tCall sp dvs E ta) σ H xs := fun H1 e Q q =>
  h H1 e _ fun H2 e2 => hs H2 (e.trans e2) Q (fun p H3 hp e3 h3 => q p H3 (fresh_back e2 hp) (e2.trans e3) h3) E
theorem RetK.go {xs : List (Key × V)} {Q : VK} {H' : Hp} (k : RetK xs H Q) (e : Ex H H') {p : Addr} {H2 : Hp} (hp : H' p = none) (e2 : Ex H' H2) (h : H2 p = some (.dK xs)) : Q (.ref p) H2 := k p H2 (fresh_back e hp) (e.trans e2) h
theorem retK_T {b : Bool} {x y : List (Tx × α)} {Q : VK} (k : RetK (kd f (if b = true then x else y)) H Q) (hb : b = true) : RetK (kd f x) H Q := by
  rw [if_pos hb] at k
  exact k
theorem retK_F {b : Bool} {x y : List (Tx × α)} {Q : VK} (k : RetK (kd f (if b = true then x else y)) H Q) (hb : b = false) : RetK (kd f y) H Q := by
  rw [hb, if_neg Bool.false_ne_true] at k
  exact k
theorem retK_run {S : Type} {o : Stp S (List (Tx × α))} {g : S → List (Tx × α)} {r : List (Tx × α)} {Q : VK} (k : RetK (kd f (aftL o g)) H Q) (h : o = .ret r) : RetK (kd f r) H Q := by
  rw [h] at k
  exact k
theorem retK_go {S : Type} {o : Stp S (List (Tx × α))} {g : S → List (Tx × α)} {s : S} {Q : VK} (k : RetK (kd f (aftL o g)) H Q) (h : o = .go s ∨ o = .brk s) : RetK (kd f (g s)) H Q := by
  rcases h with h | h
  · rw [h] at k
    exact k
  · rw [h] at k
    exact k
end
end Vf

/-! Own layer, further: lists of tuples of texts. -/
namespace Vf
open PySem PySem.Spec PyProof.Rows L2 TL Evl LiI
/-- no tuple stands there -/
def NT : HO → Prop
  | .lst _ => True
  | .dK _ => True
  | .frz _ (.dK _) => True
  | .frz _ (.lst _) => True
  | .ins _ _ _ => True
  | _ => False
section
variable {K : PySem.W.Frag} {H H1 H2 : Hp} {p t : Addr} {q : List V} {o X : HO}
theorem sqt_upd (hp : H p = some o) (nt : NT o) (h : SqT K H t q) : SqT K (upd H p X) t q := by
  rcases h with h | h
  · have ne : t ≠ p := fun z => by
      subst z
      rcases h with h | ⟨w, h⟩
      · rw [hp] at h
        cases h
        exact nt
      · rw [hp] at h
        cases h
        exact nt
    rcases h with h | ⟨w, h⟩
    · exact Or.inl (Or.inl (upd_keep ne h))
    · exact Or.inl (Or.inr ⟨w, upd_keep ne h⟩)
  · exact Or.inr h
theorem Mu.tup (m : Mu H p X H1) (hp : H p = some o) (nt : NT o) (h : SqT K H t q) : SqT K H1 t q := by
  obtain ⟨H2, e, rfl⟩ := m
  exact sqt_upd (e p _ hp) nt (ex_t e h)
abbrev TupsAt (K : PySem.W.Frag) (H : Hp) : List Addr → List (List V) → Prop := Paired fun t q => SqT K H t q
theorem tups_mono {ts : List Addr} {l : List (List V)} (f : ∀ t q, SqT K H t q → SqT K H2 t q) (h : TupsAt K H ts l) : TupsAt K H2 ts l := Paired.mapP h f
/-- a list of tuples at p -/
def IsLU (K : PySem.W.Frag) (H : Hp) (p : Addr) (l : List (List V)) : Prop := ∃ ts, H p = some (.lst (ts.map V.ref)) ∧ TupsAt K H ts l
theorem IsLU.ex {l : List (List V)} (h : IsLU K H p l) (e : Ex H H2) : IsLU K H2 p l := by
  obtain ⟨ts, a, b⟩ := h
  exact ⟨ts, e p _ a, tups_mono (fun _ _ => ex_t e) b⟩
theorem IsLU.mu {l : List (List V)} {r : Addr} (h : IsLU K H p l) (m : Mu H r X H1) (hne : p ≠ r) (hr : H r = some o) (nt : NT o) : IsLU K H1 p l := by
  obtain ⟨ts, a, b⟩ := h
  exact ⟨ts, m.keep hne a, tups_mono (fun _ _ => m.tup hr nt) b⟩
theorem IsLU.upd {l : List (List V)} {r : Addr} (h : IsLU K H p l) (hne : p ≠ r) (hr : H r = some o) (nt : NT o) : IsLU K (upd H r X) p l := by
  obtain ⟨ts, a, b⟩ := h
  exact ⟨ts, upd_keep hne a, tups_mono (fun _ _ => sqt_upd hr nt) b⟩
theorem IsLU.ne {l : List (List V)} {r : Addr} (h : IsLU K H p l) (n : H r = none) : p ≠ r := by
  obtain ⟨ts, a, _⟩ := h
  exact ne_of_none a n
theorem IsLU.sq {l : List (List V)} (h : IsLU K H p l) : ∃ ts, SqL K H p (ts.map V.ref) ∧ TupsAt K H ts l := by
  obtain ⟨ts, a, b⟩ := h
  exact ⟨ts, sq_of a, b⟩
end
section
variable {K : PySem.W.Frag} {σ : L2.St} {H H' : Hp} {ta tb te td : TE} {D : Ends} {tz : TS} {l l2 : List (List V)} {d p : Addr} {α : Type} {f : α → V} {m : List (Tx × α)}
/-- a new list of tuples -/
def EvU2 (K : PySem.W.Frag) (te : TE) (σ : L2.St) (H : Hp) (l : List (List V)) : Prop := ∀ H1, Ex H H1 → ∀ Q : VK, (∀ p H2, H1 p = none → Ex H1 H2 → IsLU K H2 p l → Q (.ref p) H2) → te σ H1 Q
theorem eu2_is (h : EvU2 K te σ H l) (e : l = l2) : EvU2 K te σ H l2 := e ▸ h
theorem s_asgU2 {i : Nat} (h : EvU2 K te σ H l) (k : ∀ p H1, H p = none → Ex H H1 → IsLU K H1 p l → D.nx (σ.set i (some (.ref p))) H1) : tAsg te (gName i) D σ H := h H (Ex.refl H) _ fun p H1 hp e h1 => k p H1 hp e h1
theorem q_asgU2 {i : Nat} (h : EvU2 K te σ H l) (k : ∀ p H1, H p = none → Ex H H1 → IsLU K H1 p l → tz D (σ.set i (some (.ref p))) H1) : tSeq (tAsg te (gName i)) tz D σ H := s_asgU2 (D := { D with nx := tz D }) h k
/-- list(d.items()), texts to texts -/
def ditems (m : List (Tx × Tx)) : List (List Tx) := m.map fun q => [q.1, q.2]
theorem u_items {m : List (Tx × Tx)} (hd : Ev td σ H (.ref d)) (h : H d = some (.dK (kd vs m))) : EvU2 K (tListItems td) σ H ((ditems m).map (List.map vs)) := fun H1 e Q q =>
  hd H1 e _ fun H2 e2 => ⟨d, kd vs m, rfl, (e.trans e2) d _ h, fun H3 p ts e3 np nts hp hl hpr => q p H3 (fresh_back e2 np) (e2.trans e3) ⟨ts, hl, by
    have e4 : (ditems m).map (List.map vs) = (kd vs m).map fun q => [kV q.1, q.2] := by
      unfold ditems kd
      rw [List.map_map, List.map_map]
      rfl
    rw [e4]
    clear hl nts hp
    revert hpr
    generalize kd vs m = kvs
    intro hpr
    induction hpr with
    | nil => exact .nil
    | cons a _ ih => exact .cons (st_of a) ih⟩⟩
/-- two lists of tuples of texts that are equal -/
def okT (p : Tx) : Prop := ∀ c ∈ p, c < 1114112
def duD (l : List (List Tx)) : PyData := .list (l.map fun q => .tuple (q.map fun p => .str (mk p)))
theorem dp_strs : ∀ q : List Tx, DpAll K H (q.map vs) (q.map fun p => PyData.str (mk p))
  | [] => .nil
  | p :: r => .cons (.str _) (dp_strs r)
theorem dp_tups {ts : List Addr} {l : List (List Tx)} (h : TupsAt K H ts (l.map (List.map vs))) : DpAll K H (ts.map V.ref) (l.map fun q => PyData.tuple (q.map fun p => .str (mk p))) := by
  induction l generalizing ts with
  | nil =>
    cases h
    exact .nil
  | cons q r ih =>
    cases h with
    | cons a b => exact .cons (.tup a (dp_strs q)) (ih b)
theorem dp_LU {l : List (List Tx)} (h : IsLU K H p (l.map (List.map vs))) : Dp K H (.ref p) (duD l) := by
  obtain ⟨ts, a, b⟩ := h
  exact .lst (sq_of a) (dp_tups b)
theorem lay_strs : ∀ {q : List Tx}, (∀ p ∈ q, okT p) → PyData.canLayAll0 (q.map fun p => PyData.str (mk p)) = true ∧ PyData.depthAll (q.map fun p => PyData.str (mk p)) = 0
  | [], _ => ⟨rfl, rfl⟩
  | p :: r, h => by
    obtain ⟨a, b⟩ := lay_strs (q := r) fun x hx => h x (List.mem_cons_of_mem _ hx)
    have hp := h p List.mem_cons_self
    refine ⟨?_, ?_⟩
    · show (PyData.canLay0 (.str (mk p)) && PyData.canLayAll0 _) = true
      rw [a, Bool.and_true]
      show (p.toArray.all (· < 0x110000)) = true
      rw [List.all_toArray]
      exact List.all_eq_true.mpr fun c hc => decide_eq_true (hp c hc)
    · show max 0 (PyData.depthAll _) = 0
      rw [b]
      rfl
theorem lay_tups : ∀ {l : List (List Tx)}, (∀ q ∈ l, ∀ p ∈ q, okT p) → PyData.canLayAll0 (l.map fun q => PyData.tuple (q.map fun p => .str (mk p))) = true ∧ PyData.depthAll (l.map fun q => PyData.tuple (q.map fun p => .str (mk p))) ≤ 1
  | [], _ => ⟨rfl, by decide⟩
  | q :: r, h => by
    obtain ⟨a, b⟩ := lay_tups (l := r) fun x hx => h x (List.mem_cons_of_mem _ hx)
    obtain ⟨a2, b2⟩ := lay_strs (h q List.mem_cons_self)
    refine ⟨?_, ?_⟩
    · show (PyData.canLayAll0 _ && PyData.canLayAll0 _) = true
      rw [a, Bool.and_true]
      exact a2
    · show max (PyData.depthAll _ + 1) (PyData.depthAll _) ≤ 1
      rw [b2]
      omega
theorem shaped_LU {l : List (List Tx)} (h : ∀ q ∈ l, ∀ p ∈ q, okT p) : SeqAt.shaped (duD l) = true := by
  obtain ⟨a, b⟩ := lay_tups h
  show ((PyData.canLayAll0 _) && decide (PyData.depthAll _ + 1 ≤ 64)) = true
  rw [a, Bool.true_and]
  exact decide_eq_true (by omega)
theorem e_eqLU {l l2 : List (List Tx)} (ha : EvU2 K ta σ H (l.map (List.map vs))) (hb : Ev tb σ H (.ref p)) (h : IsLU K H p (l2.map (List.map vs))) (e : l = l2) (ok : ∀ q ∈ l, ∀ p ∈ q, okT p) : Ev (tOp (rEqD K) ta tb) σ H (.bl true) := fun H1 e1 Q q =>
  ha H1 e1 _ fun r H2 _ e2 hr => hb H2 (e1.trans e2) _ fun H3 e3 => ⟨duD l, duD l, dp_LU (hr.ex e3), by
    rw [e]
    exact dp_LU (h.ex ((e1.trans e2).trans e3)), shaped_LU ok, shaped_LU ok, by
    rw [SeqAt.eqv_refl (duD l) (SeqAt.canLay_of_shaped (shaped_LU ok))]
    exact q H3 (e2.trans e3)⟩
theorem op_eqDK {X : Cx} (K : PySem.W.Frag) (hu : X.A.units + 64 < cLine) (h : X.K = K := by rfl) : OpR X (compareOp .Eq) (rEqD K) := h ▸ op_eqD hu
end
end Vf

/-! Own layer, the plain mathematics: dicts as rows of pairs, walks that hold a thing. -/
namespace Vf
section
variable {α β S R : Type}
theorem dkeys_len (l : List (Tx × α)) : (dkeys l).length = l.length := List.length_map _
theorem dkeys_app (l m : List (Tx × α)) : dkeys (l ++ m) = dkeys l ++ dkeys m := List.map_append
theorem mem_keys {l : List (Tx × α)} {q : Tx × α} (h : q ∈ l) : q.1 ∈ dkeys l := List.mem_map_of_mem h
theorem any_iff (l : List (Tx × α)) (k : Tx) : (l.any fun p => decide (p.1 = k)) = true ↔ k ∈ dkeys l := by
  rw [List.any_eq_true]
  constructor
  · rintro ⟨p, hp, e⟩
    rw [← of_decide_eq_true e]
    exact mem_keys hp
  · intro h
    obtain ⟨p, hp, e⟩ := List.mem_map.mp h
    exact ⟨p, hp, decide_eq_true e⟩
theorem get_cons (p : Tx × α) (r : List (Tx × α)) (k : Tx) : dget (p :: r) k = if p.1 = k then some p.2 else dget r k := by
  unfold dget
  rw [List.find?_cons]
  by_cases h : p.1 = k
  · rw [if_pos h, decide_eq_true h]
    rfl
  · rw [if_neg h, decide_eq_false h]
theorem has_iff (l : List (Tx × α)) (k : Tx) : dhas l k = true ↔ k ∈ dkeys l := by
  unfold dhas
  induction l with
  | nil => exact ⟨fun h => (by cases h), fun h => (by cases h)⟩
  | cons p r ih =>
    rw [get_cons]
    show _ ↔ k ∈ p.1 :: dkeys r
    by_cases h : p.1 = k
    · rw [if_pos h]
      exact ⟨fun _ => by rw [h]; exact List.mem_cons_self, fun _ => rfl⟩
    · rw [if_neg h, ih, List.mem_cons]
      exact ⟨Or.inr, fun z => z.resolve_left fun e => h e.symm⟩
theorem has_dec (l : List (Tx × α)) (k : Tx) : dhas l k = decide (k ∈ dkeys l) := by
  by_cases h : k ∈ dkeys l
  · rw [decide_eq_true h, (has_iff l k).mpr h]
  · rw [decide_eq_false h]
    cases e : dhas l k with
    | false => rfl
    | true => exact absurd ((has_iff l k).mp e) h
theorem get_none {l : List (Tx × α)} {k : Tx} (h : k ∉ dkeys l) : dget l k = none := by
  have := has_dec l k
  rw [decide_eq_false h] at this
  unfold dhas at this
  exact Option.isNone_iff_eq_none.mp (by rw [← Option.not_isSome, this]; rfl)
theorem get_mem {l : List (Tx × α)} {k : Tx} {v : α} (h : dget l k = some v) : (k, v) ∈ l := by
  induction l with
  | nil => cases h
  | cons p r ih =>
    rw [get_cons] at h
    by_cases e : p.1 = k
    · rw [if_pos e] at h
      cases h
      rw [← e]
      exact List.mem_cons_self
    · rw [if_neg e] at h
      exact List.mem_cons_of_mem _ (ih h)
theorem get_of {l : List (Tx × α)} (hn : (dkeys l).Nodup) {q : Tx × α} (h : q ∈ l) : dget l q.1 = some q.2 := by
  induction l with
  | nil => cases h
  | cons p r ih =>
    rw [get_cons]
    have hn2 : (p.1 :: dkeys r).Nodup := hn
    rw [List.nodup_cons] at hn2
    rcases List.mem_cons.mp h with e | e
    · rw [e, if_pos rfl]
    · rw [if_neg (fun z => hn2.1 (by rw [z]; exact mem_keys e))]
      exact ih hn2.2 e
theorem put_new {l : List (Tx × α)} {k : Tx} {v : α} (h : k ∉ dkeys l) : dput l k v = l ++ [(k, v)] := by
  unfold dput
  rw [if_neg fun z => h ((any_iff l k).mp z)]
theorem put_old {l : List (Tx × α)} {k : Tx} {v : α} (h : k ∈ dkeys l) : dput l k v = l.map (fun p => if p.1 = k then (p.1, v) else p) := by
  unfold dput
  rw [if_pos ((any_iff l k).mpr h)]
theorem keys_put (l : List (Tx × α)) (k : Tx) (v : α) : dkeys (dput l k v) = if k ∈ dkeys l then dkeys l else dkeys l ++ [k] := by
  by_cases h : k ∈ dkeys l
  · rw [if_pos h, put_old h]
    unfold dkeys
    rw [List.map_map]
    apply List.map_congr_left
    intro p _
    show (if p.1 = k then (p.1, v) else p).1 = p.1
    split <;> rfl
  · rw [if_neg h, put_new h, dkeys_app]
    rfl
theorem mem_keys_put {l : List (Tx × α)} {k j : Tx} {v : α} : j ∈ dkeys (dput l k v) ↔ j = k ∨ j ∈ dkeys l := by
  rw [keys_put]
  by_cases h : k ∈ dkeys l
  · rw [if_pos h]
    exact ⟨Or.inr, fun z => z.elim (fun e => by rw [e]; exact h) id⟩
  · rw [if_neg h, List.mem_append, List.mem_singleton, or_comm]
theorem nodup_put {l : List (Tx × α)} {k : Tx} {v : α} (h : (dkeys l).Nodup) : (dkeys (dput l k v)).Nodup := by
  rw [keys_put]
  by_cases hk : k ∈ dkeys l
  · rw [if_pos hk]
    exact h
  · rw [if_neg hk, List.nodup_append]
    exact ⟨h, List.nodup_cons.mpr ⟨by simp, List.nodup_nil⟩, fun a ha b hb e => hk (by rw [← List.mem_singleton.mp hb, ← e]; exact ha)⟩
theorem put_len (l : List (Tx × α)) (k : Tx) (v : α) : (dput l k v).length ≤ l.length + 1 := by
  rw [← dkeys_len, keys_put]
  split
  · rw [dkeys_len]; omega
  · rw [List.length_append, dkeys_len]; exact Nat.le_refl _
theorem mem_put {l : List (Tx × α)} {k : Tx} {v : α} {q : Tx × α} (h : q ∈ dput l k v) : q = (k, v) ∨ q ∈ l := by
  by_cases hk : k ∈ dkeys l
  · rw [put_old hk] at h
    obtain ⟨p, hp, e⟩ := List.mem_map.mp h
    by_cases e2 : p.1 = k
    · rw [if_pos e2] at e
      rw [← e, e2]
      exact Or.inl rfl
    · rw [if_neg e2] at e
      rw [← e]
      exact Or.inr hp
  · rw [put_new hk] at h
    rcases List.mem_append.mp h with e | e
    · exact Or.inr e
    · exact Or.inl (List.mem_singleton.mp e)
theorem get_app (l m : List (Tx × α)) (k : Tx) : dget (l ++ m) k = (dget l k).or (dget m k) := by
  induction l with
  | nil => simp [dget]
  | cons p r ih =>
    rw [List.cons_append, get_cons, get_cons, ih]
    split <;> rfl
theorem get_put (l : List (Tx × α)) (k : Tx) (v : α) (j : Tx) : dget (dput l k v) j = if j = k then some v else dget l j := by
  by_cases hk : k ∈ dkeys l
  · rw [put_old hk]
    induction l with
    | nil => cases hk
    | cons p r ih =>
      rw [List.map_cons, get_cons, get_cons]
      by_cases h1 : p.1 = k
      · rw [if_pos h1]
        by_cases h2 : j = k
        · rw [if_pos h2, if_pos (by rw [h1, h2])]
        · rw [if_neg h2, if_neg (fun z => h2 (by rw [← z]; exact h1)), if_neg (fun z => h2 (by rw [← z, h1]))]
          by_cases h3 : k ∈ dkeys r
          · rw [ih h3, if_neg h2]
          · have : r.map (fun p => if p.1 = k then (p.1, v) else p) = r := by
              conv => rhs; rw [← List.map_id r]
              apply List.map_congr_left
              intro q hq
              exact if_neg fun z => h3 (by rw [← z]; exact mem_keys hq)
            rw [this]
      · rw [if_neg h1]
        have hk2 : k ∈ dkeys r := (List.mem_cons.mp (show k ∈ p.1 :: dkeys r from hk)).resolve_left fun e => h1 e.symm
        rw [ih hk2]
        by_cases h2 : p.1 = j
        · rw [if_pos h2, if_pos h2, if_neg (fun z => h1 (by rw [h2, z]))]
        · rw [if_neg h2, if_neg h2]
  · rw [put_new hk, get_app]
    by_cases h2 : j = k
    · rw [if_pos h2, h2, get_none hk, get_cons, if_pos rfl]
      rfl
    · rw [if_neg h2, get_cons, if_neg (fun z => h2 z.symm)]
      cases dget l j <;> rfl
theorem keys_del (l : List (Tx × α)) (k : Tx) : dkeys (ddel l k) = (dkeys l).filter (fun j => decide (j ≠ k)) := by
  unfold dkeys ddel
  rw [List.filter_map]
  rfl
theorem mem_keys_del {l : List (Tx × α)} {k j : Tx} : j ∈ dkeys (ddel l k) ↔ j ∈ dkeys l ∧ j ≠ k := by
  rw [keys_del, List.mem_filter, decide_eq_true_eq]
theorem nodup_del {l : List (Tx × α)} {k : Tx} (h : (dkeys l).Nodup) : (dkeys (ddel l k)).Nodup := by
  rw [keys_del]
  exact h.filter _
theorem mem_del {l : List (Tx × α)} {k : Tx} {q : Tx × α} (h : q ∈ ddel l k) : q ∈ l := (List.mem_filter.mp h).1
theorem del_len (l : List (Tx × α)) (k : Tx) : (ddel l k).length ≤ l.length := List.length_filter_le _ _
theorem get_del (l : List (Tx × α)) (k j : Tx) : dget (ddel l k) j = if j = k then none else dget l j := by
  induction l with
  | nil =>
    show none = _
    split <;> rfl
  | cons p r ih =>
    rw [get_cons]
    by_cases h : p.1 = k
    · have e : ddel (p :: r) k = ddel r k := by
        unfold ddel
        rw [List.filter_cons, decide_eq_false (fun z => z h), if_neg Bool.false_ne_true]
      rw [e, ih]
      by_cases h2 : j = k
      · rw [if_pos h2, if_pos h2]
      · rw [if_neg h2, if_neg h2, if_neg (fun z => h2 (by rw [← z, h]))]
    · have e : ddel (p :: r) k = p :: ddel r k := by
        unfold ddel
        rw [List.filter_cons, decide_eq_true (p := p.1 ≠ k) h, if_pos rfl]
      rw [e, get_cons, ih]
      by_cases h2 : j = k
      · rw [if_pos h2, if_pos h2, if_neg (fun z => h (by rw [z, h2]))]
      · rw [if_neg h2, if_neg h2]
theorem del_same {l : List (Tx × α)} {k : Tx} (h : k ∉ dkeys l) : ddel l k = l := by
  unfold ddel
  rw [List.filter_eq_self]
  intro p hp
  exact decide_eq_true fun z => h (by rw [← z]; exact mem_keys hp)
theorem del_cons {p : Tx × α} {r : List (Tx × α)} (h : p.1 ∉ dkeys r) : ddel (p :: r) p.1 = r := by
  have e : ddel (p :: r) p.1 = ddel r p.1 := by
    unfold ddel
    rw [List.filter_cons, decide_eq_false (fun z => z rfl), if_neg Bool.false_ne_true]
  rw [e, del_same h]
/-! ## walks -/
theorem fold_inv {f : S → β → S} {I : S → Prop} : ∀ {ys : List β} {s : S}, I s → (∀ s y, y ∈ ys → I s → I (f s y)) → I (ys.foldl f s)
  | [], _, h, _ => h
  | y :: r, s, h, hs => fold_inv (ys := r) (hs s y List.mem_cons_self h) fun s2 z hz => hs s2 z (List.mem_cons_of_mem _ hz)
theorem out_all [Inhabited S] {step : S → β → Stp S Unit} {g : S → β → S} (hf : ∀ s y, step s y = .go (g s y)) (l : List β) (s : S) : outL (runL step l s) = l.foldl g s := by
  rw [runL_all step g hf]
  rfl
theorem run_is {step : S → β → Stp S R} {g : S → β → S} (hf : ∀ s y, step s y = .go (g s y)) {l : List β} {s0 s : S} (h : runL step l s0 = .go s) : s = l.foldl g s0 := by
  rw [runL_all step g hf] at h
  exact (Stp.go.inj h).symm
theorem run_inv {step : S → β → Stp S R} {g : S → β → S} (hf : ∀ s y, step s y = .go (g s y)) {I : S → Prop} {l : List β} {i : Nat} {s0 s : S} (h : runL step (l.take i) s0 = .go s) (h0 : I s0) (hs : ∀ s y, y ∈ l → I s → I (g s y)) : I s := by
  rw [run_is hf h]
  exact fold_inv h0 fun s y hy => hs s y (List.mem_of_mem_take hy)
/-- with the count of what has been walked -/
theorem fold_cnt {f : S → β → S} {I : Nat → S → Prop} {l : List β} {s0 : S} (h0 : I 0 s0) (hs : ∀ n s y, l[n]? = some y → I n s → I (n + 1) (f s y)) : ∀ i, i ≤ l.length → I i ((l.take i).foldl f s0)
  | 0, _ => by
    rw [List.take_zero]
    exact h0
  | i + 1, h => by
    have ih := fold_cnt h0 hs i (by omega)
    have e : l[i]? = some l[i] := List.getElem?_eq_getElem (by omega)
    rw [List.take_add_one, e, List.foldl_append]
    exact hs i _ _ e ih
theorem run_cnt {step : S → β → Stp S R} {g : S → β → S} (hf : ∀ s y, step s y = .go (g s y)) {I : Nat → S → Prop} {l : List β} {i : Nat} {s0 s : S} (h : runL step (l.take i) s0 = .go s) (hi : i ≤ l.length) (h0 : I 0 s0) (hs : ∀ n s y, l[n]? = some y → I n s → I (n + 1) (g s y)) : I i s := by
  rw [run_is hf h]
  exact fold_cnt h0 hs i hi
theorem out_cnt [Inhabited S] {step : S → β → Stp S Unit} {g : S → β → S} (hf : ∀ s y, step s y = .go (g s y)) {I : Nat → S → Prop} {l : List β} {s0 : S} (h0 : I 0 s0) (hs : ∀ n s y, l[n]? = some y → I n s → I (n + 1) (g s y)) : I l.length (outL (runL step l s0)) := by
  rw [out_all hf]
  have := fold_cnt (f := g) h0 hs l.length (Nat.le_refl _)
  rw [List.take_length] at this
  exact this
theorem fold_and (p : β → Bool) : ∀ (l : List β) (b : Bool), l.foldl (fun s y => s && !p y) b = (b && !l.any p)
  | [], b => by simp
  | y :: r, b => by
    rw [List.foldl_cons, fold_and p r, List.any_cons]
    cases b <;> cases p y <;> simp
theorem fold_puts [Inhabited α] {m : List (Tx × α)} (d : α) : ∀ {r l : List (Tx × α)}, (∀ q ∈ r, dget m q.1 = some q.2) → (dkeys (l ++ r)).Nodup → (dkeys r).foldl (fun s y => dput s y ((dget m y).getD d)) l = l ++ r
  | [], l, _, _ => by simp [dkeys]
  | p :: r, l, h, hn => by
    have hk : p.1 ∉ dkeys l := fun z => by
      rw [dkeys_app, List.nodup_append] at hn
      exact hn.2.2 _ z _ List.mem_cons_self rfl
    show (dkeys r).foldl _ (dput l p.1 ((dget m p.1).getD d)) = _
    rw [h p List.mem_cons_self, put_new hk]
    show (dkeys r).foldl _ (l ++ [p]) = _
    rw [fold_puts d (r := r) (l := l ++ [p]) (fun q hq => h q (List.mem_cons_of_mem _ hq)) (by rw [List.append_assoc]; exact hn), List.append_assoc]
    rfl
end
end Vf

/-! Own layer, exceptions: a list comprehension within an except suite. -/
namespace Vf
open PySem PySem.Spec PyProof.Rows L2 TL Evl HotX
section
variable {prog : Program} {w : World} {A : Around} {E : Value → Shared → Prop} {s : Shared}
/-- a list's iterator at its end, while an exception is handled -/
theorem lend_hot {it l x1 : Addr} {i : Nat} {items : Array Value} {Q : Option Value → Shared → Prop} (hot : HotAt A x1 s.heap) (hne : it ≠ x1) (hit : s.heap.IsListIter it l i) (hl : s.heap.IsList l items) (hx : items[i]? = none)
    (hQ : ∀ h', (∀ b o, b ≠ it → s.heap.get? b = some o → h'.get? b = some o) → Q none { s with heap := h' }) : wpAny (model prog w) A (pyNext (.ref it)) Q E s := by
  obtain ⟨o, ho, hc, hd⟩ := id hit
  obtain ⟨ol, hol, _, nl, hdl⟩ := hl
  obtain ⟨hh, o1, vs1, h1, d1, c1⟩ := hot
  unfold pyNext
  refine wpAny_bind (wpAny_attempt (wpAny_callSpecial?_slot (name := Str.ofString "__next__") hit.typeIs slot_listiter_next (wpAny_call_entry slot_listiter_next hit.typeIs entry_listiter_next ?_ (args_listiter_next _))))
  show wpAny _ _ (field (.ref it) 0 >>= _) _ _ s; refine wpAny_bind (wpAny_field ho hd (x := .ref l) rfl ?_); show wpAny _ _ (if (Value.ref l == Value.none) = true then _ else _) _ _ s; rw [if_neg (show ¬ ((Value.ref l == Value.none) = true) from Bool.false_ne_true)]
  show wpAny _ _ (field (.ref it) 1 >>= _) _ _ s; refine wpAny_bind (wpAny_field ho hd (x := .int i 0) rfl ?_); show wpAny _ _ (seqItems? (.ref l) >>= _) _ _ s; refine wpAny_bind (wpAny_seqItems hol hdl ?_)
  simp only [Int.toNat_natCast, hx]; refine wpAny_bind (wpAny_rule (wpAny_bind (wpAny_setField ho hd (by simp) ?_)))
  have h1b : (s.heap.update it (Obj.mapFields (·.setIfInBounds 0 .none))).get? x1 = some o1 := (Heap.get?_update_other _ _ hne).trans h1
  show wpAny _ _ (newExc (.type "StopIteration") [] >>= _) _ _ _; refine wpAny_bind ?_; simp only [newExc, newTuple]; refine wpAny_bind (wpAny_newObj_type ?_ (by size_fits))
  refine wpAny_bind (m := firstArgMember _ _) (wpAny_of_eq (a := Value.none) (by first | rfl | (simp only [firstArgMember]; rfl)) ?_); refine wpAny_newObj_type ?_ (by size_fits)
  refine raiseNew_hot ⟨hh, o1, vs1, Heap.get?_push_of_some _ (Heap.get?_push_of_some _ h1b), d1, c1⟩ (Nat.ne_of_lt (Heap.lt_size (Heap.get?_push_of_some _ h1b))) (Heap.get?_push_size _ rfl) rfl (by first | (simp; done) | (simp; omega) | (simp only [Array.size_append]; simp; omega)) ?_
  refine wpAny_bind (wpAny_isInstance (T := "StopIteration") (b := true) ⟨_, Heap.get?_update_self _ (Heap.get?_push_size _ rfl) rfl, rfl⟩ isSubtype_stop ?_)
  refine wpAny_pure (hQ _ fun b o2 hb e => ?_)
  have e2 : (s.heap.update it (Obj.mapFields (·.setIfInBounds 0 .none))).get? b = some o2 := (Heap.get?_update_other _ _ (Ne.symm hb)).trans e
  exact (Heap.get?_update_other _ _ (Nat.ne_of_gt (Heap.lt_size (Heap.get?_push_of_some _ e2)))).trans (Heap.get?_push_of_some _ (Heap.get?_push_of_some _ e2))
/-- a tuple's iterator at its end -/
theorem tend_hot {it t x1 : Addr} {i : Nat} {items : Array Value} {Q : Option Value → Shared → Prop} (hot : HotAt A x1 s.heap) (hne : it ≠ x1) (hit : IsTupIter s.heap it t i) (ht : IsTup s.heap t items) (hx : items[i]? = none)
    (hQ : ∀ h', (∀ b o, b ≠ it → s.heap.get? b = some o → h'.get? b = some o) → Q none { s with heap := h' }) : wpAny (model prog w) A (pyNext (.ref it)) Q E s := by
  obtain ⟨o, ho, hc, hd⟩ := id hit
  obtain ⟨ol, hol, _, nl, hdl⟩ := ht
  obtain ⟨hh, o1, vs1, h1, d1, c1⟩ := hot
  unfold pyNext
  refine wpAny_bind (wpAny_attempt (wpAny_callSpecial?_slot (name := Str.ofString "__next__") hit.typeIs slot_tupleiter_next (wpAny_call_entry slot_tupleiter_next hit.typeIs entry_tupleiter_next ?_ (args_tupleiter_next _))))
  show wpAny _ _ (field (.ref it) 0 >>= _) _ _ s; refine wpAny_bind (wpAny_field ho hd (x := .ref t) rfl ?_); show wpAny _ _ (if (Value.ref t == Value.none) = true then _ else _) _ _ s; rw [if_neg (show ¬ ((Value.ref t == Value.none) = true) from Bool.false_ne_true)]
  show wpAny _ _ (field (.ref it) 1 >>= _) _ _ s; refine wpAny_bind (wpAny_field ho hd (x := .int i 0) rfl ?_); show wpAny _ _ (seqItems? (.ref t) >>= _) _ _ s; refine wpAny_bind (wpAny_seqItems hol hdl ?_)
  simp only [Int.toNat_natCast, hx]; refine wpAny_bind (wpAny_rule (wpAny_bind (wpAny_setField ho hd (by simp) ?_)))
  have h1b : (s.heap.update it (Obj.mapFields (·.setIfInBounds 0 .none))).get? x1 = some o1 := (Heap.get?_update_other _ _ hne).trans h1
  show wpAny _ _ (newExc (.type "StopIteration") [] >>= _) _ _ _; refine wpAny_bind ?_; simp only [newExc, newTuple]; refine wpAny_bind (wpAny_newObj_type ?_ (by size_fits))
  refine wpAny_bind (m := firstArgMember _ _) (wpAny_of_eq (a := Value.none) (by first | rfl | (simp only [firstArgMember]; rfl)) ?_); refine wpAny_newObj_type ?_ (by size_fits)
  refine raiseNew_hot ⟨hh, o1, vs1, Heap.get?_push_of_some _ (Heap.get?_push_of_some _ h1b), d1, c1⟩ (Nat.ne_of_lt (Heap.lt_size (Heap.get?_push_of_some _ h1b))) (Heap.get?_push_size _ rfl) rfl (by first | (simp; done) | (simp; omega) | (simp only [Array.size_append]; simp; omega)) ?_
  refine wpAny_bind (wpAny_isInstance (T := "StopIteration") (b := true) ⟨_, Heap.get?_update_self _ (Heap.get?_push_size _ rfl) rfl, rfl⟩ isSubtype_stop ?_)
  refine wpAny_pure (hQ _ fun b o2 hb e => ?_)
  have e2 : (s.heap.update it (Obj.mapFields (·.setIfInBounds 0 .none))).get? b = some o2 := (Heap.get?_update_other _ _ (Ne.symm hb)).trans e
  exact (Heap.get?_update_other _ _ (Nat.ne_of_gt (Heap.lt_size (Heap.get?_push_of_some _ e2)))).trans (Heap.get?_push_of_some _ (Heap.get?_push_of_some _ e2))
theorem hot_keep {x1 : Addr} {h h2 : Heap} (hot : HotAt A x1 h) (k : ∀ b o, h.get? b = some o → h2.get? b = some o) : HotAt A x1 h2 := by
  obtain ⟨hh, o1, vs1, h1, d1, c1⟩ := hot
  exact ⟨hh, o1, vs1, k _ _ h1, d1, c1⟩
theorem hot_lt {x1 : Addr} {h : Heap} (hot : HotAt A x1 h) : x1 < h.objs.size := by
  obtain ⟨hh, o1, vs1, h1, d1, c1⟩ := hot
  exact Heap.lt_size h1
/-- a, b = t within an except suite -/
theorem unpack_hot {t x1 : Addr} {items : Array Value} {targets : List (Bool × (Value → Sem Unit))} {Q : Unit → Shared → Prop} (hot : HotAt A x1 s.heap) (ht : IsTup s.heap t items) (hn : targets.length = items.size) (hstar : targets.findIdx? (·.1) = none)
    (h : ∀ h', (∀ b o, s.heap.get? b = some o → h'.get? b = some o) → wpAny (model prog w) A (assignInOrder (targets.map (·.2)) items.toList) Q E { s with heap := h' }) : wpAny (model prog w) A (unpack (.ref t) targets) Q E s := by
  have hlt : t ≠ s.heap.objs.size := by obtain ⟨o, ho, _⟩ := ht; exact Nat.ne_of_lt (Heap.lt_size ho)
  have hx1 := hot_lt hot
  unfold unpack; rw [hn, hstar]
  refine wpAny_bind (wpAny_holding ?_)
  unfold unpackItems; refine wpAny_bind ?_; unfold notIterableAtAll
  refine wpAny_bind (wpAny_specialOf ht.typeIs slot_tuple_iter.lookup (wpAny_pure ?_))
  simp only [Bool.false_eq_true, if_false]; refine wpAny_bind (wpAny_holding (iter_tuple ht ?_))
  refine wpAny_bind (wpAny_holding (draw_tuple hlt items.size 0 _ _ ⟨_, Heap.get?_push_size _ rfl, rfl, rfl⟩ (ht.push _) (by omega) fun h3 hit3 hs3 => ?_))
  have hall : List.take items.size (List.drop 0 items.toList) = items.toList := (by rw [List.drop_zero]; exact List.take_of_length_le (by simp))
  rw [hall, if_neg (by simp)]
  have ht3 : IsTup h3 t items := (ht.push _).extBut hs3.extBut hlt
  have k3 : ∀ b o, s.heap.get? b = some o → h3.get? b = some o := fun b o e => hs3.extBut b o (Nat.ne_of_lt (Heap.lt_size e)) (Heap.get?_push_of_some _ e)
  refine wpAny_bind (wpAny_holding (tend_hot (s := { s with heap := h3 }) (hot_keep hot k3) (Nat.ne_of_gt hx1) hit3 ht3 (by simp) fun h4 he4 => ?_))
  simp only [Option.isSome_none, Bool.false_eq_true, if_false]
  exact wpAny_pure (h h4 fun b o e => he4 b o (Nat.ne_of_lt (Heap.lt_size e)) (k3 b o e))
end

section
variable {X : Cx}
theorem hot_pin {p : Addr × Obj} {pins : List (Addr × Obj)} {σ : L2.St} {H : Hp} {s : Shared} (h : L2H.Hot1 X.A p) (I : Inv X pins σ H s) (hp : p ∈ X.pn ++ pins) : HotAt X.A p.1 s.heap := by
  obtain ⟨hh, v1, e1, c1⟩ := h
  exact ⟨hh, p.2, v1, (I.pin p hp).1, e1, c1⟩
/-- the context of a block within an except suite -/
abbrev blkH (X : Cx) (p : Addr × Obj) (s : Shared) (H : Hp) (scope : Scope) (cenv : Env) (fp : List Addr) : Cx := { X.blk s H scope cenv fp with pn := [p] }
theorem inv_pn {X : Cx} {p : Addr × Obj} {s0 : Shared} {H0 : Hp} {scope : Scope} {cenv : Env} {fp : List Addr} {σ : L2.St} {H : Hp} {s : Shared} (I : Inv (X.blk s0 H0 scope cenv fp) [p] σ H s) : Inv (blkH X p s0 H0 scope cenv fp) [] σ H s :=
  ⟨⟨I.ok.mod, I.ok.kind, I.ok.glob, I.ok.blt, I.ok.above, I.ok.inj, I.ok.has, I.ok.cab, I.ok.hd, I.ok.frames, I.ok.stk, I.ok.exf, I.ok.bs, I.ok.bsz, I.ok.noex, I.ok.exfs, I.ok.funs, I.ok.frf⟩, I.os, I.bare, I.base, I.loc, I.cell, I.free, I.freeC, I.pin, I.hok, I.len⟩
/-- (a, b, ..) = a tuple, within an except suite -/
theorem pg_tupH {es : List Expr} {k n : Nat} {t : TGs} {pos : Pos} (hc : L2H.HotC X) (h : PGs X es t) (hn : (assignEach es X.env).length = n := by rfl) (hst : (assignEach es X.env).findIdx? (·.1) = none := by rfl) : PG X (.Tuple es k pos) (gTup X.K n t) := by
  refine ⟨fun pins s σ H v u Q I r hw => ?_⟩
  obtain ⟨x1, hot⟩ := hc.at I
  obtain ⟨a, xs, e1, hq, hl, hw⟩ := hw; subst e1; cases r
  obtain ⟨its, rv, ht, hz⟩ := I.tuple hq
  rw [PyProof.Rows.assign_Tuple]
  refine wpAny_bind (wpAny_standAt (unpack_hot hot ht (by simp [hn, ← hl, rv.length]) hst fun h2 hx => ?_))
  exact h.run pins _ σ H xs _ Q (I.kept (t' := s.toks) fun b o e => hx b o e) (by simpa using rv) hw
/-- the handled exception stays where it is while a block runs -/
theorem pin_blk {p : Addr × Obj} {pins : List (Addr × Obj)} {σ σ2 : L2.St} {H : Hp} {s s4 : Shared} {scope : Scope} {ce : Env} {fp : List Addr} (I : Inv X pins σ H s) (hp : p ∈ X.pn ++ pins) (J : Inv (X.blk s H scope ce fp) [] σ2 H s4)
    (k : ∀ b o, s.heap.get? b = some o → s4.heap.get? b = some o) (hL : s.heap.objs.size ≤ ce.locals) : Inv (X.blk s H scope ce fp) [p] σ2 H s4 :=
  J.pins_of fun q hq => by
    have e : q = p := List.mem_singleton.mp hq
    subst e
    obtain ⟨g, n, l, f, c⟩ := I.pin q hp
    refine ⟨k _ _ g, n, Nat.ne_of_lt (Nat.lt_of_lt_of_le (Heap.lt_size g) hL), ?_, c⟩
    show q.1 ∉ frs X.stack
    rcases I.ok.stk with e | ⟨e, ef⟩
    · rw [e]
      exact f
    · rw [e]
      intro hm
      obtain ⟨en, he, z⟩ := List.mem_filterMap.mp hm
      rcases List.mem_cons.mp he with e2 | e2
      · rw [e2, ef] at z
        exact l (Option.some.inj z).symm
      · exact f (List.mem_filterMap.mpr ⟨en, e2, z⟩)
/-- the list's iterator's turns while an exception is handled -/
theorem item_hot {tg : Expr} {a it : Addr} {i : Nat} {pins : List (Addr × Obj)} {s : Shared} {σ : L2.St} {H : Hp} {E : Value → Shared → Prop} (I : Inv X pins σ H s) (hf : FpOk X pins H it) (st : s.heap.IsListIter it a i) (hg : (Itl X.K a).go i H) :
    wpAny (model X.prog X.w) X.A (pyNext (.ref it)) (fun r s1 => ∃ u, r = some u ∧ wpAny (model X.prog X.w) X.A (letOwnedTupleGo tg (.ref it) u) (fun _ s2 => ∃ x, Inv X pins σ H s2 ∧ RelV x u ∧ (Itl X.K a).yld i H x H ∧ s2.heap.IsListIter it a (i + 1)) E s1) E s := by
  obtain ⟨xs, x, hq, hx⟩ := hg
  obtain ⟨its, rv, ph, hz⟩ := I.list hq
  obtain ⟨u, hu, ru⟩ := rv.get hx
  obtain ⟨f0, f1, f2, f3, f4, f5⟩ := hf
  refine wpAny_pyNext_list_item st ph.isList (x := u) (by simpa using hu) fun h2 st2 sb => ?_
  have J : Inv X pins σ H { s with heap := h2 } := I.turned (t' := s.toks) (fun b o hb e => (sb.2 b hb).trans e) f0 f1 f3 f4 f5
  obtain ⟨o, e, c, d⟩ := id st2
  exact ⟨u, rfl, go_of (s := { s with heap := h2 }) e c d (by decide) ⟨x, J, ru, ⟨rfl, fun ys hy => by rw [I.list_inj hy hq]; exact hx⟩, st2⟩⟩
theorem done_hot {a it x1 : Addr} {i : Nat} {pins : List (Addr × Obj)} {s : Shared} {σ : L2.St} {H : Hp} {E : Value → Shared → Prop} (hot : HotAt X.A x1 s.heap) (hne : it ≠ x1) (I : Inv X pins σ H s) (hf : FpOk X pins H it) (st : s.heap.IsListIter it a i) (hg : (Itl X.K a).stop i H) :
    wpAny (model X.prog X.w) X.A (pyNext (.ref it)) (fun r s1 => r = none ∧ Inv X pins σ H s1) E s := by
  obtain ⟨xs, hq, hx⟩ := hg
  obtain ⟨its, rv, ph, hz⟩ := I.list hq
  obtain ⟨f0, f1, f2, f3, f4, f5⟩ := hf
  have hl := rv.length
  exact lend_hot hot hne st ph.isList (by simp; omega) fun h2 eb => ⟨rfl, I.turned (t' := s.toks) (fun b o hb e => eb b o hb e) f0 f1 f3 f4 f5⟩
/-- a list comprehension within an except suite -/
theorem pe_lcH0 {elt tg l : Expr} {ifs : List Expr} {scope : Scope} {own : List (Str × Nat)} {pos : Pos} {tl : TE} {g : TG} {tt : TT} {te : TE} {p : Addr × Obj} (hp1 : L2H.Hot1 X.A p) (hp2 : p ∈ X.pn) (hN : X.N.Nodup) (hl : PE X l tl) (ok : BlkOk X.N X.env.scope scope own)
    (hg : ∀ (s : Shared) (H : Hp) (C : Addr) (cl : List (Str × Addr)) (fp : List Addr), PG (blkH X p s H scope (compEnvC scope cl C X.env) fp) tg g)
    (ht : ∀ (s : Shared) (H : Hp) (C : Addr) (cl : List (Str × Addr)) (fp : List Addr), PTs (blkH X p s H scope (compEnvC scope cl C X.env) fp) ifs tt)
    (he : ∀ (s : Shared) (H : Hp) (C : Addr) (cl : List (Str × Addr)) (fp : List Addr), PE (blkH X p s H scope (compEnvC scope cl C X.env) fp) elt te)
    (hs : ∀ x, foldedSetIterable l X.env x = pure x := by intro _; rfl) : PE X (.ListComp elt [⟨tg, l, ifs, 0⟩] scope pos) (tLc (iList X.K tl) g tt te (own.map (·.2))) := by
  refine ⟨fun pins s σ H Q I h => ?_⟩
  have hcap : ∀ y ∈ scope.names, y.2 = .free → ∃ c, X.env.cells.lookup y.1 = some c := fun y hy e => (ok.free y hy e).elim (fun k => I.ok.has _ (.inl k)) (fun k => I.ok.has _ (.inr k))
  rw [eval_ListComp]
  refine wpAny_comprehension_free (use := none) rfl hs (closure_ok hcap) ok.kind (fun y hy e => by rw [ok.uniq y hy, e]) (thn (hl.run pins s σ H _ I h) fun v s1 ⟨x, H2, I1, r1, q1⟩ => ?_)
  obtain ⟨a, e, ⟨xs, hq⟩, q⟩ := q1; subst e; cases r1
  obtain ⟨its, rv, ph, hz⟩ := I1.list hq
  refine wpAny_pyIter_list ph.isList ?_
  -- the iterator stands
  generalize hit : s1.heap.objs.size = it
  generalize hs2 : ({ s1 with heap := s1.heap.push { cls := .type "list_iterator", data := .fields #[.ref a, .int 0 0] } } : Shared) = s2
  have iv2 : Inv X pins σ H2 s2 := by
    rw [← hs2]
    exact I1.kept (t' := s1.toks) fun b o e => Heap.get?_push_of_some _ e
  have st2 : s2.heap.IsListIter it a 0 := by
    rw [← hs2, ← hit]
    exact ⟨_, Heap.get?_push_size _ rfl, rfl, rfl⟩
  have ff2 : FpOk X pins H2 it := by
    have z := I1.fpOk (H' := H2) (Nat.le_of_eq hit) (I1.hok.fresh (Nat.le_of_eq hit))
    exact z
  have it2 : it < s2.heap.objs.size := by
    obtain ⟨o, e, _⟩ := st2
    exact Heap.lt_size e
  refine wpAny_newObj_type (newEnv_comp ?_) (Nat.zero_le _)
  generalize hD : s2.heap.objs.size = D
  obtain ⟨W, ⟨m0, w0⟩, turn⟩ := q D (iv2.hok.fresh (Nat.le_of_eq hD))
  generalize hs3 : ({ s2 with heap := s2.heap.push { cls := .type "list", data := .seq ([] : List Value).toArray } } : Shared) = s3
  have iv3 : Inv X pins σ (upd H2 D (.lst [])) s3 := by
    rw [← hs3]
    exact iv2.laid (t' := s2.toks) (fun b o e => Heap.get?_push_of_some _ e) (Nat.le_of_eq hD) ⟨Nat.zero_le _, [], 0, .nil, (by rw [← hD]; exact Heap.get?_push_size _ rfl)⟩
  have hp3 : s3.heap = s2.heap.push { cls := .type "list", data := .seq ([] : List Value).toArray } := (by rw [← hs3])
  have it3 : it < s3.heap.objs.size := (by rw [hp3, Heap.size_push]; exact Nat.lt_succ_of_lt it2)
  have st3 : s3.heap.IsListIter it a 0 := by
    obtain ⟨o, e, c, d⟩ := st2
    exact ⟨o, (by rw [hp3]; exact Heap.get?_push_of_some _ e), c, d⟩
  have ff3 : FpOk X pins (upd H2 D (.lst [])) it := ⟨(by rw [upd_ne (by rw [← hD]; exact Nat.ne_of_lt it2)]; exact ff2.1), ff2.2⟩
  have iv4 := block_start (fp := [it]) iv3 ok hN (fun b hb => by rw [List.mem_singleton.mp hb]; exact ⟨ff3, it3⟩)
  have pg := hg s3 (upd H2 D (.lst [])) s3.heap.objs.size (cellsFrom (s3.heap.objs.size + 1) scope.names (cloFrom X.env.cells scope.names [])) [it]
  have pt := ht s3 (upd H2 D (.lst [])) s3.heap.objs.size (cellsFrom (s3.heap.objs.size + 1) scope.names (cloFrom X.env.cells scope.names [])) [it]
  have pe := he s3 (upd H2 D (.lst [])) s3.heap.objs.size (cellsFrom (s3.heap.objs.size + 1) scope.names (cloFrom X.env.cells scope.names [])) [it]
  show codeAny _ _ (.compStart (.ListComp elt [⟨tg, l, ifs, 0⟩] scope pos) 0 (.ref it) (.ref D) (compEnvC scope (cellsFrom (s3.heap.objs.size + 1) scope.names (cloFrom X.env.cells scope.names [])) s3.heap.objs.size X.env)) (compPost (model X.prog X.w) X.A X.xe none (EP X pins σ Q) (.ref D) s3.heap.objs.size) { s3 with heap := pushCells (s3.heap.push { cls := .type "dict", data := .dict #[] }) scope.names }
  generalize hce : compEnvC scope (cellsFrom (s3.heap.objs.size + 1) scope.names (cloFrom X.env.cells scope.names [])) s3.heap.objs.size X.env = ce at iv4 pg pt pe ⊢
  have cL : ce.locals = s3.heap.objs.size := (by subst hce; rfl)
  generalize hH3 : upd H2 D (.lst []) = H3 at iv3 iv4 pg pt pe w0 ff3
  have k4 : ∀ b o, s3.heap.get? b = some o → (pushCells (s3.heap.push { cls := .type "dict", data := .dict #[] }) scope.names).get? b = some o := fun b o e => pushCells_keeps _ _ _ _ (Heap.get?_push_of_some _ e)
  generalize hs4 : ({ s3 with heap := pushCells (s3.heap.push { cls := .type "dict", data := .dict #[] }) scope.names } : Shared) = s4 at iv4 ⊢
  have k4b : ∀ b o, s3.heap.get? b = some o → s4.heap.get? b = some o := (by rw [← hs4]; exact k4)
  have st4 : s4.heap.IsListIter it a 0 := (by obtain ⟨o, e, c, d⟩ := st3; exact ⟨o, k4b _ _ e, c, d⟩)
  have iv4p := inv_pn (pin_blk (p := p) iv3 (List.mem_append_left _ hp2) iv4 k4b (Nat.le_of_eq cL.symm))
  have hnep : p.1 ≠ it := ff2.2.2.2.2.2 p (List.mem_append_left _ hp2)
  have stat : ∀ {τ : L2.St} {H' : Hp} {s' : Shared}, Inv (blkH X p s3 H3 scope ce [it]) [] τ H' s' → H' it = none → FpOk (blkH X p s3 H3 scope ce [it]) [] H' it := fun {τ H' s'} J hn =>
    ⟨hn, (J.ok.exf it List.mem_cons_self).1, J.ok.exfs it List.mem_cons_self, .inl List.mem_cons_self, fun x c e => (J.ok.exf it List.mem_cons_self).2 x c e, fun r hr => by
      have e : r = p := List.mem_singleton.mp hr
      rw [e]
      exact hnep⟩
  have loop : codeAny (model X.prog X.w) X.A (.compLoop (.ListComp elt [⟨tg, l, ifs, 0⟩] scope pos) 0 (.ref it) (.ref D) ce) (compPost (model X.prog X.w) X.A X.xe none (EP X pins σ Q) (.ref D) s3.heap.objs.size) s4 := by
    refine compLoop_any (fun n s' => ∃ i H', Inv (blkH X p s3 H3 scope ce [it]) [] (wipe σ (own.map (·.2))) H' s' ∧ s'.heap.IsListIter it a i ∧ H' it = none ∧ W i n H') ?_ m0 ⟨0, H3, iv4p, st4, ff3.1, w0⟩
    rintro n s5 ⟨i, H5, iv5, st5, n5, w5⟩
    rcases turn i n H5 w5 with ⟨stop, qq⟩ | ⟨go, Nx, hNx, step⟩
    · have td := done_hot (E := fun _ _ => False) (hot_pin (X := blkH X p s3 H3 scope ce [it]) hp1 iv5 (List.mem_singleton.mpr rfl)) (Ne.symm hnep) iv5 (stat iv5 n5) st5 stop
      refine thnF td fun r s6 ⟨hr, iv6⟩ => ?_
      subst hr
      have iv7 : Inv X pins σ H5 s6 := iv3.call' (ch := [it]) iv6.os iv6.base iv6.hok iv6.bare fun b hb => by
        rw [List.mem_singleton.mp hb]
        exact ⟨ff3.2.2.2.1, ff3.2.1, ff3.2.2.2.2.1, ff3.2.2.2.2.2⟩
      have nC : H5 s3.heap.objs.size = none := (by have z : H5 ce.locals = none := iv6.free; rw [cL] at z; exact z)
      obtain ⟨m, hn, _⟩ := iv6.loc
      have hn : s6.heap.Ns ce.locals m := hn
      rw [cL] at hn
      have fc := iv3.fpOk (Nat.le_refl _) nC
      obtain ⟨f0, f1, f2, f3, f4, f5⟩ := fc
      exact ⟨m, hn, fun h3 sb => ⟨.ref D, H5, iv7.turned (t' := s6.toks) (fun b o hb e => (sb.2 b hb).trans e) f0 f1 f3 f4 f5, rfl, qq⟩⟩
    · have ti := item_hot (X := blkH X p s3 H3 scope ce [it]) (tg := tg) (E := fun _ _ => False) iv5 (stat iv5 n5) st5 go
      refine thnF ti fun r s6 ⟨u, hr, h6⟩ => ?_
      subst hr
      refine thnF h6 fun _ s7 ⟨x, iv7, r7, y7, st7⟩ => ?_
      have iv7p := iv7.pinned (fp := [it]) (fun b hb => by rw [List.mem_singleton.mp hb]; exact stat iv7 n5) (fun b hb => by
        obtain ⟨o, e, c, d⟩ := st7
        rw [List.mem_singleton.mp hb]
        exact ⟨o, e, fun v z => by rw [d] at z; cases z⟩)
      refine thnF (pg.run _ s7 _ H5 x u _ iv7p r7 (step x H5 y7)) fun _ s8 ⟨σ8, H8, iv8, hw8, q8⟩ => ?_
      refine thnF (pt.run _ s8 σ8 H8 _ iv8 q8) fun b s9 ⟨H9, iv9, q9⟩ => ?_
      have fin : ∀ {s' : Shared} {H' : Hp}, Inv (blkH X p s3 H3 scope ce [it]) ([] ++ pinsAt [it] s7.heap) σ8 H' s' → Nx H' → ∃ m, m < n ∧ ∃ i H', Inv (blkH X p s3 H3 scope ce [it]) [] (wipe σ (own.map (·.2))) H' s' ∧ s'.heap.IsListIter it a i ∧ H' it = none ∧ W i m H' := fun {s' H'} J nx => by
        obtain ⟨m2, hm, w2⟩ := hNx H' nx
        obtain ⟨o7, e7, c7, d7⟩ := st7
        have z := J.pin (it, o7) (List.mem_append_right _ (List.mem_append_right _ (mem_pinsAt (List.mem_singleton.mpr rfl) e7)))
        refine ⟨m2, hm, i + 1, H', (J.unpinned (pins := [])).weak (by rw [← hw8, wipe_length]) (fun j v e => ?_), ⟨o7, z.1, c7, d7⟩, z.2.1, w2⟩
        rw [← hw8] at e
        exact (wipe_some e).1
      cases b with
      | false =>
        simp only [Bool.false_eq_true, if_false] at q9 ⊢
        exact fin iv9 q9
      | true =>
        simp only [if_true] at q9 ⊢
        refine thnF (pe.run _ s9 σ8 H9 _ iv9 q9) fun z s10 ⟨yv, H10, iv10, r10, acc, hD10, hz10, nx⟩ => ?_
        exact app_ok (X := blkH X p s3 H3 scope ce [it]) iv10 hD10 hz10 r10 fun s11 iv11 => fin iv11 nx
  exact codeAny_compStart_list loop (wpAny_pyIter_listiter st4 loop)
/-- the same, the written part named -/
theorem pe_lcH (K : PySem.W.Frag) {elt tg l : Expr} {ifs : List Expr} {scope : Scope} {own : List (Str × Nat)} {pos : Pos} {tl : TE} {g : TG} {tt : TT} {te : TE} {p : Addr × Obj} (hp1 : L2H.Hot1 X.A p) (hp2 : p ∈ X.pn) (hN : X.N.Nodup) (hl : PE X l tl) (ok : BlkOk X.N X.env.scope scope own)
    (hg : ∀ (s : Shared) (H : Hp) (C : Addr) (cl : List (Str × Addr)) (fp : List Addr), PG (blkH X p s H scope (compEnvC scope cl C X.env) fp) tg g)
    (ht : ∀ (s : Shared) (H : Hp) (C : Addr) (cl : List (Str × Addr)) (fp : List Addr), PTs (blkH X p s H scope (compEnvC scope cl C X.env) fp) ifs tt)
    (he : ∀ (s : Shared) (H : Hp) (C : Addr) (cl : List (Str × Addr)) (fp : List Addr), PE (blkH X p s H scope (compEnvC scope cl C X.env) fp) elt te)
    (hs : ∀ x, foldedSetIterable l X.env x = pure x := by intro _; rfl) (h : X.K = K := by rfl) : PE X (.ListComp elt [⟨tg, l, ifs, 0⟩] scope pos) (tLc (iList K tl) g tt te (own.map (·.2))) := h ▸ pe_lcH0 hp1 hp2 hN hl ok hg ht he hs
theorem pg_tupHK (K : PySem.W.Frag) {es : List Expr} {k n : Nat} {t : TGs} {pos : Pos} (hc : L2H.HotC X) (h : PGs X es t) (hn : (assignEach es X.env).length = n := by rfl) (hst : (assignEach es X.env).findIdx? (·.1) = none := by rfl) (h2 : X.K = K := by rfl) : PG X (.Tuple es k pos) (gTup K n t) := h2 ▸ pg_tupH hc h hn hst
end
end Vf

/-! Own layer: pairs, defs that raise, what is caught. -/
namespace Vf
open PySem PySem.Spec PyProof.Rows L2 TL Evl
section
variable {K : PySem.W.Frag} {σ : L2.St} {H H' : Hp} {ta : TA} {tb te td : TE} {D : Ends} {tz : TS} {l l2 : List (List V)} {xs : List V} {p : Addr}
/-! ## written lists of tuples -/
def EvR (K : PySem.W.Frag) (ta : TA) (σ : L2.St) (H : Hp) (l : List (List V)) : Prop := ∀ H1, Ex H H1 → ∀ Q : List V → Hp → Prop, (∀ ts H2, Ex H1 H2 → TupsAt K H2 ts l → Q (ts.map V.ref) H2) → ta σ H1 Q
theorem er_nil : EvR K tNil σ H [] := fun H1 _ _ q => q [] H1 (Ex.refl H1) .nil
theorem er_cons (h : EvU te σ H xs) (hr : EvR K ta σ H l) : EvR K (tCons te ta) σ H (xs :: l) := fun H1 e _ q => h H1 e _ fun p H2 _ e2 hp => hr H2 (e.trans e2) _ fun ts H3 e3 ht => q (p :: ts) H3 (e2.trans e3) (.cons (st_of (e3 p _ hp)) ht)
theorem paired_len {α β : Type} {F : α → β → Prop} : ∀ {a : List α} {b : List β}, Paired F a b → a.length = b.length
  | _, _, .nil => rfl
  | _, _, .cons _ r => congrArg (· + 1) (paired_len r)
theorem paired_app {α β : Type} {F : α → β → Prop} : ∀ {a c : List α} {b d : List β}, Paired F a b → Paired F c d → Paired F (a ++ c) (b ++ d)
  | _, _, _, _, .nil, h => h
  | _, _, _, _, .cons x r, h => .cons x (paired_app r h)
theorem u2_lst (h : EvR K ta σ H l) (hz : l.length ≤ 100000) : EvU2 K (tLst ta) σ H l := fun H1 e Q q =>
  h H1 e _ fun ts H2 e2 ht => ⟨sz_of (by rw [List.length_map, paired_len ht]; exact hz), fun p np => q p _ (fresh_back e2 np) (e2.trans (Ex.new np)) ⟨ts, upd_same, tups_mono (fun _ _ => ex_t (Ex.new np)) ht⟩⟩
theorem u2_cat (ha : Ev te σ H (.ref p)) (h : IsLU K H p l) (hb : EvU2 K tb σ H l2) (hz : l.length + l2.length ≤ 100000) : EvU2 K (tOp rCat te tb) σ H (l ++ l2) := fun H1 e Q q =>
  ha H1 e _ fun H2 e2 => hb H2 (e.trans e2) _ fun r H3 _ e3 hr => by
    obtain ⟨ts, h1, h2⟩ := h.ex ((e.trans e2).trans e3)
    obtain ⟨us, h3, h4⟩ := hr
    exact ⟨p, r, _, _, rfl, rfl, h1, h3, by rw [List.length_map, List.length_map, paired_len h2, paired_len h4]; exact sz_of hz, fun z nz =>
      q z _ (fresh_back (e2.trans e3) nz) ((e2.trans e3).trans (Ex.new nz)) ⟨ts ++ us, by rw [upd_same, List.map_append], tups_mono (fun _ _ => ex_t (Ex.new nz)) (paired_app h2 h4)⟩⟩
/-! ## pairs of a text and a bool -/
def pb (l : List (Tx × Bool)) : List (List V) := l.map fun q => [vs q.1, V.bl q.2]
theorem pb_app (a b : List (Tx × Bool)) : pb (a ++ b) = pb a ++ pb b := List.map_append
/-- the words that fit -/
def fit (l : List (Tx × Bool)) : List Tx := (l.filter (·.2)).map (·.1)
theorem fit_snoc (l : List (Tx × Bool)) (q : Tx × Bool) : fit (l ++ [q]) = fit l ++ (if q.2 = true then [q.1] else []) := by
  unfold fit
  rw [List.filter_append, List.map_append]
  congr 1
  cases h : q.2
  · rw [List.filter_cons, h]
    rfl
  · rw [List.filter_cons, h]
    rfl
theorem fit_le (l : List (Tx × Bool)) : (fit l).length ≤ l.length := by
  unfold fit
  rw [List.length_map]
  exact List.length_filter_le _ _
theorem tup_at {ts : List Addr} {i : Nat} {x : V} : ∀ {l : List (List V)} {i : Nat} {ts : List Addr}, TupsAt K H ts l → (ts.map V.ref)[i]? = some x → ∃ t q, x = .ref t ∧ l[i]? = some q ∧ SqT K H t q
  | _, i, _, .nil, h => by simp at h
  | _, 0, _, .cons (a := t) (b := q) a r, h => by
    simp only [List.map_cons, List.getElem?_cons_zero, Option.some.injEq] at h
    exact ⟨t, q, h.symm, rfl, a⟩
  | _, i + 1, _, .cons (a := t) (b := q) a r, h => by
    simp only [List.map_cons, List.getElem?_cons_succ] at h
    obtain ⟨t2, q2, e, e2, f⟩ := tup_at (ts := ts) (i := i) r h
    exact ⟨t2, q2, e, by rw [List.getElem?_cons_succ]; exact e2, f⟩
/-- [word for word, fits in some if fits] -/
theorem l_fit {m : List (Tx × Bool)} {i j : Nat} {ws : List Nat} (h : Ev td σ H (.ref p)) (hp : IsLU K H p (pb m)) (hz : m.length ≤ 40000)
    (hw : ∀ w b, wipe (((wipe σ ws).set i (some w)).set j (some b)) ws = wipe σ ws) (hi : ∀ w b, (((wipe σ ws).set i (some w)).set j (some b))[i]? = some (some w)) (hj : ∀ w b, (((wipe σ ws).set i (some w)).set j (some b))[j]? = some (some b)) :
    EvL (tLc (iList K td) (gTup K 2 (gCons (gName i) (gCons (gName j) gNil))) (tB (tVar j)) (tVar i) ws) σ H ((fit m).map vs) := fun H0 e0 Q q => h H0 e0 _ fun H1 e1 => by
  obtain ⟨ts, h1, h2⟩ := (hp.ex (e0.trans e1)).sq
  refine ⟨p, rfl, ⟨_, h1⟩, fun D hD => ?_⟩
  have hlen : ts.length = m.length := by
    rw [paired_len h2]
    exact List.length_map _
  have hDp : D ≠ p := fun z => by
    obtain ⟨us, a, _⟩ := hp.ex (e0.trans e1)
    rw [← z, hD] at a
    cases a
  refine lc_list (xs := ts.map V.ref) (fun n H2 => n ≤ m.length ∧ ∃ H3, Ex H1 H3 ∧ H3 D = none ∧ H2 = upd H3 D (.lst ((fit (m.take n)).map vs))) ⟨Nat.zero_le _, H1, Ex.refl H1, hD, rfl⟩ (fun n H2 _ hI => ?_) (fun n x H2 hx hI => ?_) (fun H2 hI => ?_)
  · obtain ⟨_, H3, e3, n3, rfl⟩ := hI
    exact ex_l (e3.trans (Ex.new n3)) h1
  · obtain ⟨hn, H3, e3, n3, rfl⟩ := hI
    obtain ⟨t, y, rfl, hy, ht⟩ := tup_at (ts := ts) (i := n) h2 hx
    have hlt : n < m.length := by
      have := (List.getElem?_eq_some_iff.mp hx).1
      rw [List.length_map, hlen] at this
      exact this
    have ey : y = [vs (m[n]).1, V.bl (m[n]).2] := by
      unfold pb at hy
      rw [List.getElem?_map, List.getElem?_eq_getElem hlt] at hy
      exact (Option.some.inj hy).symm
    subst ey
    have hs : fit (m.take (n + 1)) = fit (m.take n) ++ (if (m[n]).2 = true then [(m[n]).1] else []) := by
      rw [List.take_add_one, List.getElem?_eq_getElem hlt]
      exact fit_snoc _ _
    refine ⟨t, _, rfl, ex_t (e3.trans (Ex.new n3)) ht, rfl, _, _, rfl, _, _, rfl, ⟨rfl, ?_⟩⟩
    refine ⟨hw _ _, _, hj _ _, (m[n]).2, rfl, ?_⟩
    cases hb : (m[n]).2 with
    | false =>
      rw [if_neg Bool.false_ne_true]
      rw [hb, if_neg Bool.false_ne_true, List.append_nil] at hs
      exact ⟨hlt, H3, e3, n3, by rw [hs]⟩
    | true =>
      rw [if_pos rfl]
      rw [hb, if_pos rfl] at hs
      refine ⟨_, hi _ _, _, upd_same, ?_, hlt, H3, e3, n3, ?_⟩
      · rw [List.length_map]
        have h5 := fit_le (m.take n)
        rw [List.length_take] at h5
        exact sz_lt (by omega)
      · rw [upd_upd, hs, List.map_append]
        rfl
  · obtain ⟨_, H3, e3, n3, rfl⟩ := hI
    rw [List.length_map, hlen, List.take_length]
    exact q D _ (fresh_back e1 hD) (e1.trans (e3.trans (Ex.new n3))) upd_same
end
/-! ## defs that raise: the class is told by a number -/
inductive Res (α : Type) where
  | ok (a : α) : Res α
  | exc (k : Nat) : Res α
def RetX (Cs : Nat → Addr) (k : Nat) (H : Hp) (E : XK) : Prop := ∀ H2, Ex H H2 → E (.ref (Cs k)) none H2
def PX {α : Type} (Cs : Nat → Addr) (Rp : α → Hp → VK → Prop) (r : Res α) (H : Hp) (Q : VK) (E : XK) : Prop := (∀ a, r = .ok a → Rp a H Q) ∧ ∀ k, r = .exc k → RetX Cs k H E
def spX {α : Type} (Cs : Nat → Addr) (Rp : α → Hp → VK → Prop) (R : List V → Hp → Res α → Prop) : Sp := fun ws H Q E => ∃ r, R ws H r ∧ PX Cs Rp r H Q E
section
variable {α S : Type} {Cs : Nat → Addr} {Rp : α → Hp → VK → Prop} {H : Hp} {Q : VK} {E : XK}
theorem retX_T {b : Bool} {x y : Res α} (k : PX Cs Rp (if b = true then x else y) H Q E) (hb : b = true) : PX Cs Rp x H Q E := by
  rw [if_pos hb] at k
  exact k
theorem retX_F {b : Bool} {x y : Res α} (k : PX Cs Rp (if b = true then x else y) H Q E) (hb : b = false) : PX Cs Rp y H Q E := by
  rw [if_neg (by rw [hb]; exact Bool.false_ne_true)] at k
  exact k
theorem retX_run {o : Stp S (Res α)} {g : S → Res α} {r : Res α} (k : PX Cs Rp (aftL o g) H Q E) (h : o = .ret r) : PX Cs Rp r H Q E := by
  rw [h] at k
  exact k
theorem retX_go {o : Stp S (Res α)} {g : S → Res α} {s : S} (k : PX Cs Rp (aftL o g) H Q E) (h : o = .go s ∨ o = .brk s) : PX Cs Rp (g s) H Q E := by
  rcases h with h | h
  · rw [h] at k
    exact k
  · rw [h] at k
    exact k
theorem PX.exc {k : Nat} {H2 : Hp} (p : PX Cs Rp (.exc k) H Q E) (e : Ex H H2) : E (.ref (Cs k)) none H2 := p.2 k rfl H2 e
theorem PX.ret {a : α} (p : PX Cs Rp (.ok a) H Q E) : Rp a H Q := p.1 a rfl
end
/-- what a class that is raised must say -/
structure ErrR (K : PySem.W.Frag) (Cs : Nat → Addr) (k : Nat) : Prop where
  x : PySem.W.excIn K (Cs k) [.type "ValueError", .type "Exception", .type "BaseException", .type "object"] "ValueError.__new__" = true
  kp : PySem.W.keepIn K (.ref (Cs k)) = true
  b : PySem.W.subIn K (.ref (Cs k)) (.type "BaseException") = some true
  t : PySem.W.typeIn K (.ref (Cs k)) = some (.type "type")
section
variable {P : Program} {w : World} {K : PySem.W.Frag} {mg : Str → Option Value} {base : Heap}
theorem okN {x qual : Str} {st : Stmt} {f : Addr} {fd : FuncData} {N ps : List Str} {k : Nat} {sp : Sp} (F : Fun K x qual st f fd) (S : FnScope N ps (defScope st)) (len : ∀ vs H Q E, sp vs H Q E → vs.length = ps.length)
    (hb : ∀ (cdv : Value) (A : Around) (outer : List Env) (s : Shared) (H : Hp) (vs : List V) (Q : VK) (E : XK), Room k (A.deeper (envOfC qual (defScope st) s.heap.objs.size f cdv)) → sp vs H Q E →
      ∃ t, PSs (cxOf (L2N.CX P w) P w K mg base N qual (defScope st) f cdv A outer s H E) (defBody st) t ∧ t { nx := fun _ H' => Q .non H', rt := Q } (start N vs) H) : FnOk P w K mg base (L2N.CX P w) (k + 1) f fd ps sp := by
  obtain ⟨oc, od, kV, doc, pm, an, cdv, ct, osl, rfl, lk, hcd⟩ := F.ex
  exact fn_of lk hcd S len fun A outer s H vs Q E hr hsp => hb cdv A outer s H vs Q E hr hsp
structure CalX (P : Program) (w : World) (K : PySem.W.Frag) (mg : Str → Option Value) (base : Heap) (k : Nat) (x : Str) (ps : List Str) (sp : Sp) : Prop where
  ex : ∃ f fd, FnOk P w K mg base (L2N.CX P w) k f fd ps sp ∧ mg x = some (.ref f) ∧ PySem.W.keepIn K (.ref f) = true ∧ Binds K fd ps []
theorem calX_of {k : Nat} {x : Str} {ps : List Str} {sp : Sp} {f : Addr} {fd : FuncData} (F : FnOk P w K mg base (L2N.CX P w) k f fd ps sp) (g : mg x = some (.ref f)) (kp : PySem.W.keepIn K (.ref f) = true) (b : Binds K fd ps []) :
    CalX P w K mg base k x ps sp := ⟨f, fd, F, g, kp, b⟩
theorem pe_calX {X : Cx} {W : WX} {k : Nat} {x : Str} {ps : List Str} {sp : Sp} {e : Expr} {es : List Expr} {t : TA} {p pos : Pos} (C : CalX X.prog X.w X.K X.mg X.base k x ps sp) (tk : L2N.Takes X W) (hr : Room k X.A) (hg : Gl X x) (ha : PA X (e :: es) t)
    (hdb : (x == ("__debug__" : Str)) = false := by decide) (he : starEach (e :: es) X.env = (false, eval e X.env) :: starEach es X.env := by rfl) (hpl : (backTo pos (starEach es X.env)).any (·.1) = false := by rfl) :
    PE X (.Call (.Name x p) (e :: es) [] pos) (tCallS sp (WE W) t) := by
  obtain ⟨f, fd, F, g, kp, b⟩ := C.ex
  exact pe_callS F hr hg g kp b (fun σ => L2N.passAt tk σ) ha hdb he hpl
end
/-- within a def that catches all -/
theorem takesN0 {X : Cx} : L2N.Takes X (fun _ _ _ _ => False) := fun _ _ ⟨_, _, _, _, _, _, _, _, _, _, _, _, _, _, _, _, w⟩ => w.elim
/-- a call that may raise, its answer used -/
theorem x_call {α : Type} {Cs : Nat → Addr} {Rp : α → Hp → VK → Prop} {R : List V → Hp → Res α → Prop} {E : L2.St → XK} {t : TA} {σ : L2.St} {H : Hp} {ws : List V} {r : Res α} {Q : VK} (h : EvA t σ H ws) (hR : ∀ H1, Ex H H1 → R ws H1 r)
    (ho : ∀ a, r = .ok a → ∀ H1, Ex H H1 → Rp a H1 Q) (hx : ∀ k, r = .exc k → ∀ H1, Ex H H1 → E σ (.ref (Cs k)) none H1) : tCallS (spX Cs Rp R) E t σ H Q :=
  h H (Ex.refl H) _ fun H1 e1 => ⟨r, hR H1 e1, fun a e => ho a e H1 e1, fun k e H2 e2 => hx k e H2 (e1.trans e2)⟩
/-- what isinstance asks, the class told by the reading -/
theorem call_isX {X : Cx} (K : PySem.W.Frag) {a : Addr} {oe : Obj} {cls : Value} {d : Option Addr} {pn : List (Addr × Obj)} (hz : L2N.Zn cls d oe) (hf : ∃ vs, oe.data = .fields vs) (hK : X.K = K := by rfl) :
    CallR (X.suite a ((a, oe) :: pn)) (.builtin "isinstance") (fun xs H Q => ∃ (D : Addr) (c : V) (cv : Value) (b : Bool), cls = .ref D ∧ d = none ∧ ExcC K D ∧ xs = [.ref a, c] ∧ (∀ u, RelV c u → u = cv) ∧ PySem.W.kitOne K (.ref D) cv = some b ∧ Q (.bl b) H) := by
  subst hK
  intro pins s σ H xs us Q I r ⟨D, c, cv, b, e1, e2, C, ex, hc, hk, q⟩
  subst e1 e2
  exact call_isE C hz.zc hf pins s σ H xs us Q I r ⟨c, cv, b, ex, hc, hk, q⟩
theorem e_isX {K : PySem.W.Frag} {σ : L2.St} {H : Hp} {ta tb : TE} {cls : Value} {d : Option Addr} {D a : Addr} {c : V} {cv : Value} {b : Bool} (h1 : cls = .ref D) (h2 : d = none) (C : ExcC K D) (ha : Ev ta σ H (.ref a)) (hb : Ev tb σ H c) (hc : ∀ u, RelV c u → u = cv) (hk : PySem.W.kitOne K (.ref D) cv = some b) :
    Ev (tCB (fun xs H Q => ∃ (D : Addr) (c : V) (cv : Value) (b : Bool), cls = .ref D ∧ d = none ∧ ExcC K D ∧ xs = [.ref a, c] ∧ (∀ u, RelV c u → u = cv) ∧ PySem.W.kitOne K (.ref D) cv = some b ∧ Q (.bl b) H) (tCons ta (tCons tb tNil))) σ H (.bl b) := fun H1 e Q q =>
  ha H1 e _ fun H2 e2 => hb H2 (e.trans e2) _ fun H3 e3 => ⟨D, c, cv, b, h1, h2, C, rfl, hc, hk, q H3 (e2.trans e3)⟩
theorem hot_suite {X : Cx} {a : Addr} {oe : Obj} {cls : Value} {d : Option Addr} {pn : List (Addr × Obj)} (hz : L2N.Zn cls d oe) (hf : ∃ vs, oe.data = .fields vs) : L2H.Hot1 (X.suite a ((a, oe) :: pn)).A (a, oe) := by
  obtain ⟨vs, e⟩ := hf
  exact ⟨rfl, vs, e, hz.2.2 vs e⟩
theorem relv_ref {a : Addr} : ∀ u, RelV (.ref a) u → u = .ref a := fun _ h => h
theorem relv_ty {n : String} : ∀ u, RelV (.ty n) u → u = .type n := fun _ h => h
section
variable {K : PySem.W.Frag} {σ : L2.St} {H : Hp} {ta te tb : TE} {p : Tx} {pl pm : Addr}
/-! ## how often a sign stands in a text -/
def rCountT : V → List V → Hp → VK → Prop := fun x xs H Q => ∃ a b, x = .str a ∧ xs = [.str b] ∧ Q (.int (Txt.count a b)) H
theorem pe_countT {X : Cx} {o e : Expr} {to te : TE} {apos pos : Pos} (ho : PE X o to) (he : PE X e te) (hs : starEach [e] X.env = [(false, eval e X.env)] := by rfl) (hbase : attributeBase o "count" X.env (eval o X.env) = eval o X.env := by rfl) (hline : (apos.endLine == pos.line) = true := by rfl) :
    PE X (.Call (.Attribute o "count" apos) [e] [] pos) (tM1 rCountT to te) := pe_m1 PySem.F.slot_str_count PySem.F.type_str_count mt_count ho he hs hbase hline
theorem count_of {c : Nat} (hc : c < 256) (p : Tx) : Txt.count (mk p) (mk [c]) = ((cuts c p).length : Int) - 1 := by
  have h := congrArg List.length (split_of hc p)
  rw [List.length_map, List.length_map] at h
  rw [← h]
  unfold Txt.split Txt.count
  have hk := kind_ok (x := mk p) (y := mk [c]) (by show (#[c] : Array Nat).all (· < 256) = true; simp [hc])
  cases p with
  | nil =>
    rw [if_pos (by rfl)]
    have h3 := StrLaws.found_one (mk []) c
    cases h4 : Builtin.Str.occurrences (mk []) (mk [c]) 0 (mk []).length ((mk []).length + 1) with
    | nil => rfl
    | cons a b =>
      have h5 : Builtin.Str.occurrences (mk []) ⟨#[c]⟩ 0 (mk []).length 1 = a :: b := h4
      rw [h5] at h3
      exact absurd h3 (by simp [mk])
  | cons d r =>
    rw [if_neg (by
      rw [Bool.or_eq_true, decide_eq_true_eq, decide_eq_true_eq]
      rintro (z | z)
      · rw [len_of, len_of] at z
        simp at z
      · exact hk z)]
    split
    · rename_i z
      rw [List.isEmpty_iff.mp z]
      rfl
    · rw [PySem.length_partsBetween]
      omega
theorem e_count {c : Nat} (ha : Ev ta σ H (vs p)) (hb : Ev te σ H (vs [c])) (hc : c < 256) : Ev (tM1 rCountT ta te) σ H (.int (((cuts c p).length : Int) - 1)) := fun H1 e Q k =>
  ha H1 e _ fun H2 e2 => ⟨⟨mk p, rfl⟩, hb H2 (e.trans e2) _ fun H3 e3 => ⟨mk p, mk [c], rfl, rfl, by rw [count_of hc]; exact k H3 (e2.trans e3)⟩⟩
/-- two own lists laid together -/
theorem l_catRR {β : Type} {g : β → V} {m1 m2 : List β} (ha : Ev ta σ H (.ref pl)) (h1 : H pl = some (.lst (m1.map g))) (hb : Ev tb σ H (.ref pm)) (h2 : H pm = some (.lst (m2.map g))) (hz : m1.length + m2.length ≤ 100000) : EvL (tOp rCat ta tb) σ H ((m1 ++ m2).map g) := fun H1 e Q q =>
  ha H1 e _ fun H2 e2 => hb H2 (e.trans e2) _ fun H3 e3 => ⟨pl, pm, m1.map g, m2.map g, rfl, rfl, ((e.trans e2).trans e3) pl _ h1, ((e.trans e2).trans e3) pm _ h2, by rw [List.length_map, List.length_map]; exact sz_of hz, fun r nr =>
    q r _ (fresh_back (e2.trans e3) nr) ((e2.trans e3).trans (Ex.new nr)) (by rw [upd_same, List.map_append])⟩
end
/-! ## the classes of errors, by number: 0 the base of all -/
structure ErrG (mg : Str → Option Value) (Cs : Nat → Addr) : Prop where
  g0 : mg "RoadError" = some (.ref (Cs 0))
  g1 : mg "NoPath" = some (.ref (Cs 1))
  g2 : mg "NoFile" = some (.ref (Cs 2))
  g3 : mg "InTheWay" = some (.ref (Cs 3))
  g4 : mg "NoClash" = some (.ref (Cs 4))
  g5 : mg "Clashed" = some (.ref (Cs 5))
  g6 : mg "NoVersion" = some (.ref (Cs 6))
  g7 : mg "SameVersion" = some (.ref (Cs 7))
/-- of a class that is raised -/
structure ErrC (K : PySem.W.Frag) (Cs : Nat → Addr) (k : Nat) : Prop where
  ec : ExcC K (Cs k)
  ex0 : PySem.W.exmOne K (.ref (Cs k)) (.ref (Cs 0)) = some true
  is : ∀ j < 8, PySem.W.kitOne K (.ref (Cs k)) (.ref (Cs j)) = some (decide (j = 0 ∨ j = k))
  ve : PySem.W.kitOne K (.ref (Cs k)) (.type "ValueError") = some true
def cs8 (C0 C1 C2 C3 C4 C5 C6 C7 : Addr) : Nat → Addr
  | 0 => C0
  | 1 => C1
  | 2 => C2
  | 3 => C3
  | 4 => C4
  | 5 => C5
  | 6 => C6
  | _ => C7
/-- what is promised of a told call: the word and the answer, or the error's word and True -/
def RetT (lMade : Tx) (word : Nat → Tx) (r : Res (List (Tx × Tx))) (H : Hp) (Q : VK) : Prop :=
  (∀ l, r = .ok l → ∀ p d H2, H p = none → H d = none → p ≠ d → Ex H H2 → H2 p = some (.tup [vs lMade, .ref d]) → H2 d = some (.dK (kd vs l)) → Q (.ref p) H2) ∧
  ∀ k, r = .exc k → ∀ p H2, H p = none → Ex H H2 → H2 p = some (.tup [vs (word k), .bl true]) → Q (.ref p) H2
def spTold (lMade : Tx) (word : Nat → Tx) (R : List V → Hp → Res (List (Tx × Tx)) → Prop) : Sp := fun ws H Q _ => ∃ r, R ws H r ∧ RetT lMade word r H Q
section
variable {X : Cx} {K : PySem.W.Frag} {σ : L2.St} {H : Hp} {ta tb : TE} {pl a b : Addr} {i : Int}
/-! ## tuples, by place; dicts that are alike -/
theorem ix_tupK (K : PySem.W.Frag) (h : X.K = K := by rfl) : IxR X (rIxT K) := h ▸ ix_tup
theorem e_ixU {α : Type} {f : α → V} {l : List α} (d : α) (h : Ev ta σ H (.ref pl)) (hS : SqT K H pl (l.map f)) (hb : Ev tb σ H (.int i)) (hi : 0 ≤ i ∧ i < l.length) : Ev (tOp (rIxT K) ta tb) σ H (f (l.getD i.toNat d)) := ev_op h hb (rv_ixT hS (atI_get f l d hi.1 hi.2))
theorem e_ixV {xs : List V} {v : V} (h : Ev ta σ H (.ref pl)) (hS : H pl = some (.tup xs)) (hb : Ev tb σ H (.int i)) (hv : atI xs i = some v) : Ev (tOp (rIxT K) ta tb) σ H v := ev_op h hb (rv_ixT (st_of hS) hv)
/-- the same files -/
def dsame (l m : List (Tx × Tx)) : Prop := l.length = m.length ∧ ∀ q ∈ l, dget m q.1 = some q.2
theorem dsame_kd {l m : List (Tx × Tx)} (h : dsame l m) : (kd vs l).length = (kd vs m).length ∧ ∀ p ∈ kd vs l, valV (kd vs m) p.1 = some p.2 ∧ flatB p.2 = true := by
  refine ⟨by rw [kd_len, kd_len]; exact h.1, fun p hp => ?_⟩
  obtain ⟨q, hq, rfl⟩ := List.mem_map.mp hp
  refine ⟨?_, rfl⟩
  show valV (kd vs m) (ky q.1) = _
  rw [kd_get, h.2 q hq]
  rfl
theorem dsame_refl {l : List (Tx × Tx)} (h : (dkeys l).Nodup) : dsame l l := ⟨rfl, fun q hq => get_of h hq⟩
theorem e_eqDD {l m : List (Tx × Tx)} (ha : Ev ta σ H (.ref a)) (hb : Ev tb σ H (.ref b)) (h1 : H a = some (.dK (kd vs l))) (h2 : H b = some (.dK (kd vs m))) (h : dsame l m) : Ev (tOp rEqDA ta tb) σ H (.bl true) := fun H1 e Q q =>
  ha H1 e _ fun H2 e2 => hb H2 (e.trans e2) _ fun H3 e3 => ⟨a, b, _, _, rfl, rfl, ((e.trans e2).trans e3) a _ h1, ((e.trans e2).trans e3) b _ h2, (dsame_kd h).1, (dsame_kd h).2, q H3 (e2.trans e3)⟩
theorem e_neDD {l m : List (Tx × Tx)} (ha : Ev ta σ H (.ref a)) (hb : Ev tb σ H (.ref b)) (h1 : H a = some (.dK (kd vs l))) (h2 : H b = some (.dK (kd vs m))) (h : dsame l m) : Ev (tOp rNeDA ta tb) σ H (.bl false) := fun H1 e Q q =>
  ha H1 e _ fun H2 e2 => hb H2 (e.trans e2) _ fun H3 e3 => ⟨a, b, _, _, rfl, rfl, ((e.trans e2).trans e3) a _ h1, ((e.trans e2).trans e3) b _ h2, (dsame_kd h).1, (dsame_kd h).2, q H3 (e2.trans e3)⟩
end
section
variable {K : PySem.W.Frag} {σ : L2.St} {H : Hp} {ta tb te : TE} {D : Ends} {tz : TS} {α : Type}
theorem eu_is {a b : List V} (h : EvU te σ H a) (e : a = b) : EvU te σ H b := e ▸ h
theorem e_isB {a b : Bool} (ha : Ev ta σ H (.bl a)) (hb : Ev tb σ H (.bl b)) : Ev (tOp rIsB ta tb) σ H (.bl (decide (a = b))) := fun H1 e Q q =>
  ha H1 e _ fun H2 e2 => hb H2 (e.trans e2) _ fun H3 e3 => ⟨a, b, rfl, rfl, q H3 (e2.trans e3)⟩
/-- by the answer's kind -/
def resM {β : Type} (r : Res α) (g : α → β) (x : Nat → β) : β := match r with
  | .ok a => g a
  | .exc k => x k
theorem ret_ok {β : Type} {f : β → V} {r : Res α} {g : α → β} {x : Nat → β} {a : α} {Q : VK} (k : RetV (f (resM r g x)) H Q) (h : r = .ok a) : RetV (f (g a)) H Q := by
  rw [h] at k
  exact k
theorem ret_exc {β : Type} {f : β → V} {r : Res α} {g : α → β} {x : Nat → β} {n : Nat} {Q : VK} (k : RetV (f (resM r g x)) H Q) (h : r = .exc n) : RetV (f (x n)) H Q := by
  rw [h] at k
  exact k
/-- found = told(..) -/
theorem q_told {lMade : Tx} {word : Nat → Tx} {R : List V → Hp → Res (List (Tx × Tx)) → Prop} {t : TA} {E : XK} {i : Nat} {ws : List V} {r : Res (List (Tx × Tx))} (h : EvA t σ H ws) (hR : ∀ H1, Ex H H1 → R ws H1 r)
    (ho : ∀ l, r = .ok l → ∀ p d H2, H p = none → H d = none → p ≠ d → Ex H H2 → H2 p = some (.tup [vs lMade, .ref d]) → H2 d = some (.dK (kd vs l)) → tz D (σ.set i (some (.ref p))) H2)
    (hx : ∀ k, r = .exc k → ∀ p H2, H p = none → Ex H H2 → H2 p = some (.tup [vs (word k), .bl true]) → tz D (σ.set i (some (.ref p))) H2) : tSeq (tAsg (tCall (spTold lMade word R) [] E t) (gName i)) tz D σ H :=
  h H (Ex.refl H) _ fun H1 e1 => ⟨r, by rw [List.append_nil]; exact hR H1 e1, fun l e p d H2 np nd ne e2 hp hd => ho l e p d H2 (fresh_back e1 np) (fresh_back e1 nd) ne (e1.trans e2) hp hd, fun k e p H2 np e2 hp => hx k e p H2 (fresh_back e1 np) (e1.trans e2) hp⟩
end
section
variable {K : PySem.W.Frag} {D C : Addr}
theorem kit_b {b : Bool} (i : PySem.W.isClsIn K C = true) (t : PySem.W.typeIn K (.ref C) = some (.type "type")) (s : PySem.W.subIn K (.ref D) (.ref C) = some b) : PySem.W.kitCls K (.ref D) (.ref C) = some b := by
  unfold PySem.W.kitCls
  show (if ((PySem.W.clsIn K C).isSome && PySem.W.typeIn K (.ref C) == some (.type "type")) = true then _ else none) = _
  have i2 : (PySem.W.clsIn K C).isSome = true := i
  rw [i2, t, if_pos (by rfl)]
  exact s
theorem kit_t (i : PySem.W.isClsIn K C = true) (t : PySem.W.typeIn K (.ref C) = some (.type "type")) (s : PySem.W.subIn K (.ref D) (.ref C) = some true) : PySem.W.kitOne K (.ref D) (.ref C) = some true := by
  unfold PySem.W.kitOne
  split
  · rfl
  · exact kit_b i t s
theorem kit_f (i : PySem.W.isClsIn K C = true) (t : PySem.W.typeIn K (.ref C) = some (.type "type")) (s : PySem.W.subIn K (.ref D) (.ref C) = some false) (r : PySem.W.subIn K (.ref D) (.ref D) = some true) : PySem.W.kitOne K (.ref D) (.ref C) = some false := by
  unfold PySem.W.kitOne
  split
  · rename_i h
    have e : Value.ref D = Value.ref C := by simpa using h
    rw [← e, r] at s
    cases s
  · exact kit_b i t s
theorem exm_t (b : PySem.W.subIn K (.ref C) (.type "BaseException") = some true) (i : PySem.W.isClsIn K C = true) (t : PySem.W.typeIn K (.ref C) = some (.type "type")) (s : PySem.W.subIn K (.ref D) (.ref C) = some true) : PySem.W.exmOne K (.ref D) (.ref C) = some true := by
  unfold PySem.W.exmOne
  rw [b, if_pos (by rfl)]
  exact kit_b i t s
theorem kit_ve (s : PySem.W.subIn K (.ref D) (.type "ValueError") = some true) : PySem.W.kitOne K (.ref D) (.type "ValueError") = some true := by
  unfold PySem.W.kitOne
  split
  · rfl
  · unfold PySem.W.kitCls
    show (if PySem.W.kitMeta "ValueError" = true then _ else none) = _
    rw [if_pos (by decide +kernel)]
    exact s
end
end Vf

/-! Own layer: comprehensions over dicts, two clauses, defs that give lists of tuples, messages. -/
namespace Vf
open PySem PySem.Spec PyProof.Rows L2 TL Evl
/-! ## the heap while a dict is walked -/
structure Lk (H : Hp) (d : Addr) (kvs : List (Key × V)) (HL : Hp) : Prop where
  at_ : ∃ o, (H d = some (.dK kvs) ∨ H d = some (.frz o (.dK kvs))) ∧ HL d = some (.frz o (.dK kvs))
  kp : ∀ b u, b ≠ d → H b = some u → HL b = some u
section
variable {H HL H1 H2 : Hp} {d p : Addr} {kvs : List (Key × V)} {K : PySem.W.Frag}
theorem Lk.rx (h : Lk H d kvs HL) : RX H HL := fun a u r => by
  by_cases ha : a = d
  · subst ha
    obtain ⟨o, h1, h2⟩ := h.at_
    rcases h1 with h1 | h1
    · rcases r with r | ⟨o2, r⟩
      · rw [h1] at r
        cases r
        exact Or.inr ⟨o, h2⟩
      · rw [h1] at r
        cases r
    · rcases r with r | ⟨o2, r⟩
      · rw [h1] at r
        cases r
        exact Or.inl h2
      · rw [h1] at r
        cases r
        exact Or.inr ⟨o, h2⟩
  · rcases r with r | ⟨o2, r⟩
    · exact Or.inl (h.kp a _ ha r)
    · exact Or.inr ⟨o2, h.kp a _ ha r⟩
theorem Lk.rd (h : Lk H d kvs HL) : Rd HL d (.dK kvs) := by
  obtain ⟨o, _, h2⟩ := h.at_
  exact Or.inr ⟨o, h2⟩
theorem Lk.keep (h : Lk H d kvs HL) {o : HO} (hne : p ≠ d) (e : H p = some o) : HL p = some o := h.kp p o hne e
theorem Lk.ex (h : Lk H d kvs HL) (e : Ex HL H2) : Lk H d kvs H2 := by
  obtain ⟨o, a, b⟩ := h.at_
  exact ⟨⟨o, a, e d _ b⟩, fun x u hx hu => e x _ (h.kp x u hx hu)⟩
theorem Lk.back (e : Ex H H1) (hd : Rd H d (.dK kvs)) (h : Lk H1 d kvs HL) : Lk H d kvs HL := by
  obtain ⟨o, a, b⟩ := h.at_
  refine ⟨⟨o, ?_, b⟩, fun x u hx hu => h.kp x u hx (e x u hu)⟩
  rcases hd with hd | ⟨o2, hd⟩
  · exact Or.inl hd
  · have h3 := e d _ hd
    rcases a with a | a
    · rw [h3] at a
      cases a
    · rw [h3] at a
      cases a
      exact Or.inr hd
theorem Lk.sqt (h : Lk H d kvs HL) {t : Addr} {q : List V} (s : SqT K H t q) : SqT K HL t q := rx_t h.rx s
theorem Lk.lu (h : Lk H d kvs HL) {l : List (List V)} (s : IsLU K H p l) : IsLU K HL p l := by
  obtain ⟨ts, a, b⟩ := s
  have hne : p ≠ d := fun z => by
    subst z
    obtain ⟨o, c, _⟩ := h.at_
    rcases c with c | c <;> (rw [a] at c; cases c)
  exact ⟨ts, h.kp p _ hne a, tups_mono (fun _ _ => h.sqt) b⟩
/-- under the walk's lock, or under one that is there already -/
def tMayE (t : TE) : TE := fun σ H Q => t σ H Q ∨ tLockE t σ H Q
theorem pe_may {X : Cx} {e : Expr} {t : TE} (h : PE X e t) : PE X e (tMayE t) := by
  refine ⟨fun pins s σ H Q I hw => ?_⟩
  rcases hw with hw | hw
  · exact h.run pins s σ H Q I hw
  · exact (pe_lock h).run pins s σ H Q I hw
theorem may_of {σ : L2.St} {t : TE} {Q : VK} {P : Addr → Hp → Prop} (hd : Rd H1 d (.dK kvs))
    (ht : ∀ o HB Q2, Lk H1 d kvs HB → HB d = some (.frz o (.dK kvs)) → (∀ D H', HB D = none → Ex HB H' → P D H' → Q2 (.ref D) H') → t σ HB Q2)
    (hP : ∀ o D H', D ≠ d → H' d = some (.frz o (.dK kvs)) → P D H' → P D (upd H' d (.dK kvs)))
    (q : ∀ D H2, H1 D = none → Ex H1 H2 → P D H2 → Q (.ref D) H2) : tMayE t σ H1 Q := by
  rcases hd with h | ⟨o, h⟩
  · refine Or.inr ⟨d, .dK kvs, h, trivial, fun od => ht od (upd H1 d (.frz od (.dK kvs))) _ ⟨⟨od, Or.inl h, upd_same⟩, fun b u hb hu => upd_keep hb hu⟩ upd_same fun D H' hD e hp => ?_⟩
    have ne : D ≠ d := fun z => by
      subst z
      rw [upd_same] at hD
      cases hD
    have hD2 : H1 D = none := by
      rw [upd_ne ne] at hD
      exact hD
    refine ⟨e d _ upd_same, q D _ hD2 (fun b u hu => ?_) (hP od D H' ne (e d _ upd_same) hp)⟩
    by_cases hb : b = d
    · subst hb
      rw [h] at hu
      cases hu
      exact upd_same
    · exact upd_keep hb (e b u (upd_keep hb hu))
  · exact Or.inl (ht o H1 Q ⟨⟨o, Or.inr h, h⟩, fun b u _ hu => hu⟩ h q)
end
section
variable {K : PySem.W.Frag} {σ : L2.St} {H : Hp} {ta tb te tl' tin : TE} {t t1 : TT} {α β : Type} {f : α → V} {f2 : β → V} {l : List (Tx × α)} {d : Addr} {i jx jy : Nat} {ws ws1 : List Nat} {D : Ends} {tz : TS}
/-! ## comprehensions over the keys of a dict -/
theorem key_at {k : Nat} {kk : Key} {v : V} (h : (kd f l)[k]? = some (kk, v)) : k < (dkeys l).length ∧ kV kk = vs ((dkeys l).getD k []) ∧ (dkeys l).getD k [] ∈ dkeys l := by
  unfold kd at h
  rw [List.getElem?_map] at h
  cases e : l[k]? with
  | none =>
    rw [e] at h
    cases h
  | some y =>
    rw [e] at h
    have e2 : (dkeys l)[k]? = some y.1 := by
      unfold dkeys
      rw [List.getElem?_map, e]
      rfl
    have e3 : (dkeys l).getD k [] = y.1 := by
      rw [List.getD_eq_getElem?_getD, e2]
      rfl
    have e4 : (ky y.1, f y.2) = (kk, v) := Option.some.inj h
    refine ⟨(List.getElem?_eq_some_iff.mp e2).1, ?_, ?_⟩
    · rw [e3]
      have e5 : ky y.1 = kk := congrArg Prod.fst e4
      rw [← e5]
      rfl
    · rw [e3]
      exact List.mem_of_getElem? e2
theorem l_filK (c : Tx → Bool) (g : Tx → β) (hσ : σ[i]? = some (some (.ref d))) (hd : Rd H d (.dK (kd f l))) (hz : l.length ≤ 40000)
    (ht : ∀ y ∈ dkeys l, ∀ HL, Lk H d (kd f l) HL → EvT t ((wipe σ ws).set jx (some (vs y))) HL (c y))
    (he : ∀ y ∈ dkeys l, ∀ HL, Lk H d (kd f l) HL → c y = true → Ev te ((wipe σ ws).set jx (some (vs y))) HL (f2 (g y)))
    (hw : ∀ w, wipe ((wipe σ ws).set jx (some w)) ws = wipe σ ws := by exact fun _ => rfl) :
    EvL (tMayE (tLc (iKeys (tVar i)) (gName jx) t te ws)) σ H ((((dkeys l).filter c).map g).map f2) := fun H1 e Q q => by
  refine may_of (P := fun D H' => H' D = some (.lst ((((dkeys l).filter c).map g).map f2))) (ex_rd e hd) (fun o HB Q2 lk hB q2 => ?_) (fun o D H' ne _ hp => upd_keep ne hp) (fun D H2 n e2 h2 => q D H2 n e2 h2)
  have lk0 := Lk.back e hd lk
  have hlen : (dkeys l).length = l.length := List.length_map _
  refine ⟨.ref d, hσ, d, o, rfl, Or.inl ⟨kd f l, hB, fun Dl hD => ⟨fun k m H2 => m = l.length - k ∧ k ≤ l.length ∧ Cw HB (fun k => c ((dkeys l).getD k [])) (fun k => f2 (g ((dkeys l).getD k []))) Dl k H2, ⟨l.length, by simp, Nat.zero_le _, hD, Ex.new hD, upd_same⟩, fun k m H2 hW => ?_⟩⟩⟩
  obtain ⟨rfl, hk, hC⟩ := hW
  by_cases hlt : k < l.length
  · refine Or.inr ⟨⟨hC.2.1 d _ hB, by rw [kd_len]; exact hlt⟩, fun H3 => Cw HB (fun k => c ((dkeys l).getD k [])) (fun k => f2 (g ((dkeys l).getD k []))) Dl (k + 1) H3, fun H3 h3 => ⟨l.length - (k + 1), by omega, rfl, hlt, h3⟩, fun w H3 hy => ?_⟩
    obtain ⟨rfl, kk, vv, hkv, rfl⟩ := hy
    obtain ⟨_, ek, hm⟩ := key_at hkv
    rw [ek]
    exact ⟨hw _, cw_turn hC (by omega) (ht _ hm HB lk0) (fun hc => he _ hm HB lk0 hc)⟩
  · have ek : k = l.length := by omega
    subst ek
    have h3 := hC.2.2
    rw [← hlen, given_filter] at h3
    exact Or.inl ⟨⟨hC.2.1 d _ hB, by rw [kd_len]; exact Nat.le_refl _⟩, q2 Dl H2 hC.1 hC.2.1 h3⟩
theorem filt_yes {α : Type} (l : List α) : l.filter (fun _ => true) = l := List.filter_eq_self.mpr fun _ _ => rfl
theorem et_yes : EvT tYes σ H true := fun H1 _ Q k => k H1 (Ex.refl H1)
theorem l_mapK (g : Tx → β) (hσ : σ[i]? = some (some (.ref d))) (hd : Rd H d (.dK (kd f l))) (hz : l.length ≤ 40000)
    (he : ∀ y ∈ dkeys l, ∀ HL, Lk H d (kd f l) HL → Ev te ((wipe σ ws).set jx (some (vs y))) HL (f2 (g y)))
    (hw : ∀ w, wipe ((wipe σ ws).set jx (some w)) ws = wipe σ ws := by exact fun _ => rfl) :
    EvL (tMayE (tLc (iKeys (tVar i)) (gName jx) tYes te ws)) σ H (((dkeys l).map g).map f2) := by
  have h := l_filK (t := tYes) (fun _ => true) g hσ hd hz (fun _ _ _ _ => et_yes) (fun y hy HL lk _ => he y hy HL lk) hw
  rw [filt_yes] at h
  exact h
/-- over a new list -/
theorem l_filN {γ : Type} {f : γ → V} {m : List γ} (c : γ → Bool) (g : γ → β) (dv : γ) (h : EvL tl' σ H (m.map f)) (hz : m.length ≤ 40000)
    (ht : ∀ y ∈ m, EvT t ((wipe σ ws).set jx (some (f y))) H (c y)) (he : ∀ y ∈ m, c y = true → Ev te ((wipe σ ws).set jx (some (f y))) H (f2 (g y)))
    (hw : ∀ w, wipe ((wipe σ ws).set jx (some w)) ws = wipe σ ws := by exact fun _ => rfl) :
    EvL (tLc (iList K tl') (gName jx) t te ws) σ H (((m.filter c).map g).map f2) := by
  have q := el_lcNL (K := K) (t := t) (te := te) (fun k => c (m.getD k dv)) (fun k => f2 (g (m.getD k dv))) h (by rw [List.length_map]; exact hz) hw (fun k w H1 e hk => by
    obtain ⟨hm, ew⟩ := map_at dv hk
    rw [ew]
    exact (ht _ hm).mono e) (fun k w H1 e hk hc => by
    obtain ⟨hm, ew⟩ := map_at dv hk
    rw [ew]
    exact (he _ hm hc).mono e)
  rw [List.length_map, given_filter] at q
  exact q
theorem l_mapN {γ : Type} {f : γ → V} {m : List γ} (g : γ → β) (dv : γ) (h : EvL tl' σ H (m.map f)) (hz : m.length ≤ 40000)
    (he : ∀ y ∈ m, Ev te ((wipe σ ws).set jx (some (f y))) H (f2 (g y)))
    (hw : ∀ w, wipe ((wipe σ ws).set jx (some w)) ws = wipe σ ws := by exact fun _ => rfl) :
    EvL (tLc (iList K tl') (gName jx) tYes te ws) σ H ((m.map g).map f2) := by
  have q := l_filN (K := K) (t := tYes) (fun _ => true) g dv h hz (fun _ _ => et_yes) (fun y hy _ => he y hy) hw
  rw [filt_yes] at q
  exact q
theorem cr_anyK {X : Cx} (K : PySem.W.Frag) (hc : X.calm = true) (h : X.K = K := by rfl) : CallR X (.builtin "any") (rAny K) := h ▸ cr_any hc
theorem e_any {m : List Bool} (h : EvL ta σ H (m.map V.bl)) : Ev (tCB (rAny K) (tCons ta tNil)) σ H (.bl (m.any id)) := fun H1 e Q q =>
  h H1 e _ fun p H2 _ e2 hp => ⟨p, m, rfl, sq_of hp, q H2 e2⟩
/-! ## a list of tuples that grows -/
def Tw (K : PySem.W.Frag) (HB : Hp) (Dl : Addr) (ls : List (List V)) (H' : Hp) : Prop := HB Dl = none ∧ Ex HB H' ∧ IsLU K H' Dl ls
theorem tw_new {HB : Hp} {Dl : Addr} (h : HB Dl = none) : Tw K HB Dl [] (upd HB Dl (.lst [])) := ⟨h, Ex.new h, [], upd_same, .nil⟩
theorem tw_turn {HB H' : Hp} {Dl : Addr} {ls : List (List V)} {q : List V} {b : Bool} {σ2 : L2.St} {Nx : Hp → Prop} (p : Tw K HB Dl ls H') (hz : ls.length < 50000) (ht : EvT t σ2 HB b) (he : b = true → EvU te σ2 HB q)
    (hN : ∀ H6, (∀ x u, x ≠ Dl → H' x = some u → H6 x = some u) → Tw K HB Dl (ls ++ if b = true then [q] else []) H6 → Nx H6) :
    t σ2 H' fun b2 H3 => if b2 = true then te σ2 H3 fun y H4 => ∃ acc, H4 Dl = some (.lst acc) ∧ acc.length < sizeLine ∧ Nx (upd H4 Dl (.lst (acc ++ [y]))) else Nx H3 := by
  obtain ⟨p1, p2, ts, p3, p4⟩ := p
  refine ht H' p2 _ fun H3 e3 => ?_
  cases b with
  | false =>
    rw [if_neg Bool.false_ne_true]
    refine hN H3 (fun x u _ hu => e3 x u hu) ⟨p1, p2.trans e3, ts, e3 Dl _ p3, ?_⟩
    rw [if_neg Bool.false_ne_true, List.append_nil]
    exact tups_mono (fun _ _ => ex_t e3) p4
  | true =>
    rw [if_pos rfl]
    refine he rfl H3 (p2.trans e3) _ fun r H4 nr e4 hr => ⟨ts.map V.ref, e4 Dl _ (e3 Dl _ p3), ?_, hN _ (fun x u hx hu => upd_keep hx ((e3.trans e4) x u hu)) ⟨p1, Ex.mut ((p2.trans e3).trans e4) p1, ts ++ [r], ?_, ?_⟩⟩
    · rw [List.length_map, paired_len p4]
      exact sz_lt (by omega)
    · rw [upd_same, List.map_append]
      rfl
    · have h4 : H4 Dl = some (.lst (ts.map V.ref)) := e4 Dl _ (e3 Dl _ p3)
      rw [if_pos rfl]
      exact paired_app (tups_mono (fun _ _ h => sqt_upd h4 trivial (ex_t (e3.trans e4) h)) p4) (.cons (sqt_upd h4 trivial (st_of hr)) .nil)
theorem flat_take {γ δ : Type} (F : γ → List δ) : ∀ (m : List γ) (k : Nat) (dv : γ), k < m.length → (m.take (k + 1)).flatMap F = (m.take k).flatMap F ++ F (m.getD k dv)
  | y :: r, 0, dv, _ => by simp
  | y :: r, k + 1, dv, h => by
    have ih := flat_take F r k dv (by simpa using h)
    rw [List.take_succ_cons, List.flatMap_cons, ih, List.take_succ_cons, List.flatMap_cons, List.append_assoc]
    rfl
theorem flat_len {γ δ : Type} {F : γ → List δ} {n : Nat} : ∀ {m : List γ}, (∀ y ∈ m, (F y).length ≤ n) → (m.flatMap F).length ≤ m.length * n
  | [], _ => by simp
  | y :: r, h => by
    have ih := flat_len (F := F) (n := n) (m := r) fun z hz => h z (List.mem_cons_of_mem _ hz)
    have h1 := h y List.mem_cons_self
    rw [List.flatMap_cons, List.length_append, List.length_cons, Nat.succ_mul]
    omega
theorem fil_take {γ : Type} (c : γ → Bool) (g : γ → List V) : ∀ (m : List γ) (k : Nat) (dv : γ), k < m.length → ((m.take (k + 1)).filter c).map g = ((m.take k).filter c).map g ++ (if c (m.getD k dv) = true then [g (m.getD k dv)] else [])
  | y :: r, 0, dv, _ => by
    show (([y].filter c).map g) = [] ++ (if c y = true then [g y] else [])
    rw [List.filter_cons, List.nil_append]
    cases c y <;> rfl
  | y :: r, k + 1, dv, h => by
    have ih := fil_take c g r k dv (by simpa using h)
    have e : (y :: r).getD (k + 1) dv = r.getD k dv := rfl
    rw [List.take_succ_cons, List.take_succ_cons, List.filter_cons, List.filter_cons, e]
    cases c y with
    | true =>
      rw [if_pos rfl, if_pos rfl, List.map_cons, List.map_cons, ih]
      rfl
    | false =>
      rw [if_neg Bool.false_ne_true, if_neg Bool.false_ne_true]
      exact ih
theorem flat_map2 {γ δ ε ζ : Type} (m : List γ) (F : γ → List δ) (h : γ → δ → ε) (k : ε → ζ) (c : γ → δ → Bool) : (m.flatMap fun y => ((F y).filter (c y)).map fun z => k (h y z)) = (m.flatMap fun y => ((F y).filter (c y)).map (h y)).map k := by
  induction m with
  | nil => rfl
  | cons y r ih => rw [List.flatMap_cons, List.flatMap_cons, List.map_append, ih, List.map_map]; rfl
theorem yes_go {A B : Prop} (h : A) : if true = true then A else B := by
  rw [if_pos rfl]
  exact h
/-- [tuple for x in d for y in inn(x) if c] -/
theorem u_lc2K (inn : Tx → List Tx) (c : Tx → Tx → Bool) (g : Tx → Tx → List V) (n1 : Nat) (hσ : σ[i]? = some (some (.ref d))) (hd : Rd H d (.dK (kd f l))) (hn1 : ∀ y ∈ dkeys l, (inn y).length ≤ n1) (hz : l.length * n1 ≤ 40000) (hz1 : n1 ≤ 1000)
    (hin : ∀ y ∈ dkeys l, ∀ HL, Lk H d (kd f l) HL → EvL tin ((wipe σ ws).set jx (some (vs y))) HL ((inn y).map vs))
    (ht : ∀ y ∈ dkeys l, ∀ z ∈ inn y, ∀ HL, Lk H d (kd f l) HL → EvT t1 ((wipe ((wipe σ ws).set jx (some (vs y))) ws1).set jy (some (vs z))) HL (c y z))
    (he : ∀ y ∈ dkeys l, ∀ z ∈ inn y, ∀ HL, Lk H d (kd f l) HL → c y z = true → EvU te ((wipe ((wipe σ ws).set jx (some (vs y))) ws1).set jy (some (vs z))) HL (g y z))
    (hw : ∀ w, wipe ((wipe σ ws).set jx (some w)) ws = wipe σ ws := by exact fun _ => rfl)
    (hw1 : ∀ w w2, wipe ((wipe ((wipe σ ws).set jx (some w)) ws1).set jy (some w2)) ws1 = wipe ((wipe σ ws).set jx (some w)) ws1 := by exact fun _ _ => rfl) :
    EvU2 K (tMayE (tLc2 (iKeys (tVar i)) (gName jx) tYes (iList K tin) (gName jy) t1 te ws ws1)) σ H ((dkeys l).flatMap fun y => ((inn y).filter (c y)).map (g y)) := fun H1 e Q q => by
  refine may_of (P := fun Dl H' => IsLU K H' Dl ((dkeys l).flatMap fun y => ((inn y).filter (c y)).map (g y))) (ex_rd e hd) (fun o HB Q2 lk hB q2 => ?_) (fun o Dl H' ne hr hp => hp.upd ne hr trivial) (fun Dl H2 n e2 h2 => q Dl H2 n e2 h2)
  have lk0 := Lk.back e hd lk
  have hlen : (dkeys l).length = l.length := List.length_map _
  have hF : ∀ y ∈ dkeys l, (((inn y).filter (c y)).map (g y)).length ≤ n1 := fun y hy => by
    rw [List.length_map]
    exact Nat.le_trans (List.length_filter_le _ _) (hn1 y hy)
  refine ⟨.ref d, hσ, d, o, rfl, Or.inl ⟨kd f l, hB, fun Dl hD => ⟨fun k m H2 => m = l.length - k ∧ k ≤ l.length ∧ Tw K HB Dl (((dkeys l).take k).flatMap fun y => ((inn y).filter (c y)).map (g y)) H2, ⟨l.length, by simp, Nat.zero_le _, by rw [List.take_zero]; exact tw_new hD⟩, fun k m H2 hW => ?_⟩⟩⟩
  obtain ⟨rfl, hk, hC⟩ := hW
  by_cases hlt : k < l.length
  · refine Or.inr ⟨⟨hC.2.1 d _ hB, by rw [kd_len]; exact hlt⟩, fun H3 => Tw K HB Dl (((dkeys l).take (k + 1)).flatMap fun y => ((inn y).filter (c y)).map (g y)) H3, fun H3 h3 => ⟨l.length - (k + 1), by omega, rfl, hlt, h3⟩, fun w H3 hy => ?_⟩
    obtain ⟨rfl, kk, vv, hkv, rfl⟩ := hy
    obtain ⟨hk2, ek, hm⟩ := key_at hkv
    rw [ek]
    have hsnoc := flat_take (fun y => ((inn y).filter (c y)).map (g y)) (dkeys l) k [] hk2
    generalize hy0 : (dkeys l).getD k [] = y0 at hm hsnoc ⊢
    have hz0 : (((dkeys l).take k).flatMap fun y => ((inn y).filter (c y)).map (g y)).length ≤ 40000 := by
      have h5 := flat_len (F := fun y => ((inn y).filter (c y)).map (g y)) (n := n1) (m := (dkeys l).take k) fun y hy => hF y (List.mem_of_mem_take hy)
      have h6 : ((dkeys l).take k).length * n1 ≤ l.length * n1 := Nat.mul_le_mul_right _ (by rw [List.length_take, hlen]; omega)
      omega
    generalize hA : (((dkeys l).take k).flatMap fun y => ((inn y).filter (c y)).map (g y)) = A at hC hsnoc hz0
    refine ⟨hw _, ?_⟩
    refine @yes_go _ False ?_
    rw [if_pos rfl]
    refine hin y0 hm HB lk0 H3 hC.2.1 _ fun p H4 np e4 hp => ⟨p, rfl, ⟨_, sq_of hp⟩, ?_⟩
    have hI : Tw K HB Dl A H4 := ⟨hC.1, hC.2.1.trans e4, hC.2.2.ex e4⟩
    have hpD : p ≠ Dl := fun z => by
      obtain ⟨us, a, _⟩ := hC.2.2
      rw [← z, np] at a
      cases a
    have hpB : HB p = none := fresh_back hC.2.1 np
    refine ⟨fun j m H5 => m = (inn y0).length - j ∧ j ≤ (inn y0).length ∧ H5 p = some (.lst ((inn y0).map vs)) ∧ Tw K HB Dl (A ++ (((inn y0).take j).filter (c y0)).map (g y0)) H5, ⟨(inn y0).length, by simp, Nat.zero_le _, hp, by
      rw [List.take_zero, List.filter_nil, List.map_nil, List.append_nil]
      exact hI⟩, fun j m H5 hW5 => ?_⟩
    obtain ⟨rfl, hj, hp5, hC5⟩ := hW5
    by_cases hlj : j < (inn y0).length
    · refine Or.inr ⟨⟨_, vs ((inn y0).getD j []), sq_of hp5, ?_⟩, fun H6 => H6 p = some (.lst ((inn y0).map vs)) ∧ Tw K HB Dl (A ++ (((inn y0).take (j + 1)).filter (c y0)).map (g y0)) H6, fun H6 h6 => ⟨(inn y0).length - (j + 1), by omega, rfl, hlj, h6.1, h6.2⟩, fun w H6 hy6 => ?_⟩
      · rw [List.getElem?_map, List.getD_eq_getElem?_getD, List.getElem?_eq_getElem hlj]
        rfl
      · obtain ⟨rfl, hx⟩ := hy6
        obtain ⟨hm2, ew⟩ := map_at (f := vs) [] (hx _ (sq_of hp5))
        rw [ew]
        have hst := fil_take (c y0) (g y0) (inn y0) j [] hlj
        generalize hz1y : (inn y0).getD j [] = z0 at hm2 hst ⊢
        have hjl : (((inn y0).take j).filter (c y0)).length ≤ 1000 := Nat.le_trans (List.length_filter_le _ _) (by
          rw [List.length_take]
          have := hn1 y0 hm
          omega)
        refine ⟨hw1 _ _, ?_⟩
        refine tw_turn (b := c y0 z0) (q := g y0 z0) hC5 (by rw [List.length_append, List.length_map]; omega) (ht y0 hm z0 hm2 HB lk0) (fun hc => he y0 hm z0 hm2 HB lk0 hc) fun H6 k6 h6 => ⟨k6 p _ hpD hp5, ?_⟩
        rw [List.append_assoc, ← hst] at h6
        exact h6
    · have ej : j = (inn y0).length := by omega
      subst ej
      rw [List.take_length] at hC5
      refine Or.inl ⟨⟨_, sq_of hp5, by rw [List.length_map]; exact Nat.le_refl _⟩, ?_⟩
      rw [hsnoc]
      exact hC5
  · have ek : k = l.length := by omega
    subst ek
    rw [← hlen, List.take_length] at hC
    exact Or.inl ⟨⟨hC.2.1 d _ hB, by rw [kd_len]; exact Nat.le_refl _⟩, q2 Dl H2 hC.1 hC.2.1 hC.2.2⟩
/-! ## defs that give a new list of tuples -/
def RetU2 (K : PySem.W.Frag) (l : List (List V)) (H : Hp) (Q : VK) : Prop := ∀ p H2, H p = none → Ex H H2 → IsLU K H2 p l → Q (.ref p) H2
def spU2 (K : PySem.W.Frag) (R : List V → Hp → List (List V) → Prop) : Sp := fun vs' H Q _ => ∃ xs, R vs' H xs ∧ RetU2 K xs H Q
def SpU2 (K : PySem.W.Frag) (sp : Sp) (ws : List V) (H : Hp) (xs : List (List V)) : Prop := ∀ H1, Ex H H1 → ∀ Q : VK, (∀ p H2, H1 p = none → Ex H1 H2 → IsLU K H2 p xs → Q (.ref p) H2) → ∀ E : XK, sp ws H1 Q E
theorem su2_of {R : List V → Hp → List (List V) → Prop} {ws : List V} {xs : List (List V)} (h : ∀ H1, Ex H H1 → R ws H1 xs) : SpU2 K (spU2 K R) ws H xs := fun H1 e Q q _ => ⟨xs, h H1 e, q⟩
theorem eu2_call {sp : Sp} {dvs ws : List V} {xs : List (List V)} {E : XK} {ta : TA} (h : EvA ta σ H ws) (hs : SpU2 K sp (ws ++ dvs) H xs) : EvU2 K (tCall sp dvs E ta) σ H xs := fun H1 e Q q =>
  h H1 e _ fun H2 e2 => hs H2 (e.trans e2) Q (fun p H3 hp e3 h3 => q p H3 (fresh_back e2 hp) (e2.trans e3) h3) E
theorem RetU2.go {xs : List (List V)} {Q : VK} {H' : Hp} (k : RetU2 K xs H Q) (e : Ex H H') {p : Addr} {H2 : Hp} (hp : H' p = none) (e2 : Ex H' H2) (h : IsLU K H2 p xs) : Q (.ref p) H2 := k p H2 (fresh_back e hp) (e.trans e2) h
theorem s_retU2 {xs : List (List V)} (h : EvU2 K te σ H xs) (k : ∀ p H1, H p = none → Ex H H1 → IsLU K H1 p xs → D.rt (.ref p) H1) : tRet te D σ H := h H (Ex.refl H) _ fun p H1 hp e h1 => k p H1 hp e h1
theorem retU_T {b : Bool} {x y : List (List Tx)} {Q : VK} (k : RetU2 K ((if b = true then x else y).map (List.map vs)) H Q) (hb : b = true) : RetU2 K (x.map (List.map vs)) H Q := by
  rw [if_pos hb] at k
  exact k
theorem retU_F {b : Bool} {x y : List (List Tx)} {Q : VK} (k : RetU2 K ((if b = true then x else y).map (List.map vs)) H Q) (hb : b = false) : RetU2 K (y.map (List.map vs)) H Q := by
  rw [hb, if_neg Bool.false_ne_true] at k
  exact k
/-- compared with the empty list -/
theorem e_eqNil {l : List (List Tx)} (ha : EvU2 K ta σ H (l.map (List.map vs))) (hb : EvL tb σ H []) (ok : ∀ q ∈ l, ∀ p ∈ q, okT p) : Ev (tOp (rEqD K) ta tb) σ H (.bl (decide (l = []))) := fun H1 e1 Q q =>
  ha H1 e1 _ fun r H2 _ e2 hr => hb H2 (e1.trans e2) _ fun r2 H3 _ e3 hr2 => ⟨duD l, duD [], dp_LU (hr.ex e3), .lst (sq_of hr2) .nil, shaped_LU ok, by decide +kernel, by
    cases l with
    | nil =>
      rw [SeqAt.eqv_refl (duD []) (SeqAt.canLay_of_shaped (shaped_LU ok))]
      exact q H3 (e2.trans e3)
    | cons x y => exact q H3 (e2.trans e3)⟩
theorem e_neNil {l : List (List Tx)} (ha : EvU2 K ta σ H (l.map (List.map vs))) (hb : EvL tb σ H []) (ok : ∀ q ∈ l, ∀ p ∈ q, okT p) : Ev (tOp (rNeD K) ta tb) σ H (.bl (!decide (l = []))) := fun H1 e1 Q q =>
  ha H1 e1 _ fun r H2 _ e2 hr => hb H2 (e1.trans e2) _ fun r2 H3 _ e3 hr2 => ⟨duD l, duD [], dp_LU (hr.ex e3), .lst (sq_of hr2) .nil, shaped_LU ok, by decide +kernel, by
    cases l with
    | nil =>
      rw [SeqAt.eqv_refl (duD []) (SeqAt.canLay_of_shaped (shaped_LU ok))]
      exact q H3 (e2.trans e3)
    | cons x y => exact q H3 (e2.trans e3)⟩
/-! ## messages -/
theorem x_msg {s : String} {p : Tx} {Q : Hp → Prop} (h : Ev te σ H (vs p)) (hz : (tx s).length + p.length ≤ 90000) (k : ∀ H1, Ex H H1 → Q H1) : tJs [tC (.str (Str.ofString s)), tFmt te] Str.empty σ H (fun _ H1 => Q H1) := by
  refine ⟨Str.ofString s, rfl, ?_, h H (Ex.refl H) _ fun H1 e => Or.inl ⟨mk p, rfl, ?_, mk p, rfl, ?_, k H1 e⟩⟩
  · rw [lit_of]
    show (mk [] ++ mk (tx s)).length ≤ _
    rw [app_of, len_of, List.nil_append]
    exact sz_of (by omega)
  · rw [len_of]
    exact sz_of (by omega)
  · rw [lit_of]
    show (mk [] ++ mk (tx s) ++ mk p).length ≤ _
    rw [app_of, app_of, len_of, List.nil_append, List.length_append]
    exact sz_of (by omega)
end
/-- an own error made with any one argument -/
theorem pmk_any {X : Cx} {C : Addr} {bmB : List Value} {B newId initId : String} {x : Str} {e : Expr} {ta : TE} {p pos : Pos} (F : ExcBaseFacts B newId initId bmB) (qx : PySem.W.excIn X.K C bmB newId = true) (gC : X.mg x = some (.ref C)) (kC : PySem.W.keepIn X.K (.ref C) = true)
    (r : Raises X (.ref C)) (hg : Gl X x) (he : PE X e ta) (hs : starEach [e] X.env = (false, eval e X.env) :: starEach [] X.env := by rfl) (hdb : (x == ("__debug__" : Str)) = false := by decide) :
    L2N.PMk X (.Call (.Name x p) [e] [] pos) (fun σ H Q => ta σ H fun _ H1 => Q (.ref C) none H1) := by
  intro pins s σ H Q I h
  refine wpAny_Call_Name_kw (ld_glob I hg gC ?_ hdb)
  refine PySem.W.callWith_K (h₀ := X.base) I.ok.mod.kin kC ?_ hs (by rfl)
  rw [hs]
  refine Calls.spliced_cons (thn (he.run pins s σ H _ I h) fun u s1 hv => ?_)
  obtain ⟨v, H1, I1, r1, q1⟩ := hv
  refine Calls.spliced_nil ⟨I1.kIn, ?_⟩
  obtain ⟨_, _, _, _, _, _, _, _, _, _, _, _, _, _, _, _, _, hC, hN, hni, T⟩ := exc_obj I1.kIn qx
  refine wpAny_call_exc_subT F T hC hN hni (fun h' e2 hm => ?_) (by show 1 ≤ sizeLine; rw [sizeLine_eq]; omega)
  exact L2N.mk_of I1 hm r q1 (I1.hok.gone hm.new)
end Vf

/-! Own layer: texts in order; sorted dicts of any size. -/
namespace Vf
open PySem PySem.Spec PyProof.Rows L2 TL Evl
/-! ## texts in order -/
def srt (l : List Tx) : List Tx := l.mergeSort fun a b => decide (a ≤ b)
theorem srt_perm (l : List Tx) : (srt l).Perm l := List.mergeSort_perm _ _
theorem mem_srt {l : List Tx} {p : Tx} : p ∈ srt l ↔ p ∈ l := (srt_perm l).mem_iff
theorem srt_len (l : List Tx) : (srt l).length = l.length := (srt_perm l).length_eq
theorem tle_trans {a b c : Tx} (h1 : a ≤ b) (h2 : b ≤ c) : a ≤ c := List.le_trans h1 h2
theorem tle_total (a b : Tx) : a ≤ b ∨ b ≤ a := List.le_total a b
theorem tle_anti {a b : Tx} (h1 : a ≤ b) (h2 : b ≤ a) : a = b := List.le_antisymm h1 h2
theorem srt_pw (l : List Tx) : (srt l).Pairwise (· ≤ ·) := by
  have h := List.pairwise_mergeSort (le := fun a b : Tx => decide (a ≤ b)) (fun a b c h1 h2 => decide_eq_true (tle_trans (of_decide_eq_true h1) (of_decide_eq_true h2))) (fun a b => by
    rcases tle_total a b with h | h
    · rw [decide_eq_true h]
      rfl
    · rw [decide_eq_true h, Bool.or_true]) l
  exact h.imp fun h => of_decide_eq_true h
theorem srt_uniq {l m : List Tx} (h : m.Perm l) (hs : m.Pairwise (· ≤ ·)) : m = srt l :=
  List.Perm.eq_of_pairwise (le := (· ≤ ·)) (fun a b _ _ h1 h2 => tle_anti h1 h2) hs (srt_pw l) (h.trans (srt_perm l).symm)
theorem srt_congr {l m : List Tx} (h : m.Perm l) : srt m = srt l := srt_uniq ((srt_perm m).trans h) (srt_pw m)
theorem srt_nodup {l : List Tx} (h : l.Nodup) : (srt l).Nodup := (srt_perm l).nodup_iff.mpr h
theorem lt_of_cps (a b : Tx) : ltCps (mk a).cps.toList (mk b).cps.toList = decide (a < b) := ltCps_eq a b
theorem rising_pw : ∀ (l : List Tx) (p : Tx), risingS (mk p) (l.map mk) = true → (p :: l).Pairwise (· ≤ ·)
  | [], p, _ => List.pairwise_cons.mpr ⟨fun _ h => (nomatch h), .nil⟩
  | x :: r, p, h => by
    have h2 : (!ltCps (mk x).cps.toList (mk p).cps.toList && risingS (mk x) (r.map mk)) = true := h
    rw [Bool.and_eq_true, lt_of_cps] at h2
    have ih := rising_pw r x h2.2
    have hx : p ≤ x := by
      have h3 : decide (x < p) = false := by
        have := h2.1
        cases e : decide (x < p)
        · rfl
        · rw [e] at this
          cases this
      exact List.not_lt.mp (of_decide_eq_false h3)
    refine List.pairwise_cons.mpr ⟨fun y hy => ?_, ih⟩
    rcases List.mem_cons.mp hy with e | e
    · rw [e]
      exact hx
    · exact tle_trans hx ((List.pairwise_cons.mp ih).1 y e)
theorem map_mk_tl (ys : List Str) : (ys.map tl).map mk = ys := by
  rw [List.map_map]
  conv => rhs; rw [← List.map_id ys]
  exact List.map_congr_left fun y _ => mk_of y
theorem sorted_srt {ys : List Str} {l : List Tx} (h : ys.Perm (l.map mk)) (hs : sortedS ys = true) : ys = (srt l).map mk := by
  rw [← map_mk_tl ys] at hs
  have hp : (ys.map tl).Perm l := by
    have h2 := h.map tl
    rw [List.map_map] at h2
    have e : l.map (tl ∘ mk) = l := by
      conv => rhs; rw [← List.map_id l]
      exact List.map_congr_left fun y _ => tl_of y
    rw [e] at h2
    exact h2
  have hpw : (ys.map tl).Pairwise (· ≤ ·) := by
    revert hs
    cases ys.map tl with
    | nil => exact fun _ => .nil
    | cons x r => exact fun hs => rising_pw r x hs
  rw [← srt_uniq hp hpw, map_mk_tl]
/-! ## sorted(d) -/
def rSrtD : List V → Hp → VK → Prop := fun xs H Q => ∃ (a : Addr) (kvs : List (Key × V)) (ks : List Str), xs = [.ref a] ∧ Rd H a (.dK kvs) ∧ kvs.map (·.1) = ks.map Sum.inr ∧ ks.length ≤ sizeLine ∧
    ∀ ys p, ys.Perm ks → sortedS ys = true → H p = none → Q (.ref p) (upd H p (.lst (ys.map V.str)))
section
variable {X : Cx}
theorem call_srtD (hcalm : X.calm = true) : CallR X (.builtin "sorted") rSrtD := by
  intro pins s σ H xs us Q I r ⟨a, kvs, ks, ex, hd, hks, hsz, q⟩
  subst ex
  obtain ⟨u, eu, rx⟩ := vals1 r
  subst eu
  cases rx
  obtain ⟨z, lo, wv, rel, dd⟩ := dk_rd I.hok hd
  obtain ⟨ep, hat⟩ := dd.dictAt
  have hkeys : wv.map (·.1) = ks.map Sum.inr := rel.keys.symm.trans hks
  have hl : wv.length = ks.length := by
    have e := congrArg List.length hkeys
    rw [List.length_map, List.length_map] at e
    exact e
  refine Calls.call_function_entry PyProof.Rows.kind_sorted PyProof.Rows.plain_sorted PyProof.Rows.entry_sorted (PyProof.Rows.args_sorted1 _) ?_
  unfold Builtin.«sorted»
  refine wpAny_bind (m := checkCount "sorted" 1 1 _) (wpAny_pure ?_)
  refine wpAny_bind (PySem.W.kdu_collect (A := X.A.in1) (PySem.W.kdl_dict (knd := mixKind X.prog X.w) (kvs := wv) (ep := ep) lo) (I.ok.hd hcalm) hat (by rw [hl]; exact hsz) fun h2 tk acc hk hacc => ?_)
  have hal : acc.toList.length = ks.length := by rw [Array.length_toList, hacc.1, hl]
  have hS : StrsAre acc.toList ks := strs_at hal fun j v e => by
    obtain ⟨k, x, e1, e2⟩ := hacc.2 j v (by rw [← Array.getElem?_toList]; exact e)
    have e3 : (wv.map (·.1))[j]? = some k := by
      rw [List.getElem?_map, e1]
      rfl
    rw [hkeys, List.getElem?_map] at e3
    cases e4 : ks[j]? with
    | none =>
      rw [e4] at e3
      cases e3
    | some y =>
      rw [e4] at e3
      have e5 : Sum.inr y = k := Option.some.inj e3
      subst e5
      obtain ⟨t, ev⟩ := Value.isStrOf_shape (x := y) (v := v) e2
      exact ⟨y, t, rfl, ev⟩
  have I1 : Inv X pins σ H { s with heap := h2, toks := tk } := I.kept hk
  refine wpAny_bind (wpAny_newList ?_ (by rw [hal]; exact hsz))
  have hoL : (h2.push (seqObj "list" acc.toList.toArray 0)).get? h2.objs.size = some (seqObj "list" acc.toList.toArray 0) := Heap.get?_push_size _ rfl
  refine wpAny_bind (wpAny_holding (wpAny_call_entry PyProof.Rows.slot_list_sort ⟨_, hoL, rfl⟩ PyProof.Rows.entry_list_sort
    (list_sort_treeKAny strKind_oneLt (s := { s with heap := h2.push (seqObj "list" acc.toList.toArray 0), toks := tk }) hoL hS.keysOf (fun v₁ v₂ rest e => keyKind_strs (by rw [← e]; exact hS)) (by rw [hal]; exact hsz) fun st2 hp hs => ⟨_, rfl, ?_⟩)
    (PyProof.Rows.args_list_sort _)))
  obtain ⟨ys, g1, g2, g3⟩ := sorted_out_str hS hp hs
  obtain ⟨e2, he2⟩ := PyProof.Rows.sortedHeap_at (vs := acc.toList) (out := (arrOf st2).map (·.2)) hoL
  refine wpAny_pure ⟨_, rfl, .ref h2.objs.size, upd H h2.objs.size (.lst (ys.map V.str)), I1.laid (t' := tk) (fun b u e => ?_) (Nat.le_refl _)
    (show ObjOk X.prog X.w _ _ _ (.lst (ys.map V.str)) from ⟨by rw [List.length_map, g2.length_eq]; exact hsz, ((arrOf st2).map (·.2)).toList, e2, vals_of_strs g1, by rw [Array.toArray_toList]; exact he2⟩), rfl, q ys _ g2 g3 (I1.hok.fresh (Nat.le_refl _))⟩
  have hb : b < h2.objs.size := Heap.lt_size e
  rw [PyProof.Rows.sortedHeap_old (Nat.ne_of_lt hb) (by rw [size_push']; exact Nat.lt_succ_of_lt hb)]
  exact Heap.get?_push_of_some _ e
end
section
variable {σ : L2.St} {H : Hp} {ta : TE} {α : Type} {f : α → V} {l : List (Tx × α)} {d : Addr}
theorem l_srtD (hd : Ev ta σ H (.ref d)) (h : Rd H d (.dK (kd f l))) (hz : l.length ≤ 40000) : EvL (tCB rSrtD (tCons ta tNil)) σ H ((srt (dkeys l)).map vs) := fun H1 e Q q =>
  hd H1 e _ fun H2 e2 => ⟨d, kd f l, (dkeys l).map mk, rfl, ex_rd (e.trans e2) h, by
    unfold kd dkeys
    rw [List.map_map, List.map_map, List.map_map]
    rfl, by
    unfold dkeys
    rw [List.length_map, List.length_map]
    exact sz_of (by omega), fun ys p hp hs np => by
    rw [sorted_srt hp hs, ← map_vs]
    exact q p _ (fresh_back e2 np) (e2.trans (Ex.new np)) upd_same⟩
end
end Vf

/-! Own layer: lists of tuples, further; tuples that are read; walks over lists of tuples. -/
namespace Vf
open PySem PySem.Spec PyProof.Rows L2 TL Evl
section
variable {K : PySem.W.Frag} {σ : L2.St} {H H1 H2 : Hp} {ta tb te td tl' : TE} {p d : Addr} {l m : List (List V)} {kvs : List (Key × V)}
/-- a list of tuples that is read -/
def IsLUr (K : PySem.W.Frag) (H : Hp) (p : Addr) (l : List (List V)) : Prop := ∃ ts, SqL K H p (ts.map V.ref) ∧ TupsAt K H ts l
theorem IsLU.r (h : IsLU K H p l) : IsLUr K H p l := h.sq
theorem IsLUr.ex (h : IsLUr K H p l) (e : Ex H H2) : IsLUr K H2 p l := by
  obtain ⟨ts, a, b⟩ := h
  exact ⟨ts, ex_l e a, tups_mono (fun _ _ => ex_t e) b⟩
theorem IsLUr.rx (h : IsLUr K H p l) (r : RX H H2) : IsLUr K H2 p l := by
  obtain ⟨ts, a, b⟩ := h
  exact ⟨ts, rx_l r a, tups_mono (fun _ _ => rx_t r) b⟩
/-- a tuple, new or not -/
def EvTu (K : PySem.W.Frag) (te : TE) (σ : L2.St) (H : Hp) (xs : List V) : Prop := ∀ H1, Ex H H1 → ∀ Q : VK, (∀ t H2, Ex H1 H2 → SqT K H2 t xs → Q (.ref t) H2) → te σ H1 Q
theorem tu_new {xs : List V} (h : EvU te σ H xs) : EvTu K te σ H xs := fun H1 e Q q => h H1 e Q fun t H2 _ e2 ht => q t H2 e2 (st_of ht)
theorem tu_of {xs : List V} {t : Addr} (h : Ev te σ H (.ref t)) (ht : SqT K H t xs) : EvTu K te σ H xs := fun H1 e Q q => h H1 e Q fun H2 e2 => q t H2 e2 (ex_t (e.trans e2) ht)
theorem tu_is {xs ys : List V} (h : EvTu K te σ H xs) (e : xs = ys) : EvTu K te σ H ys := e ▸ h
theorem er_consT {ta : TA} {xs : List V} (h : EvTu K te σ H xs) (hr : EvR K ta σ H l) : EvR K (tCons te ta) σ H (xs :: l) := fun H1 e _ q => h H1 e _ fun p H2 e2 hp => hr H2 (e.trans e2) _ fun ts H3 e3 ht => q (p :: ts) H3 (e2.trans e3) (.cons (ex_t e3 hp) ht)
/-- an item of a list of tuples -/
theorem tup_get {ts : List Addr} {l : List (List V)} (h : TupsAt K H ts l) {i : Int} (h0 : 0 ≤ i ∧ i < l.length) : ∃ t, atI (ts.map V.ref) i = some (.ref t) ∧ SqT K H t (l.getD i.toNat []) := by
  have hl := paired_len h
  obtain ⟨n, rfl⟩ := Int.eq_ofNat_of_zero_le h0.1
  have hn : n < ts.length := by omega
  have e : (ts.map V.ref)[n]? = some (.ref (ts[n])) := by
    rw [List.getElem?_map, List.getElem?_eq_getElem hn]
    rfl
  obtain ⟨t, q, e2, e3, e4⟩ := tup_at (ts := ts) (i := n) h e
  refine ⟨t, ?_, ?_⟩
  · have h5 := atI_get V.ref ts 0 h0.1 (by omega)
    rw [h5]
    have e6 : ts.getD (n : Int).toNat 0 = ts[n] := by
      rw [List.getD_eq_getElem?_getD, Int.toNat_natCast, List.getElem?_eq_getElem hn]
      rfl
    rw [e6, e2]
  · have e6 : l.getD (n : Int).toNat [] = q := by
      rw [List.getD_eq_getElem?_getD, Int.toNat_natCast, e3]
      rfl
    rw [e6]
    exact e4
theorem tu_ixR {i : Int} (h : Ev ta σ H (.ref p)) (hp : IsLUr K H p l) (hb : Ev tb σ H (.int i)) (hi : 0 ≤ i ∧ i < l.length) : EvTu K (tOp (rIxL K) ta tb) σ H (l.getD i.toNat []) := fun H1 e Q q =>
  h H1 e _ fun H2 e2 => hb H2 (e.trans e2) _ fun H3 e3 => by
    obtain ⟨ts, h1, h2⟩ := hp.ex ((e.trans e2).trans e3)
    obtain ⟨t, a, b⟩ := tup_get h2 hi
    exact ⟨p, _, i, _, rfl, rfl, h1, a, q t H3 (e2.trans e3) b⟩
theorem tu_ixN {i : Int} (h : EvU2 K ta σ H l) (hb : Ev tb σ H (.int i)) (hi : 0 ≤ i ∧ i < l.length) : EvTu K (tOp (rIxL K) ta tb) σ H (l.getD i.toNat []) := fun H1 e Q q =>
  h H1 e _ fun p H2 _ e2 hp => hb H2 (e.trans e2) _ fun H3 e3 => by
    obtain ⟨ts, h1, h2⟩ := (hp.ex e3).sq
    obtain ⟨t, a, b⟩ := tup_get h2 hi
    exact ⟨p, _, i, _, rfl, rfl, h1, a, q t H3 (e2.trans e3) b⟩
theorem getD_mapU {α : Type} (f : α → V) (l : List (List α)) (n : Nat) : (l.map (List.map f)).getD n [] = (l.getD n []).map f := by
  rw [List.getD_eq_getElem?_getD, List.getD_eq_getElem?_getD, List.getElem?_map]
  cases l[n]? <;> rfl
theorem s_asgTu {D : Ends} {i : Nat} {xs : List V} (h : EvTu K te σ H xs) (k : ∀ t H1, Ex H H1 → SqT K H1 t xs → D.nx (σ.set i (some (.ref t))) H1) : tAsg te (gName i) D σ H := h H (Ex.refl H) _ fun t H1 e ht => k t H1 e ht
theorem q_asgTu {D : Ends} {tz : TS} {i : Nat} {xs : List V} (h : EvTu K te σ H xs) (k : ∀ t H1, Ex H H1 → SqT K H1 t xs → tz D (σ.set i (some (.ref t))) H1) : tSeq (tAsg te (gName i)) tz D σ H := s_asgTu (D := { D with nx := tz D }) h k
theorem s_retTu {D : Ends} {xs : List V} (h : EvTu K te σ H xs) (k : ∀ t H1, Ex H H1 → SqT K H1 t xs → D.rt (.ref t) H1) : tRet te D σ H := h H (Ex.refl H) _ fun t H1 e ht => k t H1 e ht
/-! defs that give a tuple -/
def RetTu (K : PySem.W.Frag) (xs : List V) (H : Hp) (Q : VK) : Prop := ∀ t H2, Ex H H2 → SqT K H2 t xs → Q (.ref t) H2
def spTu (K : PySem.W.Frag) (R : List V → Hp → List V → Prop) : Sp := fun ws H Q _ => ∃ xs, R ws H xs ∧ RetTu K xs H Q
theorem tu_call {R : List V → Hp → List V → Prop} {ws xs : List V} {E : XK} {ta : TA} (h : EvA ta σ H ws) (hs : ∀ H1, Ex H H1 → R ws H1 xs) : EvTu K (tCall (spTu K R) [] E ta) σ H xs := fun H1 e Q q =>
  h H1 e _ fun H2 e2 => ⟨xs, by rw [List.append_nil]; exact hs H2 (e.trans e2), fun t H3 e3 ht => q t H3 (e2.trans e3) ht⟩
theorem RetTu.go {xs : List V} {Q : VK} {H' : Hp} (k : RetTu K xs H Q) (e : Ex H H') {t : Addr} {H2 : Hp} (e2 : Ex H' H2) (h : SqT K H2 t xs) : Q (.ref t) H2 := k t H2 (e.trans e2) h
/-! slices, sums, copies -/
theorem paired_take {α β : Type} {F : α → β → Prop} : ∀ {a : List α} {b : List β} (n : Nat), Paired F a b → Paired F (a.take n) (b.take n)
  | _, _, 0, _ => .nil
  | _, _, n + 1, .nil => .nil
  | _, _, n + 1, .cons x r => .cons x (paired_take n r)
theorem paired_drop {α β : Type} {F : α → β → Prop} : ∀ {a : List α} {b : List β} (n : Nat), Paired F a b → Paired F (a.drop n) (b.drop n)
  | _, _, 0, h => h
  | _, _, n + 1, .nil => .nil
  | _, _, n + 1, .cons x r => paired_drop n r
theorem paired_cut {α β : Type} {F : α → β → Prop} {a : List α} {b : List β} (h : Paired F a b) (lo hi : Option Int) : Paired F (cutG a lo hi) (cutG b lo hi) := by
  unfold cutG
  rw [paired_len h]
  exact paired_take _ (paired_drop _ h)
theorem u2_slR {tlo thi : TO} {lo hi : Option Int} (h : Ev te σ H (.ref p)) (hp : IsLUr K H p l) (h1 : EvO tlo σ H lo) (h2 : EvO thi σ H hi) : EvU2 K (tSl (rSlL K) te tlo thi) σ H (cutG l lo hi) := fun H1 e Q q =>
  h H1 e _ fun H2 e2 => h1 H2 (e.trans e2) _ fun H3 e3 => h2 H3 ((e.trans e2).trans e3) _ fun H4 e4 => by
    obtain ⟨ts, a, b⟩ := hp.ex (((e.trans e2).trans e3).trans e4)
    refine ⟨p, _, rfl, a, fun r nr => q r _ (fresh_back ((e2.trans e3).trans e4) nr) (((e2.trans e3).trans e4).trans (Ex.new nr)) ⟨cutG ts lo hi, by rw [upd_same, cutV_map], tups_mono (fun _ _ => ex_t (Ex.new nr)) (paired_cut b lo hi)⟩⟩
theorem cutG_map {α β : Type} (f : α → β) (l : List α) (lo hi : Option Int) : cutG (l.map f) lo hi = (cutG l lo hi).map f := by
  unfold cutG
  rw [List.length_map, List.map_take, List.map_drop]
theorem cat_core {ts us : List Addr} {r : Addr} {Q : VK} (h1 : H p = some (.lst (ts.map V.ref))) (h2 : TupsAt K H ts l) (h3 : H r = some (.lst (us.map V.ref))) (h4 : TupsAt K H us m) (hz : l.length + m.length ≤ 100000)
    (q : ∀ z, H z = none → IsLU K (upd H z (.lst ((ts ++ us).map V.ref))) z (l ++ m) → Q (.ref z) (upd H z (.lst ((ts ++ us).map V.ref)))) : rCat (.ref p) (.ref r) H Q :=
  ⟨p, r, _, _, rfl, rfl, h1, h3, by rw [List.length_map, List.length_map, paired_len h2, paired_len h4]; exact sz_of hz, fun z nz => by
    rw [← List.map_append]
    exact q z nz ⟨ts ++ us, upd_same, tups_mono (fun _ _ => ex_t (Ex.new nz)) (paired_app h2 h4)⟩⟩
theorem u2_catRR {r : Addr} (ha : Ev ta σ H (.ref p)) (h : IsLU K H p l) (hb : Ev tb σ H (.ref r)) (h2 : IsLU K H r m) (hz : l.length + m.length ≤ 100000) : EvU2 K (tOp rCat ta tb) σ H (l ++ m) := fun H1 e Q q =>
  ha H1 e _ fun H2 e2 => hb H2 (e.trans e2) _ fun H3 e3 => by
    obtain ⟨ts, a1, a2⟩ := h.ex ((e.trans e2).trans e3)
    obtain ⟨us, b1, b2⟩ := h2.ex ((e.trans e2).trans e3)
    exact cat_core a1 a2 b1 b2 hz fun z nz hi => q z _ (fresh_back (e2.trans e3) nz) ((e2.trans e3).trans (Ex.new nz)) hi
theorem u2_catNN (ha : EvU2 K ta σ H l) (hb : EvU2 K tb σ H m) (hz : l.length + m.length ≤ 100000) : EvU2 K (tOp rCat ta tb) σ H (l ++ m) := fun H1 e Q q =>
  ha H1 e _ fun p H2 _ e2 hp => hb H2 (e.trans e2) _ fun r H3 _ e3 hr => by
    obtain ⟨ts, a1, a2⟩ := hp.ex e3
    obtain ⟨us, b1, b2⟩ := hr
    exact cat_core a1 a2 b1 b2 hz fun z nz hi => q z _ (fresh_back (e2.trans e3) nz) ((e2.trans e3).trans (Ex.new nz)) hi
theorem u2_catNR {r : Addr} (ha : EvU2 K ta σ H l) (hb : Ev tb σ H (.ref r)) (h2 : IsLU K H r m) (hz : l.length + m.length ≤ 100000) : EvU2 K (tOp rCat ta tb) σ H (l ++ m) := fun H1 e Q q =>
  ha H1 e _ fun p H2 _ e2 hp => hb H2 (e.trans e2) _ fun H3 e3 => by
    obtain ⟨ts, a1, a2⟩ := hp.ex e3
    obtain ⟨us, b1, b2⟩ := h2.ex ((e.trans e2).trans e3)
    exact cat_core a1 a2 b1 b2 hz fun z nz hi => q z _ (fresh_back (e2.trans e3) nz) ((e2.trans e3).trans (Ex.new nz)) hi
theorem call_listK {X : Cx} (K : PySem.W.Frag) (h : X.K = K := by rfl) : CallR X (.type "list") (rListS K) := h ▸ call_list_of
theorem u2_list (h : Ev te σ H (.ref p)) (hp : IsLUr K H p l) : EvU2 K (tCB (rListS K) (tCons te tNil)) σ H l := fun H1 e Q q =>
  h H1 e _ fun H2 e2 => by
    obtain ⟨ts, a, b⟩ := hp.ex (e.trans e2)
    exact ⟨p, _, rfl, Or.inl a, fun r nr => q r _ (fresh_back e2 nr) (e2.trans (Ex.new nr)) ⟨ts, upd_same, tups_mono (fun _ _ => ex_t (Ex.new nr)) b⟩⟩
/-! lengths -/
theorem e_lenLU (h : Ev te σ H (.ref p)) (hp : IsLUr K H p l) : Ev (tCB (rLenS K) (tCons te tNil)) σ H (.int (l.length : Int)) := fun H1 e Q q =>
  h H1 e _ fun H2 e2 => by
    obtain ⟨ts, a, b⟩ := hp.ex (e.trans e2)
    refine ⟨p, _, rfl, Or.inl a, ?_⟩
    rw [List.length_map, paired_len b]
    exact q H2 e2
theorem e_lenTu {α : Type} {f : α → V} {xs : List α} {t : Addr} (h : Ev te σ H (.ref t)) (hp : SqT K H t (xs.map f)) : Ev (tCB (rLenS K) (tCons te tNil)) σ H (.int (xs.length : Int)) := fun H1 e Q q =>
  h H1 e _ fun H2 e2 => ⟨t, _, rfl, Or.inr (ex_t (e.trans e2) hp), by
    rw [List.length_map]
    exact q H2 e2⟩
/-! the sort of a tuple -/
theorem tyx_tup {t : Addr} {xs : List V} (h : SqT K H t xs) : TyX K H (.ref t) (.type "tuple") := by
  rcases h with (h | ⟨o, h⟩) | ⟨o, _, _, h, hc, _⟩
  · exact .base (.tup h)
  · exact .fTuple h
  · exact .kTuple h hc
end
end Vf

/-! Own layer: == of tuples whose items are equal by a way of their own (dicts among them). -/
namespace PySem.SeqAt
open AutoSeq1 (wpAny_loadPart')
open MeetsSeq MeetsSeq2 MeetsSeq3 SeqRoads2
section
variable {P : Program} {w : World}
theorem vf_tuple_eqIn (a b : Addr) (xs ys : Array Value) (m m2 : Nat) (d1 d2 : Option Addr) (z1 z2 : Array (Option Value)) (hsz : xs.size = ys.size) :
    MeetsIn P w (Builtin.«tuple.__eq__» ⟨[.ref a, .ref b], []⟩)
      (fun A R s => s.heap.get? a = some { cls := .type "tuple", dict := d1, data := .seq xs m, slots := z1 } ∧ s.heap.get? b = some { cls := .type "tuple", dict := d2, data := .seq ys m2, slots := z2 } ∧
        (∀ j (h1 : j < xs.size) (h2 : j < ys.size), EqP P w A.in1 s xs[j] ys[j] true) ∧ R (.ok (.ret (.bool true))) s) := by
  intro A R s h
  obtain ⟨hp, g, d, tk, os⟩ := s
  obtain ⟨ha, hb, he, hR⟩ := h
  have f2 := AutoSeq1.sub_tuple_tuple
  have hZ : (xs.toList.zip ys.toList).length = xs.size := by simp [hsz]
  wp_walk using wpAny_loadPart' ha, wpAny_loadPart' hb, wpAny_forIn_list _ (fun rest b s' => b.1 = none ∧ s' = ⟨hp, g, d, tk, os⟩ ∧ ∃ i, rest = (xs.toList.zip ys.toList).drop i) _
  case turn =>
    rintro ⟨y, x⟩ rest b2 s2 ⟨hb2, rfl, i, hz⟩
    have hlt : i < (xs.toList.zip ys.toList).length := by
      rcases Nat.lt_or_ge i (xs.toList.zip ys.toList).length with h2 | h2
      · exact h2
      · rw [List.drop_of_length_le h2] at hz
        cases hz
    have h1 : i < xs.size := hZ ▸ hlt
    have h2 : i < ys.size := hsz ▸ h1
    rw [List.drop_eq_getElem_cons hlt] at hz
    injection hz with hyx hrest
    have hy : y = xs[i] := by
      have := congrArg Prod.fst hyx
      simpa using this
    have hx : x = ys[i] := by
      have := congrArg Prod.snd hyx
      simpa using this
    subst hy hx
    refine wpAny_bind (he i h1 h2 _ _ ?_)
    wp_walk
    exact ⟨rfl, rfl, i + 1, hrest⟩
  case fin =>
    rintro ⟨b1, b2⟩ s2 ⟨hb2, rfl, i, hz⟩
    simp only at hb2
    subst hb2
    wp_walk
    exact by simpa [Builtin.Tuple.tupleCompareSizes, hsz] using hR
  case h => exact ⟨rfl, rfl, 0, rfl⟩
theorem vf_rcP_tuples {A : Around} {s : Shared} {a b : Addr} {xs ys : Array Value} (ha : s.heap.IsTuple a xs) (hb : s.heap.IsTuple b ys) (hsz : xs.size = ys.size) (hu : A.units < cLine)
    (he : ∀ j (h1 : j < xs.size) (h2 : j < ys.size), EqP P w A.in1 s xs[j] ys[j] true) (E Q : Value → Shared → Prop) (h : Q (.bool true) s) : wpAny (model P w) A (richCompare .Eq (.ref a) (.ref b)) Q E s := by
  obtain ⟨⟨c1, e1, f1, z1⟩, ho, hc, m, hd⟩ := id ha
  obtain ⟨⟨c2, e2, f2, z2⟩, ho2, hc2, m2, hd2⟩ := id hb
  simp only at hc hd hc2 hd2
  subst hc hd hc2 hd2
  have ta : s.TypeIs (.ref a) "tuple" := ⟨_, ho, rfl⟩
  have tb : s.TypeIs (.ref b) "tuple" := ⟨_, ho2, rfl⟩
  exact wpAny_richCompare_same_room (op := .Eq) ta tb F.slot_tuple_eq (call_meetsIn F.slot_tuple_eq ta F.entry_tuple_eq (F.args_tuple_eq_2 _ _) (vf_tuple_eqIn a b xs ys m m2 e1 e2 z1 z2 hsz)
    ⟨ho, ho2, he, show Value.bool true ≠ Value.notImplemented ∧ Q (.bool true) s from ⟨(fun x => nomatch x), h⟩⟩) hu
theorem vf_tuple_neIn (a b : Addr) (xs ys : Array Value) (m m2 : Nat) (d1 d2 : Option Addr) (z1 z2 : Array (Option Value)) (hsz : xs.size = ys.size) :
    MeetsIn P w (Builtin.«tuple.__ne__» ⟨[.ref a, .ref b], []⟩)
      (fun A R s => s.heap.get? a = some { cls := .type "tuple", dict := d1, data := .seq xs m, slots := z1 } ∧ s.heap.get? b = some { cls := .type "tuple", dict := d2, data := .seq ys m2, slots := z2 } ∧
        (∀ j (h1 : j < xs.size) (h2 : j < ys.size), EqP P w A.in1 s xs[j] ys[j] true) ∧ R (.ok (.ret (.bool false))) s) := by
  intro A R s h
  obtain ⟨hp, g, d, tk, os⟩ := s
  obtain ⟨ha, hb, he, hR⟩ := h
  have f2 := AutoSeq1.sub_tuple_tuple
  have hZ : (xs.toList.zip ys.toList).length = xs.size := by simp [hsz]
  wp_walk using wpAny_loadPart' ha, wpAny_loadPart' hb, wpAny_forIn_list _ (fun rest b s' => b.1 = none ∧ s' = ⟨hp, g, d, tk, os⟩ ∧ ∃ i, rest = (xs.toList.zip ys.toList).drop i) _
  case turn =>
    rintro ⟨y, x⟩ rest b2 s2 ⟨hb2, rfl, i, hz⟩
    have hlt : i < (xs.toList.zip ys.toList).length := by
      rcases Nat.lt_or_ge i (xs.toList.zip ys.toList).length with h2 | h2
      · exact h2
      · rw [List.drop_of_length_le h2] at hz
        cases hz
    have h1 : i < xs.size := hZ ▸ hlt
    have h2 : i < ys.size := hsz ▸ h1
    rw [List.drop_eq_getElem_cons hlt] at hz
    injection hz with hyx hrest
    have hy : y = xs[i] := by
      have := congrArg Prod.fst hyx
      simpa using this
    have hx : x = ys[i] := by
      have := congrArg Prod.snd hyx
      simpa using this
    subst hy hx
    refine wpAny_bind (he i h1 h2 _ _ ?_)
    wp_walk
    exact ⟨rfl, rfl, i + 1, hrest⟩
  case fin =>
    rintro ⟨b1, b2⟩ s2 ⟨hb2, rfl, i, hz⟩
    simp only at hb2
    subst hb2
    wp_walk
    exact by simpa [Builtin.Tuple.tupleCompareSizes, hsz] using hR
  case h => exact ⟨rfl, rfl, 0, rfl⟩
theorem vf_rcP_tuples_ne {A : Around} {s : Shared} {a b : Addr} {xs ys : Array Value} (ha : s.heap.IsTuple a xs) (hb : s.heap.IsTuple b ys) (hsz : xs.size = ys.size) (hu : A.units < cLine)
    (he : ∀ j (h1 : j < xs.size) (h2 : j < ys.size), EqP P w A.in1 s xs[j] ys[j] true) (E Q : Value → Shared → Prop) (h : Q (.bool false) s) : wpAny (model P w) A (richCompare .NotEq (.ref a) (.ref b)) Q E s := by
  obtain ⟨⟨c1, e1, f1, z1⟩, ho, hc, m, hd⟩ := id ha
  obtain ⟨⟨c2, e2, f2, z2⟩, ho2, hc2, m2, hd2⟩ := id hb
  simp only at hc hd hc2 hd2
  subst hc hd hc2 hd2
  have ta : s.TypeIs (.ref a) "tuple" := ⟨_, ho, rfl⟩
  have tb : s.TypeIs (.ref b) "tuple" := ⟨_, ho2, rfl⟩
  exact wpAny_richCompare_same_room (op := .NotEq) ta tb F.slot_tuple_ne (call_meetsIn F.slot_tuple_ne ta F.entry_tuple_ne (F.args_tuple_ne_2 _ _) (vf_tuple_neIn a b xs ys m m2 e1 e2 z1 z2 hsz)
    ⟨ho, ho2, he, show Value.bool false ≠ Value.notImplemented ∧ Q (.bool false) s from ⟨(fun x => nomatch x), h⟩⟩) hu
end
end PySem.SeqAt

namespace Vf
open PySem PySem.Spec PyProof.Rows L2 TL Evl
/-! ## things that are equal item by item -/
def QR (K : PySem.W.Frag) (H : Hp) (E : V → V → Prop) (x y : V) : Prop := EqR K H E x y ∨ ∃ a b xs ys, x = .ref a ∧ y = .ref b ∧ SqT K H a xs ∧ SqT K H b ys ∧ Paired E xs ys
def QV (K : PySem.W.Frag) (H : Hp) : Nat → V → V → Prop
  | 0 => fun _ _ => False
  | n + 1 => fun x y => (x = y ∧ flatB x = true) ∨ (∃ a, x = .ref a ∧ y = .ref a) ∨ QR K H (QV K H n) x y
section
variable {X : Cx} {pins : List (Addr × Obj)} {σ : L2.St} {H : Hp} {s : Shared}
theorem tups_in {A : Around} {F : V → V → Prop} (I : Inv X pins σ H s) (ih : ∀ x y v u, F x y → RelV x v → RelV y u → SeqAt.EqP X.prog X.w A.in1 s v u true) {a b : Addr} {xs ys : List V} (ha : SqT X.K H a xs) (hb : SqT X.K H b ys) (hp : Paired F xs ys) :
    ∃ us ws : Array Value, s.heap.IsTuple a us ∧ s.heap.IsTuple b ws ∧ us.size = ws.size ∧ ∀ j (h1 : j < us.size) (h2 : j < ws.size), SeqAt.EqP X.prog X.w A.in1 s us[j] ws[j] true := by
  obtain ⟨us, r1, p1, _⟩ := I.tuple ha
  obtain ⟨ws, r2, p2, _⟩ := I.tuple hb
  refine ⟨us.toArray, ws.toArray, p1, p2, ?_, fun j h1 h2 => ?_⟩
  · rw [List.size_toArray, List.size_toArray, ← r1.length, ← r2.length]
    exact paired_len hp
  · have k := items_run ih hp r1 r2 j (by simpa using h1) (by simpa using h2)
    simpa using k
theorem qR_run (I : Inv X pins σ H s) {A : Around} {F : V → V → Prop} (hu : A.units < cLine) (ih : ∀ x y v u, F x y → RelV x v → RelV y u → SeqAt.EqP X.prog X.w A.in1 s v u true) {x y : V} {v u : Value} (h : QR X.K H F x y) (rx : RelV x v) (ry : RelV y u)
    (E Q : Value → Shared → Prop) (q : Q (.bool true) s) : wpAny (model X.prog X.w) A (richCompare .Eq v u) Q E s := by
  rcases h with h | ⟨a, b, xs, ys, rfl, rfl, ha, hb, hp⟩
  · exact eqR_run I hu ih h rx ry E Q q
  · cases (show v = Value.ref a from rx)
    cases (show u = Value.ref b from ry)
    obtain ⟨us, ws, p1, p2, hsz, hj⟩ := tups_in I ih ha hb hp
    exact SeqAt.vf_rcP_tuples p1 p2 hsz hu hj E Q q
theorem qV_run (I : Inv X pins σ H s) : ∀ (n : Nat) (A : Around), A.units + n < cLine → ∀ (x y : V) (v u : Value), QV X.K H n x y → RelV x v → RelV y u → SeqAt.EqP X.prog X.w A s v u true
  | 0, _, _, _, _, _, _, h, _, _ => (show False from h).elim
  | n + 1, A, hu, x, y, v, u, h, rx, ry => by
    rcases h with ⟨rfl, f⟩ | ⟨a, rfl, rfl⟩ | h
    · exact (eqAt_same rx ry f).eqP
    · cases (show v = Value.ref a from rx)
      cases (show u = Value.ref a from ry)
      exact (SeqAt.EqAt.same _).eqP
    · have step := qR_run I (A := A) (by omega) (qV_run I n A.in1 (by show A.units + 1 + n < cLine; omega)) h rx ry
      obtain ⟨a, b, rfl, rfl⟩ : ∃ a b, x = .ref a ∧ y = .ref b := by
        rcases h with (⟨a, b, _, _, e1, e2, _⟩ | ⟨a, b, _, _, e1, e2, _⟩) | ⟨a, b, _, _, e1, e2, _⟩ <;> exact ⟨a, b, e1, e2⟩
      cases (show v = Value.ref a from rx)
      cases (show u = Value.ref b from ry)
      by_cases e : a = b
      · subst e
        exact (SeqAt.EqAt.same _).eqP
      · exact SeqAt.eqP_refs e step
/-- equal, whatever the items; for lists, dicts and tuples -/
def rQEq (K : PySem.W.Frag) : R2 := fun x y H Q => ∃ n, n ≤ 60 ∧ QR K H (QV K H n) x y ∧ Q (.bl true) H
theorem op_qEqK (K : PySem.W.Frag) (hu : X.A.units + 64 < cLine) (h : X.K = K := by rfl) : OpR X (compareOp .Eq) (rQEq K) := by
  subst h
  intro pins s σ H x y v u Q I rx ry ⟨n, hn, h, q⟩
  exact qR_run I (A := X.A) (by omega) (qV_run I n X.A.in1 (by show X.A.units + 1 + n < cLine; omega)) h rx ry _ _ ⟨.bl true, H, I, rfl, q⟩
/-- not unequal: two tuples -/
def rQNeT (K : PySem.W.Frag) : R2 := fun x y H Q => ∃ n, n ≤ 60 ∧ (∃ a b xs ys, x = .ref a ∧ y = .ref b ∧ SqT K H a xs ∧ SqT K H b ys ∧ Paired (QV K H n) xs ys) ∧ Q (.bl false) H
theorem op_qNeTK (K : PySem.W.Frag) (hu : X.A.units + 64 < cLine) (h : X.K = K := by rfl) : OpR X (compareOp .NotEq) (rQNeT K) := by
  subst h
  intro pins s σ H x y v u Q I rx ry ⟨n, hn, ⟨a, b, xs, ys, e1, e2, ha, hb, hp⟩, q⟩
  subst e1 e2
  cases (show v = Value.ref a from rx)
  cases (show u = Value.ref b from ry)
  obtain ⟨us, ws, p1, p2, hsz, hj⟩ := tups_in (A := X.A) I (qV_run I n X.A.in1 (by show X.A.units + 1 + n < cLine; omega)) ha hb hp
  exact SeqAt.vf_rcP_tuples_ne p1 p2 hsz (by omega) hj _ _ ⟨.bl false, H, I, rfl, q⟩
end
end Vf

/-! Own layer: comprehensions to tuples; walks over lists of tuples; tuples of dicts; a text or a dict; calls that may raise. -/
namespace Vf
open PySem PySem.Spec PyProof.Rows L2 TL Evl
section
variable {K : PySem.W.Frag} {σ : L2.St} {H H1 H2 : Hp} {ta tb te td tl' : TE} {t : TT} {p pl d : Addr} {kvs : List (Key × V)} {jx i : Nat} {ws : List Nat} {D : Ends} {tz tu : TS}
/-! ## comprehensions to tuples, over lists -/
theorem u_filC {γ : Type} {f : γ → V} {m : List γ} (c : γ → Bool) (g : γ → List V) (dv : γ) {HB : Hp} {Q : VK} (hS : SqL K HB pl (m.map f)) (hz : m.length ≤ 40000)
    (ht : ∀ y ∈ m, EvT t ((wipe σ ws).set jx (some (f y))) HB (c y)) (he : ∀ y ∈ m, c y = true → EvU te ((wipe σ ws).set jx (some (f y))) HB (g y)) (hw : ∀ w, wipe ((wipe σ ws).set jx (some w)) ws = wipe σ ws)
    (q : ∀ Dl H', HB Dl = none → Ex HB H' → IsLU K H' Dl ((m.filter c).map g) → Q (.ref Dl) H') : ∀ Dl, HB Dl = none → ∃ W : Nat → Nat → Hp → Prop, (∃ n, W 0 n (upd HB Dl (.lst []))) ∧ ∀ k n H', W k n H' →
      ((Itl K pl).stop k H' ∧ Q (.ref Dl) H') ∨ ((Itl K pl).go k H' ∧ ∃ Nx : Hp → Prop, (∀ H3, Nx H3 → ∃ n', n' < n ∧ W (k + 1) n' H3) ∧ ∀ x H3, (Itl K pl).yld k H' x H3 → (gName jx) x (wipe σ ws) H3 fun σ2 H4 => wipe σ2 ws = wipe σ ws ∧ t σ2 H4 fun b H5 =>
        if b = true then te σ2 H5 fun y H6 => ∃ acc, H6 Dl = some (.lst acc) ∧ acc.length < sizeLine ∧ Nx (upd H6 Dl (.lst (acc ++ [y]))) else Nx H5) := fun Dl hD =>
  lc_list (xs := m.map f) (fun k H' => k ≤ m.length ∧ Tw K HB Dl (((m.take k).filter c).map g) H') ⟨Nat.zero_le _, by rw [List.take_zero]; exact tw_new hD⟩ (fun k H' _ hI => ex_l hI.2.2.1 hS) (fun k x H' hx hI => by
    obtain ⟨hk, hC⟩ := hI
    have hlt : k < m.length := by
      have := (List.getElem?_eq_some_iff.mp hx).1
      rw [List.length_map] at this
      exact this
    obtain ⟨hm, ew⟩ := map_at dv hx
    rw [ew]
    have hst := fil_take c g m k dv hlt
    have hl : (((m.take k).filter c).map g).length < 50000 := by
      rw [List.length_map]
      have h1 := List.length_filter_le c (m.take k)
      rw [List.length_take] at h1
      omega
    refine ⟨hw _, tw_turn hC hl (ht _ hm) (he _ hm) fun H6 _ h6 => ⟨hlt, ?_⟩⟩
    rw [hst]
    exact h6) (fun H' hI => by
    rw [List.length_map, List.take_length] at hI
    exact q Dl H' hI.2.1 hI.2.2.1 hI.2.2.2)
theorem u_filL {γ : Type} {f : γ → V} {m : List γ} (c : γ → Bool) (g : γ → List V) (dv : γ) (h : Ev tl' σ H (.ref pl)) (hS : SqL K H pl (m.map f)) (hz : m.length ≤ 40000)
    (ht : ∀ y ∈ m, EvT t ((wipe σ ws).set jx (some (f y))) H (c y)) (he : ∀ y ∈ m, c y = true → EvU te ((wipe σ ws).set jx (some (f y))) H (g y)) (hw : ∀ w, wipe ((wipe σ ws).set jx (some w)) ws = wipe σ ws := by exact fun _ => rfl) :
    EvU2 K (tLc (iList K tl') (gName jx) t te ws) σ H ((m.filter c).map g) := fun H0 e0 Q q => h H0 e0 _ fun H1 e1 => ⟨pl, rfl, ⟨_, ex_l (e0.trans e1) hS⟩,
  u_filC c g dv (ex_l (e0.trans e1) hS) hz (fun y hy => fun H3 e3 => ht y hy H3 ((e0.trans e1).trans e3)) (fun y hy hc => fun H3 e3 => he y hy hc H3 ((e0.trans e1).trans e3)) hw fun Dl H' hD e' hI => q Dl H' (fresh_back e1 hD) (e1.trans e') hI⟩
theorem u_filN {γ : Type} {f : γ → V} {m : List γ} (c : γ → Bool) (g : γ → List V) (dv : γ) (h : EvL tl' σ H (m.map f)) (hz : m.length ≤ 40000)
    (ht : ∀ y ∈ m, EvT t ((wipe σ ws).set jx (some (f y))) H (c y)) (he : ∀ y ∈ m, c y = true → EvU te ((wipe σ ws).set jx (some (f y))) H (g y)) (hw : ∀ w, wipe ((wipe σ ws).set jx (some w)) ws = wipe σ ws := by exact fun _ => rfl) :
    EvU2 K (tLc (iList K tl') (gName jx) t te ws) σ H ((m.filter c).map g) := fun H0 e0 Q q => h H0 e0 _ fun pl H1 np e1 hp => ⟨pl, rfl, ⟨_, sq_of hp⟩,
  u_filC c g dv (sq_of hp) hz (fun y hy => fun H3 e3 => ht y hy H3 ((e0.trans e1).trans e3)) (fun y hy hc => fun H3 e3 => he y hy hc H3 ((e0.trans e1).trans e3)) hw fun Dl H' hD e' hI => q Dl H' (fresh_back e1 hD) (e1.trans e') hI⟩
/-- over a tuple of plain things -/
theorem l_filU {β γ : Type} {f : γ → V} {f2 : β → V} {m : List γ} {tp : Addr} (c : γ → Bool) (g : γ → β) (dv : γ) (h : Ev tl' σ H (.ref tp)) (hS : SqT K H tp (m.map f)) (hz : m.length ≤ 40000)
    (ht : ∀ y ∈ m, EvT t ((wipe σ ws).set jx (some (f y))) H (c y)) (he : ∀ y ∈ m, c y = true → Ev te ((wipe σ ws).set jx (some (f y))) H (f2 (g y))) (hw : ∀ w, wipe ((wipe σ ws).set jx (some w)) ws = wipe σ ws := by exact fun _ => rfl) :
    EvL (tLc (iTup K tl') (gName jx) t te ws) σ H (((m.filter c).map g).map f2) := fun H0 e0 Q q => h H0 e0 _ fun H1 e1 => ⟨tp, rfl, ⟨_, ex_t (e0.trans e1) hS⟩, fun Dl hD =>
  lc_tup (xs := m.map f) (Cw H1 (fun k => c (m.getD k dv)) (fun k => f2 (g (m.getD k dv))) Dl) ⟨hD, Ex.new hD, upd_same⟩ (fun k H' _ hC => ex_t ((e0.trans e1).trans hC.2.1) hS) (fun k x H' hx hC => by
    obtain ⟨hm, ew⟩ := map_at dv hx
    have hlt := (List.getElem?_eq_some_iff.mp hx).1
    rw [List.length_map] at hlt
    rw [ew]
    exact ⟨hw _, cw_turn hC (by omega) (fun H3 e3 => ht _ hm H3 ((e0.trans e1).trans e3)) (fun hc => fun H3 e3 => he _ hm hc H3 ((e0.trans e1).trans e3))⟩) (fun H' hC => by
    have h3 := hC.2.2
    rw [List.length_map, given_filter] at h3
    exact q Dl H' (fresh_back e1 hC.1) (e1.trans hC.2.1) h3)⟩
/-- those of a list of tuples that fit: how many there are -/
theorem e_lenFil {l : List (List Tx)} (c : List Tx → Bool) (h : Ev tl' σ H (.ref pl)) (hp : IsLUr K H pl (l.map (List.map vs))) (hz : l.length ≤ 40000)
    (ht : ∀ q ∈ l, ∀ a H3, Ex H H3 → SqT K H3 a (q.map vs) → EvT t ((wipe σ ws).set jx (some (.ref a))) H3 (c q)) (he : ∀ a H3, Ev te ((wipe σ ws).set jx (some (.ref a))) H3 (.ref a)) (hw : ∀ w, wipe ((wipe σ ws).set jx (some w)) ws = wipe σ ws := by exact fun _ => rfl) :
    Ev (tCB (rLenS K) (tCons (tLc (iList K tl') (gName jx) t te ws) tNil)) σ H (.int ((l.filter c).length : Int)) := fun H0 e0 Q q => h H0 e0 _ fun H1 e1 => by
  obtain ⟨ts, h1, h2⟩ := hp.ex (e0.trans e1)
  refine ⟨pl, rfl, ⟨_, h1⟩, fun Dl hD => ?_⟩
  have hlen : ts.length = l.length := by rw [paired_len h2, List.length_map]
  refine lc_list (xs := ts.map V.ref) (fun k H' => k ≤ l.length ∧ H1 Dl = none ∧ Ex H1 H' ∧ ∃ us : List V, H' Dl = some (.lst us) ∧ us.length = ((l.take k).filter c).length) ⟨Nat.zero_le _, hD, Ex.new hD, [], upd_same, rfl⟩ (fun k H' _ hI => ex_l hI.2.2.1 h1) (fun k x H' hx hI => ?_) (fun H' hI => ?_)
  · obtain ⟨hk, _, e2, us, hu, hul⟩ := hI
    obtain ⟨a, y, rfl, hy, ha⟩ := tup_at (ts := ts) (i := k) h2 hx
    rw [List.getElem?_map] at hy
    cases hy2 : l[k]? with
    | none =>
      rw [hy2] at hy
      cases hy
    | some y2 =>
      rw [hy2] at hy
      have ey : y2.map vs = y := Option.some.inj hy
      subst ey
      have hlt := (List.getElem?_eq_some_iff.mp hy2).1
      have hst : (l.take (k + 1)).filter c = (l.take k).filter c ++ (if c y2 = true then [y2] else []) := by
        rw [List.take_add_one, hy2, List.filter_append]
        congr 1
        show [y2].filter c = _
        rw [List.filter_cons]
        rfl
      have hle : us.length ≤ 40000 := by
        rw [hul]
        have h5 := List.length_filter_le c (l.take k)
        rw [List.length_take] at h5
        omega
      refine ⟨hw _, ht y2 (List.mem_of_getElem? hy2) a H' ((e0.trans e1).trans e2) (ex_t e2 ha) H' (Ex.refl H') _ fun H3 e3 => ?_⟩
      cases hc : c y2 with
      | false =>
        rw [if_neg Bool.false_ne_true]
        rw [hc, if_neg Bool.false_ne_true, List.append_nil] at hst
        exact ⟨hlt, hD, e2.trans e3, us, e3 Dl _ hu, by rw [hst]; exact hul⟩
      | true =>
        rw [if_pos rfl]
        rw [hc, if_pos rfl] at hst
        refine he a H3 H3 (Ex.refl H3) _ fun H4 e4 => ⟨us, e4 Dl _ (e3 Dl _ hu), sz_lt (by omega), hlt, hD, Ex.mut ((e2.trans e3).trans e4) hD, us ++ [.ref a], upd_same, ?_⟩
        rw [hst, List.length_append, List.length_append, hul]
        rfl
  · obtain ⟨_, _, e2, us, hu, hul⟩ := hI
    rw [List.length_map, hlen, List.take_length] at hul
    refine ⟨Dl, us, rfl, Or.inl (sq_of hu), ?_⟩
    rw [hul]
    exact q H' (e1.trans e2)
/-! ## a walk over a list of tuples -/
def BodyOkU (K : PySem.W.Frag) {S R : Type} (tu : TS) (D : Ends) (j : Nat) (step : S → List Tx → Stp S R) (l : List (List Tx)) (s0 : S) (Rep : S → L2.St → Hp → Prop) : Prop :=
  ∀ (Nx Bk : L2.St → Hp → Prop) (i : Nat) (s : S) (y : List Tx) (a : Addr) (σ1 : L2.St) (H1 : Hp), l[i]? = some y → runL step (l.take i) s0 = .go s → Rep s σ1 H1 → SqT K H1 a (y.map vs) → (∀ s2 σ2 H2, step s y = .go s2 → Rep s2 σ2 H2 → Nx σ2 H2) → (∀ s2 σ2 H2, step s y = .brk s2 → Rep s2 σ2 H2 → Bk σ2 H2) →
    (∀ r, step s y = .ret r → runL step l s0 = .ret r) → tu { D with nx := Nx, ct := Nx, bk := Bk } (σ1.set j (some (.ref a))) H1
theorem q_loopU {S R : Type} {l : List (List Tx)} (step : S → List Tx → Stp S R) (s0 : S) (Rep : List Addr → S → L2.St → Hp → Prop) {j : Nat} {H0 : Hp} (h : Ev tl' σ H (.ref pl)) (hS : IsLUr K H0 pl (l.map (List.map vs))) (r0 : RX H0 H)
    (h0 : ∀ ts H1, Ex H H1 → SqL K H0 pl (ts.map V.ref) → TupsAt K H0 ts (l.map (List.map vs)) → Rep ts s0 σ H1) (hl : ∀ ts s σ1 H1, SqL K H0 pl (ts.map V.ref) → TupsAt K H0 ts (l.map (List.map vs)) → Rep ts s σ1 H1 → SqL K H1 pl (ts.map V.ref) ∧ TupsAt K H1 ts (l.map (List.map vs)))
    (hb : ∀ ts, BodyOkU K tu D j step l s0 (Rep ts)) (ho : ∀ ts, OutOk tz D step l s0 (Rep ts)) : tSeq (tFor (iList K tl') (gName j) tu) tz D σ H := by
  obtain ⟨ts, hA, hB⟩ := hS
  have hlen : ts.length = l.length := by
    rw [paired_len hB, List.length_map]
  refine q_forLn h (rx_l r0 hA) (fun i σ1 H1 => ∃ s, runL step (l.take i) s0 = .go s ∧ Rep ts s σ1 H1) (fun H1 e => ⟨s0, rfl, h0 ts H1 e hA hB⟩) (fun i σ1 H1 _ ⟨s, _, q⟩ => (hl ts s σ1 H1 hA hB q).1) (fun i x σ1 H1 hx q => ?_) (fun σ1 H1 q => loop_end (ho ts) (by rw [List.length_map]; exact hlen) q)
  obtain ⟨s, hr, hq⟩ := q
  obtain ⟨a, y, rfl, hy, ha⟩ := tup_at (ts := ts) (i := i) (hl ts s σ1 H1 hA hB hq).2 hx
  cases hy2 : l[i]? with
  | none =>
    rw [List.getElem?_map, hy2] at hy
    cases hy
  | some y2 =>
    rw [List.getElem?_map, hy2] at hy
    have e : y2.map vs = y := Option.some.inj hy
    subst e
    have hn := runL_next hr hy2
    exact hb ts _ _ i s y2 a σ1 H1 hy2 hr hq ha (fun s2 σ2 H2 e q => ⟨s2, hn.trans e, q⟩) (fun s2 σ2 H2 e q => ho ts s2 σ2 H2 (Or.inr (runL_out (hn.trans e) (fun _ z => by cases z))) q) (fun r e => runL_out (hn.trans e) (fun _ z => by cases z))
/-! ## deep data compared -/
def EvP (K : PySem.W.Frag) (te : TE) (σ : L2.St) (H : Hp) (d : PyData) : Prop := ∀ H1, Ex H H1 → ∀ Q : VK, (∀ v H2, Ex H1 H2 → Dp K H2 v d → Q v H2) → te σ H1 Q
theorem dp_LUr {l : List (List Tx)} (h : IsLUr K H p (l.map (List.map vs))) : Dp K H (.ref p) (duD l) := by
  obtain ⟨ts, a, b⟩ := h
  exact .lst a (dp_tups b)
theorem ep_u2 {l : List (List Tx)} (h : EvU2 K te σ H (l.map (List.map vs))) : EvP K te σ H (duD l) := fun H1 e Q q => h H1 e _ fun p H2 _ e2 hp => q _ H2 e2 (dp_LUr hp.r)
theorem ep_lu {l : List (List Tx)} (h : Ev te σ H (.ref p)) (hp : IsLUr K H p (l.map (List.map vs))) : EvP K te σ H (duD l) := fun H1 e Q q => h H1 e _ fun H2 e2 => q _ H2 e2 (dp_LUr (hp.ex (e.trans e2)))
theorem dp_ex {v : V} {d : PyData} (e : Ex H H2) (h : Dp K H v d) : Dp K H2 v d := by
  refine Dp.rec (motive_1 := fun v d _ => Dp K H2 v d) (motive_2 := fun v d _ => DpAll K H2 v d) .non .bl .int .str (fun a _ ih => .lst (ex_l e a) ih) (fun a _ ih => .tup (ex_t e a) ih) .nil (fun _ _ a b => .cons a b) h
theorem e_eqP {a b : PyData} (ha : EvP K ta σ H a) (hb : EvP K tb σ H b) (sa : SeqAt.shaped a = true) (sb : SeqAt.shaped b = true) : Ev (tOp (rEqD K) ta tb) σ H (.bl (PyData.eqv a b)) := fun H1 e1 Q q =>
  ha H1 e1 _ fun v H2 e2 hv => hb H2 (e1.trans e2) _ fun u H3 e3 hu => ⟨a, b, dp_ex e3 hv, hu, sa, sb, q H3 (e2.trans e3)⟩
theorem e_neP {a b : PyData} (ha : EvP K ta σ H a) (hb : EvP K tb σ H b) (sa : SeqAt.shaped a = true) (sb : SeqAt.shaped b = true) : Ev (tOp (rNeD K) ta tb) σ H (.bl (!PyData.eqv a b)) := fun H1 e1 Q q =>
  ha H1 e1 _ fun v H2 e2 hv => hb H2 (e1.trans e2) _ fun u H3 e3 hu => ⟨a, b, dp_ex e3 hv, hu, sa, sb, q H3 (e2.trans e3)⟩
theorem op_neDK {X : Cx} (K : PySem.W.Frag) (hu : X.A.units + 64 < cLine) (h : X.K = K := by rfl) : OpR X (compareOp .NotEq) (rNeD K) := h ▸ op_neD hu
theorem eqv_strs : ∀ q r : List Tx, PyData.eqvAll (q.map fun p => PyData.str (mk p)) (r.map fun p => PyData.str (mk p)) = decide (q = r)
  | [], [] => rfl
  | [], _ :: _ => rfl
  | _ :: _, [] => rfl
  | a :: q, b :: r => by
    have ih := eqv_strs q r
    show (PyData.eqv (.str (mk a)) (.str (mk b)) && PyData.eqvAll _ _) = _
    rw [ih]
    have h1 : PyData.eqv (.str (mk a)) (.str (mk b)) = decide (a = b) := by
      show (mk a == mk b) = _
      by_cases h : a = b
      · subst h
        rw [decide_eq_true rfl]
        exact beq_self_eq_true _
      · rw [decide_eq_false h]
        exact beq_eq_false_iff_ne.mpr fun z => h (mk_inj z)
    rw [h1]
    by_cases h : a = b
    · subst h
      by_cases h2 : q = r
      · subst h2
        simp
      · simp [h2]
    · simp [h]
theorem eqv_tups : ∀ l m : List (List Tx), PyData.eqvAll (l.map fun q => PyData.tuple (q.map fun p => .str (mk p))) (m.map fun q => PyData.tuple (q.map fun p => .str (mk p))) = decide (l = m)
  | [], [] => rfl
  | [], _ :: _ => rfl
  | _ :: _, [] => rfl
  | a :: q, b :: r => by
    have ih := eqv_tups q r
    have h1 : PyData.eqv (.tuple (a.map fun p => .str (mk p))) (.tuple (b.map fun p => .str (mk p))) = decide (a = b) := eqv_strs a b
    show (PyData.eqv _ _ && PyData.eqvAll _ _) = _
    rw [ih, h1]
    by_cases h : a = b
    · subst h
      by_cases h2 : q = r
      · subst h2
        simp
      · simp [h2]
    · simp [h]
theorem eqv_duD (l m : List (List Tx)) : PyData.eqv (duD l) (duD m) = decide (l = m) := eqv_tups l m
theorem e_eqLUd {l m : List (List Tx)} (ha : EvP K ta σ H (duD l)) (hb : EvP K tb σ H (duD m)) (sa : ∀ q ∈ l, ∀ p ∈ q, okT p) (sb : ∀ q ∈ m, ∀ p ∈ q, okT p) : Ev (tOp (rEqD K) ta tb) σ H (.bl (decide (l = m))) := eqv_duD l m ▸ e_eqP ha hb (shaped_LU sa) (shaped_LU sb)
theorem e_neLUd {l m : List (List Tx)} (ha : EvP K ta σ H (duD l)) (hb : EvP K tb σ H (duD m)) (sa : ∀ q ∈ l, ∀ p ∈ q, okT p) (sb : ∀ q ∈ m, ∀ p ∈ q, okT p) : Ev (tOp (rNeD K) ta tb) σ H (.bl (!decide (l = m))) := eqv_duD l m ▸ e_neP ha hb (shaped_LU sa) (shaped_LU sb)
end
end Vf

/-! Own layer: several except clauses, each with a name. -/
namespace Vf
open PySem PySem.Spec PyProof.Rows L2 TL Evl
abbrev HL := List (Value × (Addr → Value → Option Addr → TS))
/-- what named clauses wish of an error of the body -/
def wManyA (K : PySem.W.Frag) (i : Nat) (Wz : WX) (D : Ends) : HL → WX
  | [] => Wz
  | (c, ts) :: r => fun cls d σ H => ∃ b, PySem.W.exmOne K cls c = some b ∧ (b = true → ∀ a, H a = none → ts a cls d { D with nx := fun σ2 H2 => D.nx (σ2.set i none) H2, bk := fun σ2 H2 => D.bk (σ2.set i none) H2, ct := fun σ2 H2 => D.ct (σ2.set i none) H2 } (σ.set i (some (.ref a))) H) ∧ (b = false → wManyA K i Wz D r cls d σ H)
inductive HdsA (X : Cx) (n : Str) : List ExceptHandler → HL → Prop
  | nil : HdsA X n [] []
  | cons {x : Str} {c : Value} {ts : Addr → Value → Option Addr → TS} {b0 : Stmt} {su : List Stmt} {np pz : Pos} {hds : List ExceptHandler} {l : HL} (hc : Names X x c)
      (hsu : ∀ (a : Addr) (oe : Obj) (cls : Value) (d : Option Addr) (pn : List (Addr × Obj)), L2N.Zn cls d oe → (∃ us, oe.data = .fields us) → PSs (X.suite a ((a, oe) :: pn)) (b0 :: su) (ts a cls d)) (r : HdsA X n hds l) :
      HdsA X n (.ExceptHandler (some (.Name x np)) (some n) (b0 :: su) pz :: hds) ((c, ts) :: l)
section
variable {X : Cx} {body : List Stmt} {n : Str} {i : Nat} {h0 : ExceptHandler} {hds : List ExceptHandler} {l : HL} {pos : Pos} {tb : WX → TS} {Wz : WX}
theorem ps_try_manyA (hs : X.stack = X.env :: X.outer) (hf : X.env.frame = some X.env.locals) (hN : X.N.Nodup) (hi : X.N[i]? = some n) (hln : X.env.kindOf n = some .local) (tk : L2N.Takes X Wz)
    (hb : ∀ (W : WX) (pn : List (Addr × Obj)) (xe : Value → Shared → Prop), L2N.Takes (X.tr pn xe) W → PassesOwn (model X.prog X.w) X.A X.env xe → PSs (X.tr pn xe) body (tb W))
    (hh : HdsA X n (h0 :: hds) l) : PS X (.Try body (h0 :: hds) [] [] pos) (fun D σ H => tb (wManyA X.K i Wz D l) D σ H) := by
  refine ⟨fun pins s σ H D I h => ?_⟩
  have ok := I.ok
  have hfrm : X.A.frames = some (X.env :: X.outer) := by rw [ok.frames, hs]
  have hloc2 : Loc X.env.scope n := .inl hln
  refine wpAny_Try_except ?_
  refine wpAny_mono ((hb (wManyA X.K i Wz D l) (X.pn ++ pins) (fun e s1 => wpAny (model X.prog X.w) X.A (noteFrame e X.env) (fun _ s2 => wpAny (model X.prog X.w) X.A (setFlight e none) (fun _ s3 =>
    wpAny (model X.prog X.w) X.A (handleBy e X.env (h0 :: hds)) (SP X pins D) X.xe s3) X.xe s2) X.xe s1) (fun u sb xx => ?_) PassesOwn.looking).run [] s σ H D (I.toTry _) h) (fun f s1 hsp => ?_) (fun e s1 he => he)
  · obtain ⟨a, B, sI, pinsb, σb, Hb, cls, d, rfl, Jb, nb, up, sky, na, os, ag, w⟩ := xx
    have J : Inv X pins σb Hb sI := Jb.ofTry ok
    have skyb : Sky B (X.env :: X.outer) a (L2N.Zn cls d) X.env.locals sb.heap := by rw [← hs]; exact sky
    show wpAny (model X.prog X.w) X.A (noteFrame (.ref a) X.env) _ _ _
    refine L2N.Sky.land L2N.Zn.steady hfrm hf skyb fun hA fA upA => ?_
    have JA : Inv X pins σb Hb { sb with heap := hA } := J.landed nb fA.1 (up.trans upA) os ag
    obtain ⟨oeA, vsA, heA, hzA, hdA⟩ := fA.there
    have notF : ∀ {h : Heap} {o : Obj} {us : Array Value}, h.FunFrames B (X.env :: X.outer) → h.get? a = some o → o.data = .fields us → a ∉ frs (X.env :: X.outer) := fun {h o us} ff e dd hm => by
      obtain ⟨_, o2, e2, hnf⟩ := ff.mem hm
      rw [e] at e2
      cases e2
      exact hnf _ dd
    have nfrA := notF fA.2.2.1 heA hdA
    have nLA : a ≠ X.env.locals := fun z => nfrA (List.mem_filterMap.mpr ⟨X.env, List.mem_cons_self, by rw [hf, z]⟩)
    have nFA : a ∉ X.fs := fun hm => by
      obtain ⟨e, he, q⟩ := List.mem_filterMap.mp hm
      exact nfrA (List.mem_filterMap.mpr ⟨e, List.mem_cons_of_mem _ he, q⟩)
    have SA := JA.suite heA hdA na nLA nFA
    have go : ∀ {hds2 : List ExceptHandler} {l2 : HL}, HdsA X n hds2 l2 → wManyA X.K i Wz D l2 cls d σb Hb → wpAny (model X.prog X.w) X.A (handleBy (.ref a) X.env hds2) (SP X pins D) X.xe { sb with heap := hA } := by
      intro hds2 l2 hk
      induction hk with
      | nil =>
        intro w
        refine wpAny_handleBy_nil ?_
        obtain ⟨k1, k2, k3, oe, us, T, oT, tsb, he, hz, hd, h1, hr⟩ := id fA
        unfold PySem.passOn
        refine wpAny_bind (wpAny_field he hd h1 ?_)
        rw [if_neg (show ¬ ((Value.ref T == Value.none) = true) by simp)]
        have fin : wpAny (model X.prog X.w) X.A (setFlight (.ref a) X.env.frame) (fun _ s4 => wpAny (model X.prog X.w) X.A (throw (.ref a) : Sem Flow) (SP X pins D) X.xe s4) X.xe { sb with heap := hA } := by
          rw [hf]
          refine HandSPX.setFlight_upZ fA fun hB hhB upB => wpAny_throw (tk _ _ ?_)
          exact ⟨a, B, sI, pins, σb, Hb, cls, d, rfl, J, nb, (up.trans upA).trans upB, .inr (.inr (by rw [hs]; exact hhB)), na, os, ag, w⟩
        first
          | exact wpAny_bind (wpAny_pure (wpAny_bind fin))
          | exact wpAny_bind fin
      | @cons x c ts b0 su np pz hds3 l3 hc hsu r ih =>
        intro w
        obtain ⟨b, hb1, hyes, hno⟩ := w
        refine wpAny_handleBy_cons (codeAny_handlers_test ?_) (by intro q; cases q)
        have LT : PySem.W.Looks (model X.prog X.w) hA (typeOf (.ref a)) cls := fun A Q E s k q => wpAny_typeOf_ref (k _ _ heA) (by rw [hzA.1]; exact q)
        have LM := PySem.W.exm_one (M := model X.prog X.w) JA.kIn LT hb1
        have test : ∀ {Q : Value → Shared → Prop} {E : Value → Shared → Prop}, Q c { sb with heap := hA } → wpAny (model X.prog X.w) (X.A.mark (some (.ref a))) (eval (.Name x np) X.env) Q E { sb with heap := hA } := fun {Q E} q => by
          obtain ⟨hg, hdbg, hm | ⟨hm, hv, hnn⟩⟩ := hc
          · exact ld_glob (X := X.suite a ((a, oeA) :: (X.pn ++ pins))) SA hg hm q hdbg
          · exact ld_blt (X := X.suite a ((a, oeA) :: (X.pn ++ pins))) SA hg hm hv q hnn hdbg
        refine test (LM.here ?_)
        cases b with
        | true =>
          refine codeAny_handlers_suite_as ?_
          refine HandSPX.lands_againZ fA fun hB fB upB => ?_
          have JB : Inv X pins σb Hb { sb with heap := hB } := J.landed nb fB.1 ((up.trans upA).trans upB) os ag
          obtain ⟨oeB, vsB, heB, hzB, hdB⟩ := fB.there
          have SB := JB.suite heB hdB na nLA nFA
          refine store_ok (X := X.suite a ((a, oeB) :: (X.pn ++ pins))) (v := .ref a) SB hN hi hloc2 rfl (fun s5 S5 => ?_) (.inr hln)
          refine wpAny_mono ((hsu a oeB cls d (X.pn ++ pins) hzB ⟨_, hdB⟩).run [] s5 _ Hb _ S5 (hyes rfl a na)) (fun f s6 hsp => ?_) (fun _ _ z => False.elim z)
          have fin : ∀ {σ6 : L2.St} {H6 : Hp} {Q : Shared → Prop}, Inv (X.suite a ((a, oeB) :: (X.pn ++ pins))) [] σ6 H6 s6 → (∀ s7, Inv X pins (σ6.set i none) H6 s7 → Q s7) →
              wpAny (model X.prog X.w) X.A (do bindName X.env n .none; unbindBehindTheSuite X.env n pz) (fun _ s7 => Q s7) X.xe s6 := fun {σ6 H6 Q} S6 hq => gone_ok (S6.unsuite ok) hN hi hln hq
          cases f with
          | next =>
            obtain ⟨σ6, H6, S6, q6⟩ := hsp
            exact fin S6 fun s7 J7 => ⟨_, _, J7, q6⟩
          | brk =>
            obtain ⟨σ6, H6, S6, q6⟩ := hsp
            exact fin S6 fun s7 J7 => ⟨_, _, J7, q6⟩
          | cont =>
            obtain ⟨σ6, H6, S6, q6⟩ := hsp
            exact fin S6 fun s7 J7 => ⟨_, _, J7, q6⟩
          | ret u =>
            obtain ⟨v6, σ6, H6, S6, r6, q6⟩ := hsp
            exact fin S6 fun s7 J7 => ⟨_, _, _, J7, r6, q6⟩
        | false =>
          show wpAny _ X.A (handleBy (.ref a) X.env hds3) _ _ _
          exact ih (hno rfl)
    exact go hh w
  · cases f with
    | next =>
      obtain ⟨σb, Hb, Jb, q⟩ := hsp
      exact wpAny_execs_nil ⟨σb, Hb, Jb.ofTry ok, q⟩
    | brk =>
      obtain ⟨σb, Hb, Jb, q⟩ := hsp
      exact ⟨σb, Hb, Jb.ofTry ok, q⟩
    | cont =>
      obtain ⟨σb, Hb, Jb, q⟩ := hsp
      exact ⟨σb, Hb, Jb.ofTry ok, q⟩
    | ret u =>
      obtain ⟨v, σb, Hb, Jb, r, q⟩ := hsp
      exact ⟨v, σb, Hb, Jb.ofTry ok, r, q⟩
end
end Vf

/-! Own layer: tuples of dicts; a text or a dict; calls that may raise. -/
namespace Vf
open PySem PySem.Spec PyProof.Rows L2 TL Evl
section
variable {K : PySem.W.Frag} {σ : L2.St} {H H1 H2 : Hp} {ta tb tc te td tl' : TE} {t : TT} {p pl d a b c : Addr} {k1 k2 k3 : List (Key × V)} {i j k : Nat} {D : Ends} {tz tu : TS}
/-! ## tuples of dicts -/
def RetT2 (k1 k2 : List (Key × V)) (H : Hp) (Q : VK) : Prop := ∀ p a b H2, H p = none → H a = none → H b = none → a ≠ b → Ex H H2 → H2 p = some (.tup [.ref a, .ref b]) → H2 a = some (.dK k1) → H2 b = some (.dK k2) → Q (.ref p) H2
def RetT3 (k1 k2 k3 : List (Key × V)) (H : Hp) (Q : VK) : Prop := ∀ p a b c H2, H p = none → H a = none → H b = none → H c = none → a ≠ b → a ≠ c → b ≠ c → Ex H H2 → H2 p = some (.tup [.ref a, .ref b, .ref c]) → H2 a = some (.dK k1) → H2 b = some (.dK k2) → H2 c = some (.dK k3) → Q (.ref p) H2
def spT2 (R : List V → Hp → List (Key × V) × List (Key × V) → Prop) : Sp := fun ws H Q _ => ∃ r, R ws H r ∧ RetT2 r.1 r.2 H Q
def spT3 (R : List V → Hp → List (Key × V) × List (Key × V) × List (Key × V) → Prop) : Sp := fun ws H Q _ => ∃ r, R ws H r ∧ RetT3 r.1 r.2.1 r.2.2 H Q
theorem pg_tupK {X : Cx} (K : PySem.W.Frag) {es : List Expr} {k n : Nat} {pos : Pos} {t : TGs} (hc : X.calm = true) (h : PGs X es t) (hK : X.K = K := by rfl)
    (hn : (assignEach es X.env).length = n := by rfl) (hst : (assignEach es X.env).findIdx? (·.1) = none := by rfl) : PG X (.Tuple es k pos) (gTup K n t) := hK ▸ pg_tup hc h hn hst
theorem ne_dt {x y : Addr} {o u : HO} (h1 : H x = some o) (h2 : H y = some u) (h : o ≠ u) : x ≠ y := fun z => by
  subst z
  rw [h1] at h2
  exact h (Option.some.inj h2)
theorem s_unpT2 {R : List V → Hp → List (Key × V) × List (Key × V) → Prop} {t : TA} {E : XK} {ws : List V} (h : EvA t σ H ws) (hR : ∀ H1, Ex H H1 → R ws H1 (k1, k2))
    (q : ∀ a b H1, H a = none → H b = none → a ≠ b → Ex H H1 → H1 a = some (.dK k1) → H1 b = some (.dK k2) → D.nx ((σ.set i (some (.ref a))).set j (some (.ref b))) H1) :
    tAsg (tCall (spT2 R) [] E t) (gTup K 2 (gCons (gName i) (gCons (gName j) gNil))) D σ H :=
  h H (Ex.refl H) _ fun H1 e1 => ⟨(k1, k2), by rw [List.append_nil]; exact hR H1 e1, fun p a b H2 np na nb ne e2 hp ha hb =>
    ⟨p, _, rfl, st_of hp, rfl, _, _, rfl, _, _, rfl, ⟨rfl, q a b H2 (fresh_back e1 na) (fresh_back e1 nb) ne (e1.trans e2) ha hb⟩⟩⟩
theorem q_unpT2 {R : List V → Hp → List (Key × V) × List (Key × V) → Prop} {t : TA} {E : XK} {ws : List V} (h : EvA t σ H ws) (hR : ∀ H1, Ex H H1 → R ws H1 (k1, k2))
    (q : ∀ a b H1, H a = none → H b = none → a ≠ b → Ex H H1 → H1 a = some (.dK k1) → H1 b = some (.dK k2) → tz D ((σ.set i (some (.ref a))).set j (some (.ref b))) H1) :
    tSeq (tAsg (tCall (spT2 R) [] E t) (gTup K 2 (gCons (gName i) (gCons (gName j) gNil)))) tz D σ H := s_unpT2 (D := { D with nx := tz D }) h hR q
theorem s_unpT3 {R : List V → Hp → List (Key × V) × List (Key × V) × List (Key × V) → Prop} {t : TA} {E : XK} {ws : List V} (h : EvA t σ H ws) (hR : ∀ H1, Ex H H1 → R ws H1 (k1, k2, k3))
    (q : ∀ a b c H1, H a = none → H b = none → H c = none → a ≠ b → a ≠ c → b ≠ c → Ex H H1 → H1 a = some (.dK k1) → H1 b = some (.dK k2) → H1 c = some (.dK k3) → D.nx (((σ.set i (some (.ref a))).set j (some (.ref b))).set k (some (.ref c))) H1) :
    tAsg (tCall (spT3 R) [] E t) (gTup K 3 (gCons (gName i) (gCons (gName j) (gCons (gName k) gNil)))) D σ H :=
  h H (Ex.refl H) _ fun H1 e1 => ⟨(k1, k2, k3), by rw [List.append_nil]; exact hR H1 e1, fun p a b c H2 np na nb nc n1 n2 n3 e2 hp ha hb hc =>
    ⟨p, _, rfl, st_of hp, rfl, _, _, rfl, _, _, rfl, _, _, rfl, ⟨rfl, q a b c H2 (fresh_back e1 na) (fresh_back e1 nb) (fresh_back e1 nc) n1 n2 n3 (e1.trans e2) ha hb hc⟩⟩⟩
theorem q_unpT3 {R : List V → Hp → List (Key × V) × List (Key × V) × List (Key × V) → Prop} {t : TA} {E : XK} {ws : List V} (h : EvA t σ H ws) (hR : ∀ H1, Ex H H1 → R ws H1 (k1, k2, k3))
    (q : ∀ a b c H1, H a = none → H b = none → H c = none → a ≠ b → a ≠ c → b ≠ c → Ex H H1 → H1 a = some (.dK k1) → H1 b = some (.dK k2) → H1 c = some (.dK k3) → tz D (((σ.set i (some (.ref a))).set j (some (.ref b))).set k (some (.ref c))) H1) :
    tSeq (tAsg (tCall (spT3 R) [] E t) (gTup K 3 (gCons (gName i) (gCons (gName j) (gCons (gName k) gNil))))) tz D σ H := s_unpT3 (D := { D with nx := tz D }) h hR q
theorem q_asgT2 (ha : EvK ta σ H k1) (hb : EvK tb σ H k2)
    (q : ∀ p a b H1, H p = none → H a = none → H b = none → a ≠ b → Ex H H1 → H1 p = some (.tup [.ref a, .ref b]) → H1 a = some (.dK k1) → H1 b = some (.dK k2) → tz D (σ.set i (some (.ref p))) H1) :
    tSeq (tAsg (tTup (tCons ta (tCons tb tNil))) (gName i)) tz D σ H :=
  ha H (Ex.refl H) _ fun a H1 na e1 h1 => hb H1 e1 _ fun b H2 nb e2 h2 => ⟨sz_of (by simp), fun p np =>
    q p a b _ (fresh_back (e1.trans e2) np) na (fresh_back e1 nb) (ne_of_none h1 nb) ((e1.trans e2).trans (Ex.new np)) upd_same (Ex.new np a _ (e2 a _ h1)) (Ex.new np b _ h2)⟩
theorem q_asgT3 (ha : EvK ta σ H k1) (hb : EvK tb σ H k2) (hc : EvK tc σ H k3)
    (q : ∀ p a b c H1, H p = none → H a = none → H b = none → H c = none → a ≠ b → a ≠ c → b ≠ c → Ex H H1 → H1 p = some (.tup [.ref a, .ref b, .ref c]) → H1 a = some (.dK k1) → H1 b = some (.dK k2) → H1 c = some (.dK k3) → tz D (σ.set i (some (.ref p))) H1) :
    tSeq (tAsg (tTup (tCons ta (tCons tb (tCons tc tNil)))) (gName i)) tz D σ H :=
  ha H (Ex.refl H) _ fun a H1 na e1 h1 => hb H1 e1 _ fun b H2 nb e2 h2 => hc H2 (e1.trans e2) _ fun c H3 nc e3 h3 => ⟨sz_of (by simp), fun p np =>
    q p a b c _ (fresh_back ((e1.trans e2).trans e3) np) na (fresh_back e1 nb) (fresh_back (e1.trans e2) nc) (ne_of_none h1 nb) (ne_of_none (e2 a _ h1) nc) (ne_of_none h2 nc) (((e1.trans e2).trans e3).trans (Ex.new np)) upd_same
      (Ex.new np a _ (e3 a _ (e2 a _ h1))) (Ex.new np b _ (e3 b _ h2)) (Ex.new np c _ h3)⟩
/-! == of tuples of dicts -/
theorem qv_dict {l m : List (Tx × Tx)} (h1 : H a = some (.dK (kd vs l))) (h2 : H b = some (.dK (kd vs m))) (h : dsame l m) : QV K H 2 (.ref a) (.ref b) :=
  Or.inr (Or.inr (Or.inl (Or.inr ⟨a, b, _, _, rfl, rfl, h1, h2, (dsame_kd h).1, fun q hq => ⟨q.2, ((dsame_kd h).2 q hq).1, Or.inl ⟨rfl, ((dsame_kd h).2 q hq).2⟩⟩⟩)))
theorem e_eqTs {xs ys : List V} (h : EvU ta σ H xs) (hb : Ev tb σ H (.ref p)) (hp : H p = some (.tup ys)) (hq : ∀ H1, Ex H H1 → Paired (QV K H1 2) xs ys) : Ev (tOp (rQEq K) ta tb) σ H (.bl true) := fun H1 e1 Q q =>
  h H1 e1 _ fun r H2 _ e2 hr => hb H2 (e1.trans e2) _ fun H3 e3 => ⟨2, by decide, Or.inr ⟨r, p, xs, ys, rfl, rfl, st_of (e3 r _ hr), st_of (((e1.trans e2).trans e3) p _ hp), hq H3 ((e1.trans e2).trans e3)⟩, q H3 (e2.trans e3)⟩
theorem e_neTs {xs ys : List V} (h : EvU ta σ H xs) (hb : Ev tb σ H (.ref p)) (hp : H p = some (.tup ys)) (hq : ∀ H1, Ex H H1 → Paired (QV K H1 2) xs ys) : Ev (tOp (rQNeT K) ta tb) σ H (.bl false) := fun H1 e1 Q q =>
  h H1 e1 _ fun r H2 _ e2 hr => hb H2 (e1.trans e2) _ fun H3 e3 => ⟨2, by decide, ⟨r, p, xs, ys, rfl, rfl, st_of (e3 r _ hr), st_of (((e1.trans e2).trans e3) p _ hp), hq H3 ((e1.trans e2).trans e3)⟩, q H3 (e2.trans e3)⟩
end
/-! ## a text or a dict -/
inductive Wd where
  | txt (t : Tx) : Wd
  | dct (l : List (Tx × Tx)) : Wd
deriving DecidableEq
def RetW (r : Wd) (H : Hp) (Q : VK) : Prop := match r with
  | .txt t => RetV (vs t) H Q
  | .dct l => RetK (kd vs l) H Q
def spW (R : List V → Hp → Wd → Prop) : Sp := fun ws H Q _ => ∃ r, R ws H r ∧ RetW r H Q
/-- what stands at a name that has either -/
def WAt (H : Hp) (v : V) (r : Wd) : Prop := match r with
  | .txt t => v = vs t
  | .dct l => ∃ p, v = .ref p ∧ H p = some (.dK (kd vs l))
section
variable {K : PySem.W.Frag} {σ : L2.St} {H H1 H2 : Hp} {ta tb te : TE} {i : Nat} {D : Ends} {tz : TS} {r r2 : Wd} {v : V} {Q : VK} {S : Type} {d : Addr}
theorem WAt.ex (h : WAt H v r) (e : Ex H H2) : WAt H2 v r := by
  cases r with
  | txt t => exact h
  | dct l =>
    obtain ⟨p, a, b⟩ := h
    exact ⟨p, a, e p _ b⟩
def EvW (te : TE) (σ : L2.St) (H : Hp) (r : Wd) : Prop := ∀ H1, Ex H H1 → ∀ Q : VK, (∀ v H2, Ex H1 H2 → WAt H2 v r → Q v H2) → te σ H1 Q
theorem ew_call {R : List V → Hp → Wd → Prop} {ws : List V} {E : XK} {t : TA} (h : EvA t σ H ws) (hR : ∀ H1, Ex H H1 → R ws H1 r) : EvW (tCall (spW R) [] E t) σ H r := fun H1 e Q q =>
  h H1 e _ fun H2 e2 => ⟨r, by rw [List.append_nil]; exact hR H2 (e.trans e2), by
    cases r with
    | txt t => exact fun H3 e3 => q _ H3 (e2.trans e3) rfl
    | dct l => exact fun p H3 np e3 hp => q _ H3 (e2.trans e3) ⟨p, rfl, hp⟩⟩
theorem ew_var {n : Nat} (hs : σ[n]? = some (some v)) (h : WAt H v r) : EvW (tVar n) σ H r := fun H1 e Q q => ⟨v, hs, q v H1 (Ex.refl H1) (h.ex e)⟩
theorem q_asgW (h : EvW te σ H r) (k : ∀ v H1, Ex H H1 → WAt H1 v r → tz D (σ.set i (some v)) H1) : tSeq (tAsg te (gName i)) tz D σ H := h H (Ex.refl H) _ fun v H1 e hv => k v H1 e hv
theorem retW_T {b : Bool} {x y : Wd} (k : RetW (if b = true then x else y) H Q) (hb : b = true) : RetW x H Q := by
  rw [if_pos hb] at k
  exact k
theorem retW_F {b : Bool} {x y : Wd} (k : RetW (if b = true then x else y) H Q) (hb : b = false) : RetW y H Q := by
  rw [hb, if_neg Bool.false_ne_true] at k
  exact k
theorem retW_run {o : Stp S Wd} {g : S → Wd} {r : Wd} (k : RetW (aftL o g) H Q) (h : o = .ret r) : RetW r H Q := by
  rw [h] at k
  exact k
theorem retW_go {o : Stp S Wd} {g : S → Wd} {s : S} (k : RetW (aftL o g) H Q) (h : o = .go s ∨ o = .brk s) : RetW (g s) H Q := by
  rcases h with h | h
  · rw [h] at k
    exact k
  · rw [h] at k
    exact k
/-- a rule by either of two -/
theorem op_or {X : Cx} {f : Value → Value → Sem Value} {r1 r2 : R2} (h1 : OpR X f r1) (h2 : OpR X f r2) : OpR X f (fun x y H Q => r1 x y H Q ∨ r2 x y H Q) := by
  intro pins s σ H x y v u Q I rx ry h
  rcases h with h | h
  · exact h1 pins s σ H x y v u Q I rx ry h
  · exact h2 pins s σ H x y v u Q I rx ry h
/-- two of these that are alike -/
def alikeW (r r2 : Wd) : Prop := match r, r2 with
  | .txt t, .txt u => t = u
  | .dct l, .dct m => dsame l m
  | _, _ => False
theorem e_eqWW (ha : EvW ta σ H r) (hb : EvW tb σ H r2) (h : alikeW r r2) : Ev (tOp (fun x y H Q => rEq x y H Q ∨ rEqDA x y H Q) ta tb) σ H (.bl true) := fun H1 e Q q =>
  ha H1 e _ fun v H2 e2 hv => hb H2 (e.trans e2) _ fun u H3 e3 hu => by
    have hv3 := hv.ex e3
    cases r with
    | txt t =>
      cases r2 with
      | txt t2 =>
        have hv4 : v = vs t := hv3
        have hu4 : u = vs t2 := hu
        have h4 : t = t2 := h
        subst h4
        subst hv4 hu4
        refine Or.inl ?_
        have h5 := rv_eq (x := vs t) (y := vs t) (H := H3) rfl H3 (Ex.refl H3) Q fun H4 e4 => by
          rw [decide_eq_true rfl]
          exact q H4 ((e2.trans e3).trans e4)
        exact h5
      | dct m => exact absurd h id
    | dct l =>
      cases r2 with
      | txt t2 => exact absurd h id
      | dct m =>
        obtain ⟨p, ep, hp⟩ := hv3
        obtain ⟨p2, ep2, hp2⟩ := hu
        have h4 : dsame l m := h
        exact Or.inr ⟨p, p2, _, _, ep, ep2, hp, hp2, (dsame_kd h4).1, (dsame_kd h4).2, q H3 (e2.trans e3)⟩
theorem e_neWD {l m : List (Tx × Tx)} (ha : EvW ta σ H r) (hb : Ev tb σ H (.ref d)) (hd : H d = some (.dK (kd vs m))) (hr : r = .dct l) (h : dsame l m) : Ev (tOp rNeDA ta tb) σ H (.bl false) := fun H1 e Q q =>
  ha H1 e _ fun v H2 e2 hv => hb H2 (e.trans e2) _ fun H3 e3 => by
    have hv3 := hv.ex e3
    rw [hr] at hv3
    obtain ⟨p, ep, hp⟩ := hv3
    exact ⟨p, d, _, _, ep, rfl, hp, ((e.trans e2).trans e3) d _ hd, (dsame_kd h).1, (dsame_kd h).2, q H3 (e2.trans e3)⟩
end
/-! ## arguments of which some are new -/
def EvAx (t : TA) (σ : L2.St) (H : Hp) (P : List V → Hp → Prop) : Prop := ∀ H1, Ex H H1 → ∀ Q : List V → Hp → Prop, (∀ ws H2, Ex H1 H2 → P ws H2 → Q ws H2) → t σ H1 Q
section
variable {K : PySem.W.Frag} {σ : L2.St} {H : Hp} {te : TE} {tr : TA} {P : List V → Hp → Prop}
theorem ax_nil : EvAx tNil σ H (fun ws _ => ws = []) := fun H1 _ Q q => q [] H1 (Ex.refl H1) rfl
theorem ax_v {v : V} (h : Ev te σ H v) (hr : EvAx tr σ H P) : EvAx (tCons te tr) σ H (fun ws H2 => ∃ w2, ws = v :: w2 ∧ P w2 H2) := fun H1 e Q q => h H1 e _ fun H2 e2 => hr H2 (e.trans e2) _ fun ws H3 e3 hp => q (v :: ws) H3 (e2.trans e3) ⟨ws, rfl, hp⟩
theorem ax_u2 {l : List (List V)} (h : EvU2 K te σ H l) (hr : EvAx tr σ H P) : EvAx (tCons te tr) σ H (fun ws H2 => ∃ p w2, ws = .ref p :: w2 ∧ IsLU K H2 p l ∧ P w2 H2) := fun H1 e Q q => h H1 e _ fun p H2 _ e2 h2 => hr H2 (e.trans e2) _ fun ws H3 e3 hp => q (.ref p :: ws) H3 (e2.trans e3) ⟨p, ws, rfl, h2.ex e3, hp⟩
theorem ax_k {kvs : List (Key × V)} (h : EvK te σ H kvs) (hr : EvAx tr σ H P) : EvAx (tCons te tr) σ H (fun ws H2 => ∃ p w2, ws = .ref p :: w2 ∧ H2 p = some (.dK kvs) ∧ P w2 H2) := fun H1 e Q q => h H1 e _ fun p H2 _ e2 h2 => hr H2 (e.trans e2) _ fun ws H3 e3 hp => q (.ref p :: ws) H3 (e2.trans e3) ⟨p, ws, rfl, e3 p _ h2, hp⟩
theorem x_callA {α : Type} {Cs : Nat → Addr} {Rp : α → Hp → VK → Prop} {R : List V → Hp → Res α → Prop} {E : L2.St → XK} {t : TA} {r : Res α} {Q : VK} (h : EvAx t σ H P) (hR : ∀ ws H1, Ex H H1 → P ws H1 → R ws H1 r)
    (ho : ∀ a, r = .ok a → ∀ H1, Ex H H1 → Rp a H1 Q) (hx : ∀ k, r = .exc k → ∀ H1, Ex H H1 → E σ (.ref (Cs k)) none H1) : tCallS (spX Cs Rp R) E t σ H Q :=
  h H (Ex.refl H) _ fun ws H1 e1 hp => ⟨r, hR ws H1 e1 hp, fun a e => ho a e H1 e1, fun k e H2 e2 => hx k e H2 (e1.trans e2)⟩
end
/-! ## calls that may raise -/
section
variable {α β γ : Type} {Cs : Nat → Addr} {Rp : α → Hp → VK → Prop} {H : Hp} {Q : VK} {E : XK} {K : PySem.W.Frag} {σ : L2.St} {i : Nat} {D : Ends} {tz : TS}
theorem retX_ok {r : Res β} {g : β → Res α} {x : Nat → Res α} {a : β} (k : PX Cs Rp (resM r g x) H Q E) (h : r = .ok a) : PX Cs Rp (g a) H Q E := by
  rw [h] at k
  exact k
theorem retX_exc {r : Res β} {g : β → Res α} {x : Nat → Res α} {n : Nat} (k : PX Cs Rp (resM r g x) H Q E) (h : r = .exc n) : PX Cs Rp (x n) H Q E := by
  rw [h] at k
  exact k
theorem kq_ok {r : Res β} {g : β → γ} {x : Nat → γ} {a : β} {q : γ} (kq : q = resM r g x) (h : r = .ok a) : q = g a := by
  rw [kq, h]
  rfl
theorem kq_exc {r : Res β} {g : β → γ} {x : Nat → γ} {n : Nat} {q : γ} (kq : q = resM r g x) (h : r = .exc n) : q = x n := by
  rw [kq, h]
  rfl
theorem s_asgX {R : List V → Hp → Res α → Prop} {t : TA} {F : L2.St → XK} {ws : List V} {r : Res α} (h : EvA t σ H ws) (hR : ∀ H1, Ex H H1 → R ws H1 r)
    (ho : ∀ a, r = .ok a → ∀ H1, Ex H H1 → Rp a H1 (fun v H2 => D.nx (σ.set i (some v)) H2)) (hx : ∀ k, r = .exc k → ∀ H1, Ex H H1 → F σ (.ref (Cs k)) none H1) : tAsg (tCallS (spX Cs Rp R) F t) (gName i) D σ H :=
  x_call h hR ho hx
theorem q_asgX {R : List V → Hp → Res α → Prop} {t : TA} {F : L2.St → XK} {ws : List V} {r : Res α} (h : EvA t σ H ws) (hR : ∀ H1, Ex H H1 → R ws H1 r)
    (ho : ∀ a, r = .ok a → ∀ H1, Ex H H1 → Rp a H1 (fun v H2 => tz D (σ.set i (some v)) H2)) (hx : ∀ k, r = .exc k → ∀ H1, Ex H H1 → F σ (.ref (Cs k)) none H1) : tSeq (tAsg (tCallS (spX Cs Rp R) F t) (gName i)) tz D σ H :=
  x_call h hR ho hx
theorem q_asgXA {P : List V → Hp → Prop} {R : List V → Hp → Res α → Prop} {t : TA} {F : L2.St → XK} {r : Res α} (h : EvAx t σ H P) (hR : ∀ ws H1, Ex H H1 → P ws H1 → R ws H1 r)
    (ho : ∀ a, r = .ok a → ∀ H1, Ex H H1 → Rp a H1 (fun v H2 => tz D (σ.set i (some v)) H2)) (hx : ∀ k, r = .exc k → ∀ H1, Ex H H1 → F σ (.ref (Cs k)) none H1) : tSeq (tAsg (tCallS (spX Cs Rp R) F t) (gName i)) tz D σ H :=
  x_callA h hR ho hx
end
section
variable {K : PySem.W.Frag} {σ : L2.St} {H : Hp} {ta tb te : TE} {D : Ends} {tz : TS} {p : Addr}
theorem pi_tupK (K : PySem.W.Frag) {X : Cx} {tg l : Expr} {tl' : TE} (hl : PE X l tl') (h : X.K = K := by rfl) : PI X tg l (iTup K tl') := h ▸ pi_tup hl
theorem dec_vo (x : Option Tx) (y : Tx) : decide (vo x = vs y) = decide (x = some y) := by
  cases x with
  | none => rw [decide_eq_false (fun h : (none : Option Tx) = some y => nomatch h)]; exact decide_eq_false (fun h => nomatch h)
  | some z =>
    show decide (vs z = vs y) = _
    rw [dec_vs]
    by_cases h : z = y
    · subst h
      rw [decide_eq_true rfl, decide_eq_true rfl]
    · rw [decide_eq_false h, decide_eq_false (fun e => h (Option.some.inj e))]
theorem e_neOT {x : Option Tx} {y : Tx} (ha : Ev ta σ H (vo x)) (hb : Ev tb σ H (vs y)) : Ev (tOp rNe ta tb) σ H (.bl (!decide (x = some y))) := dec_vo x y ▸ ev_op ha hb (rv_ne (by cases x <;> rfl))
/-- x.clear() -/
theorem s_clearU {l : List (List V)} (ha : Ev ta σ H (.ref p)) (h : IsLU K H p l) (q : ∀ H1, Mu H p (.lst []) H1 → D.nx σ H1) : tDrop (tBM0 K "list" rClear ta) D σ H := by
  obtain ⟨ts, h1, _⟩ := h
  exact ha H (Ex.refl H) _ fun H1 e1 => ⟨Or.inl ⟨rfl, _, sq_of (e1 p _ h1)⟩, p, _, rfl, rfl, e1 p _ h1, q _ ⟨H1, e1, rfl⟩⟩
theorem q_clearU {l : List (List V)} (ha : Ev ta σ H (.ref p)) (h : IsLU K H p l) (q : ∀ H1, Mu H p (.lst []) H1 → tz D σ H1) : tSeq (tDrop (tBM0 K "list" rClear ta)) tz D σ H := s_clearU (D := { D with nx := tz D }) ha h q

end
section
variable {K : PySem.W.Frag} {D C : Addr} {b : Bool}
theorem exm_bb (h : PySem.W.subIn K (.ref C) (.type "BaseException") = some true) (i : PySem.W.isClsIn K C = true) (t : PySem.W.typeIn K (.ref C) = some (.type "type")) (s : PySem.W.subIn K (.ref D) (.ref C) = some b) : PySem.W.exmOne K (.ref D) (.ref C) = some b := by
  unfold PySem.W.exmOne
  rw [h]
  exact kit_b i t s
/-- of a class that is raised, where several clauses wait -/
structure ErrD (K : PySem.W.Frag) (Cs : Nat → Addr) (js : List Nat) (k : Nat) : Prop where
  ec : ExcC K (Cs k)
  kit : PySem.W.kitOne K (.ref (Cs k)) (.ref (Cs 0)) = some true
  ex : ∀ j ∈ js, PySem.W.exmOne K (.ref (Cs k)) (.ref (Cs j)) = some (decide (j = k))
end
theorem map_map2 {α β γ : Type} (g : β → γ) (f : α → β) (l : List α) : l.map (fun y => g (f y)) = (l.map f).map g := by
  rw [List.map_map]
  rfl
theorem of_notF {b : Bool} (h : (!b) = false) : b = true := by
  cases b
  · cases h
  · rfl
theorem rep_one (p : Tx) : rep p (if true = true then 1 else 0) = p := by
  unfold rep
  show (List.replicate 1 p).flatten = p
  simp
end Vf

/-! Own layer: a set's table can always be laid anew. -/
namespace Vf
open PySem
/-! ## the walk of a probe meets every slot -/
def xs5 : Nat → Nat
  | 0 => 0
  | n + 1 => 5 * xs5 n + 1
theorem pow5 (n : Nat) : 5 ^ n = 4 * xs5 n + 1 := by
  induction n with
  | zero => rfl
  | succ n ih =>
    rw [Nat.pow_succ, ih]
    show _ = 4 * (5 * xs5 n + 1) + 1
    omega
theorem xs5_add (n d : Nat) : xs5 (n + d) = 5 ^ n * xs5 d + xs5 n := by
  induction n with
  | zero =>
    rw [Nat.zero_add, Nat.pow_zero, Nat.one_mul]
    rfl
  | succ n ih =>
    have e : n + 1 + d = (n + d) + 1 := by omega
    rw [e]
    show 5 * xs5 (n + d) + 1 = 5 ^ (n + 1) * xs5 d + (5 * xs5 n + 1)
    rw [ih, Nat.pow_succ, Nat.mul_add, ← Nat.mul_assoc, Nat.mul_comm 5 (5 ^ n)]
    omega
theorem xs5_par (n : Nat) : xs5 n % 2 = n % 2 := by
  induction n with
  | zero => rfl
  | succ n ih =>
    show (5 * xs5 n + 1) % 2 = _
    omega
theorem xs5_dbl (e : Nat) : xs5 (e + e) = 2 * (xs5 e * (2 * xs5 e + 1)) := by
  rw [xs5_add, pow5]
  have h : (4 * xs5 e + 1) * xs5 e + xs5 e = 2 * (xs5 e * (2 * xs5 e + 1)) := by
    rw [Nat.add_mul, Nat.mul_add, Nat.mul_one, Nat.one_mul]
    have h2 : 4 * xs5 e * xs5 e = 2 * (xs5 e * (2 * xs5 e)) := by
      rw [Nat.mul_left_comm (xs5 e) 2, ← Nat.mul_assoc 2 2, Nat.mul_assoc]
    rw [h2]
    omega
  exact h
theorem two_odd : ∀ (k a b : Nat), b % 2 = 1 → 2 ^ k ∣ a * b → 2 ^ k ∣ a
  | 0, a, b, _, _ => by
    rw [Nat.pow_zero]
    exact Nat.one_dvd a
  | k + 1, a, b, hb, h => by
    rw [Nat.pow_succ] at h ⊢
    have h2 : 2 ∣ a * b := Nat.dvd_trans (Nat.dvd_mul_left 2 (2 ^ k)) h
    have ha : a % 2 = 0 := by
      have h3 : (a * b) % 2 = 0 := Nat.mod_eq_zero_of_dvd h2
      rw [Nat.mul_mod, hb, Nat.mul_one, Nat.mod_mod] at h3
      exact h3
    obtain ⟨c, hc⟩ := Nat.dvd_of_mod_eq_zero ha
    rw [hc] at h ⊢
    have h4 : 2 ^ k ∣ c * b := by
      obtain ⟨d, hd⟩ := h
      refine ⟨d, ?_⟩
      have h5 : 2 * (c * b) = 2 * (2 ^ k * d) := by
        rw [← Nat.mul_assoc, hd]
        rw [Nat.mul_comm (2 ^ k) 2, Nat.mul_assoc]
      exact Nat.eq_of_mul_eq_mul_left (by decide) h5
    obtain ⟨d, hd⟩ := two_odd k c b hb h4
    exact ⟨d, by rw [hd, Nat.mul_comm (2 ^ k) 2, Nat.mul_assoc]⟩
theorem xs5_dvd : ∀ (k d : Nat), 2 ^ k ∣ xs5 d → 2 ^ k ∣ d
  | 0, d, _ => by
    rw [Nat.pow_zero]
    exact Nat.one_dvd d
  | k + 1, d, h => by
    have h2 : 2 ∣ xs5 d := by
      rw [Nat.pow_succ] at h
      exact Nat.dvd_trans (Nat.dvd_mul_left 2 (2 ^ k)) h
    have hp := xs5_par d
    have h3 := Nat.mod_eq_zero_of_dvd h2
    have he : d = d / 2 + d / 2 := by omega
    generalize d / 2 = e at he
    subst he
    rw [xs5_dbl, Nat.pow_succ, Nat.mul_comm (2 ^ k) 2] at h
    have h4 : 2 ^ k ∣ xs5 e * (2 * xs5 e + 1) := Nat.dvd_of_mul_dvd_mul_left (by decide) h
    obtain ⟨c, hc⟩ := xs5_dvd k e (two_odd k _ _ (by omega) h4)
    refine ⟨c, ?_⟩
    rw [hc, Nat.pow_succ, Nat.mul_assoc, Nat.mul_comm 2 c, ← Nat.mul_assoc, Nat.mul_comm (2 ^ k * c) 2]
    omega
/-- the place behind n leaps without perturbation -/
def lp (M i : Nat) : Nat → Nat
  | 0 => i
  | n + 1 => (lp M i n * 5 + 1) % M
theorem lp_is (M i n : Nat) (hi : i < M) : lp M i n = (5 ^ n * i + xs5 n) % M := by
  induction n with
  | zero =>
    show i = _
    rw [Nat.pow_zero, Nat.one_mul]
    exact (Nat.mod_eq_of_lt hi).symm
  | succ n ih =>
    show (lp M i n * 5 + 1) % M = (5 ^ (n + 1) * i + (5 * xs5 n + 1)) % M
    rw [ih]
    have e : 5 ^ (n + 1) * i + (5 * xs5 n + 1) = (5 ^ n * i + xs5 n) * 5 + 1 := by
      rw [Nat.pow_succ, Nat.add_mul, Nat.mul_comm (5 ^ n) 5, Nat.mul_assoc, Nat.mul_comm 5 (5 ^ n * i), Nat.mul_comm 5 (xs5 n)]
      omega
    rw [e]
    conv => rhs; rw [Nat.add_mod, Nat.mul_mod]
    conv => lhs; rw [Nat.add_mod, Nat.mul_mod, Nat.mod_mod]
theorem lp_inj (k i m d : Nat) (hi : i < 2 ^ k) (h : lp (2 ^ k) i m = lp (2 ^ k) i (m + d)) : 2 ^ k ∣ d := by
  rw [lp_is _ _ _ hi, lp_is _ _ _ hi] at h
  have e : 5 ^ (m + d) * i + xs5 (m + d) = (5 ^ m * i + xs5 m) + xs5 d * (5 ^ m * (4 * i + 1)) := by
    rw [xs5_add, Nat.pow_add, pow5 d]
    have h2 : 5 ^ m * (4 * xs5 d + 1) * i = 5 ^ m * i + xs5 d * (5 ^ m * (4 * i)) := by
      rw [Nat.mul_add, Nat.mul_one, Nat.add_mul, Nat.add_comm]
      congr 1
      rw [Nat.mul_left_comm (xs5 d), Nat.mul_assoc (5 ^ m), Nat.mul_left_comm (xs5 d) 4, Nat.mul_assoc 4]
    have h3 : xs5 d * (5 ^ m * (4 * i + 1)) = xs5 d * (5 ^ m * (4 * i)) + 5 ^ m * xs5 d := by
      rw [Nat.mul_add (5 ^ m), Nat.mul_add (xs5 d), Nat.mul_one, Nat.mul_comm (xs5 d) (5 ^ m)]
    rw [h2, h3]
    omega
  rw [e] at h
  generalize 5 ^ m * i + xs5 m = a at h
  have hb : 2 ^ k ∣ xs5 d * (5 ^ m * (4 * i + 1)) := by
    generalize xs5 d * (5 ^ m * (4 * i + 1)) = b at h
    have h4 := Nat.div_add_mod a (2 ^ k)
    have h5 := Nat.div_add_mod (a + b) (2 ^ k)
    have h6 : 2 ^ k * (a / 2 ^ k) ≤ 2 ^ k * ((a + b) / 2 ^ k) := Nat.mul_le_mul_left _ (Nat.div_le_div_right (Nat.le_add_right a b))
    refine ⟨(a + b) / 2 ^ k - a / 2 ^ k, ?_⟩
    rw [Nat.mul_sub]
    omega
  refine xs5_dvd k d (two_odd k _ _ ?_ hb)
  rw [Nat.mul_mod, pow5]
  have h1 : (4 * xs5 m + 1) % 2 = 1 := by omega
  have h2 : (4 * i + 1) % 2 = 1 := by omega
  rw [h1, h2]
theorem nodup_le : ∀ (M : Nat) (l : List Nat), l.Nodup → (∀ x ∈ l, x < M) → l.length ≤ M
  | 0, l, _, h => by
    cases l with
    | nil => exact Nat.le_refl _
    | cons x r => exact absurd (h x List.mem_cons_self) (Nat.not_lt_zero x)
  | M + 1, l, nd, h => by
    have h2 := nodup_le M (l.erase M) (nd.erase M) fun x hx => by
      have h3 := (nd.mem_erase_iff).mp hx
      have := h x h3.2
      omega
    by_cases hm : M ∈ l
    · rw [List.length_erase_of_mem hm] at h2
      omega
    · rw [List.erase_of_not_mem hm] at h2
      omega
theorem lp_all (k i j : Nat) (hi : i < 2 ^ k) (hj : j < 2 ^ k) : ∃ n, n < 2 ^ k ∧ lp (2 ^ k) i n = j := by
  have hlt : ∀ n, lp (2 ^ k) i n < 2 ^ k := fun n => by
    rw [lp_is _ _ _ hi]
    exact Nat.mod_lt _ (Nat.two_pow_pos k)
  have nd : ((List.range (2 ^ k)).map (lp (2 ^ k) i)).Nodup := by
    rw [List.nodup_iff_pairwise_ne, List.pairwise_map]
    refine List.Pairwise.imp_of_mem (fun {a b} ha hb (hab : a < b) e => ?_) List.pairwise_lt_range
    have hb2 := List.mem_range.mp hb
    have e2 : b = a + (b - a) := by omega
    rw [e2] at e
    have h3 := Nat.le_of_dvd (by omega) (lp_inj k i a (b - a) hi e)
    omega
  by_cases h : j ∈ (List.range (2 ^ k)).map (lp (2 ^ k) i)
  · obtain ⟨n, hn, e⟩ := List.mem_map.mp h
    exact ⟨n, List.mem_range.mp hn, e⟩
  · have h2 := nodup_le (2 ^ k) (j :: (List.range (2 ^ k)).map (lp (2 ^ k) i)) (List.nodup_cons.mpr ⟨h, nd⟩) fun x hx => by
      rcases List.mem_cons.mp hx with e | e
      · rw [e]
        exact hj
      · obtain ⟨n, _, e2⟩ := List.mem_map.mp e
        rw [← e2]
        exact hlt n
    rw [List.length_cons, List.length_map, List.length_range] at h2
    omega
/-! ## a free slot is found -/
abbrev Own := Array (Option Nat)
def noneAt (owner : Own) (j : Nat) : Prop := (owner.getD j (some 0)).isNone = true
theorem runEnd_le (m i : Nat) (h : i ≤ m) : SetTable.runEnd m i ≤ m := by
  unfold SetTable.runEnd
  split <;> omega
theorem runEnd_ge (m i : Nat) : i ≤ SetTable.runEnd m i := by
  unfold SetTable.runEnd
  split <;> omega
theorem free_hit {m : Nat} {owner : Own} {f i p k : Nat} (hi : i ≤ m) (h : (List.range (SetTable.runEnd m i + 1 - i)).find? (fun k => (owner.getD (i + k) (some 0)).isNone) = some k) :
    ∃ j, SetTable.layClean.free m owner (f + 1) i p = some j ∧ noneAt owner j ∧ j ≤ m := by
  refine ⟨i + k, ?_, List.find?_some (p := fun k => (owner.getD (i + k) (some 0)).isNone) h, ?_⟩
  · rw [SetTable.layClean.free, h]
  · have h2 := List.mem_range.mp (List.mem_of_find?_eq_some h)
    have h3 := runEnd_le m i hi
    omega
theorem free_calm (m : Nat) (owner : Own) : ∀ (n f i : Nat), n ≤ f → i ≤ m → (∃ t, t < n ∧ noneAt owner (lp (m + 1) i t)) → ∃ j, SetTable.layClean.free m owner f i 0 = some j ∧ noneAt owner j ∧ j ≤ m
  | 0, _, _, _, _, h => by
    obtain ⟨t, ht, _⟩ := h
    exact absurd ht (Nat.not_lt_zero t)
  | n + 1, 0, _, hf, _, _ => absurd hf (by omega)
  | n + 1, f + 1, i, hf, hi, h => by
    cases e : (List.range (SetTable.runEnd m i + 1 - i)).find? (fun k => (owner.getD (i + k) (some 0)).isNone) with
    | some k => exact free_hit hi e
    | none =>
      have hn : ¬ noneAt owner i := fun z => by
        have h2 := List.find?_eq_none.mp e 0 (List.mem_range.mpr (by have := runEnd_ge m i; omega))
        rw [Nat.add_zero] at h2
        exact h2 z
      obtain ⟨t, ht, h3⟩ := h
      have e2 : SetTable.layClean.free m owner (f + 1) i 0 = SetTable.layClean.free m owner f ((i * 5 + 1 + 0 / 32) % (m + 1)) (0 / 32) := by
        rw [SetTable.layClean.free, e]
        rfl
      rw [e2]
      show ∃ j, SetTable.layClean.free m owner f ((i * 5 + 1) % (m + 1)) 0 = some j ∧ _
      cases t with
      | zero => exact absurd h3 hn
      | succ t =>
        have e3 : ∀ t, lp (m + 1) i (t + 1) = lp (m + 1) ((i * 5 + 1) % (m + 1)) t := fun t => by
          induction t with
          | zero => rfl
          | succ t ih =>
            show (lp (m + 1) i (t + 1) * 5 + 1) % (m + 1) = _
            rw [ih]
            rfl
        rw [e3] at h3
        exact free_calm m owner n f _ (by omega) (by have := Nat.mod_lt (i * 5 + 1) (show 0 < m + 1 by omega); omega) ⟨t, by omega, h3⟩
theorem free_ok {k : Nat} {m : Nat} (hm : m + 1 = 2 ^ k) {owner : Own} (h : ∃ j, j ≤ m ∧ noneAt owner j) : ∀ (s f i p : Nat), p < 32 ^ s → m + 1 + s ≤ f → i ≤ m → ∃ j, SetTable.layClean.free m owner f i p = some j ∧ noneAt owner j ∧ j ≤ m
  | 0, f, i, p, hp, hf, hi => by
    have h0 : p = 0 := by
      rw [Nat.pow_zero] at hp
      omega
    subst h0
    obtain ⟨j, hj, hn⟩ := h
    obtain ⟨t, ht, e⟩ := lp_all k i j (by omega) (by omega)
    exact free_calm m owner (m + 1) f i (by omega) hi ⟨t, by omega, by rw [hm, e]; exact hn⟩
  | s + 1, 0, _, _, _, hf, _ => absurd hf (by omega)
  | s + 1, f + 1, i, p, hp, hf, hi => by
    cases e : (List.range (SetTable.runEnd m i + 1 - i)).find? (fun k => (owner.getD (i + k) (some 0)).isNone) with
    | some k => exact free_hit hi e
    | none =>
      have e2 : SetTable.layClean.free m owner (f + 1) i p = SetTable.layClean.free m owner f ((i * 5 + 1 + p / 32) % (m + 1)) (p / 32) := by
        rw [SetTable.layClean.free, e]
        rfl
      rw [e2]
      have hp2 : p / 32 < 32 ^ s := by
        rw [Nat.pow_succ] at hp
        exact Nat.div_lt_of_lt_mul (by omega)
      exact free_ok hm h s f _ _ hp2 (by omega) (by have := Nat.mod_lt (i * 5 + 1 + p / 32) (show 0 < m + 1 by omega); omega)
theorem bits_lt (h : Int) : SetTable.bits h < 32 ^ 13 := by
  unfold SetTable.bits
  have h1 := Int.emod_lt_of_pos h (b := (2 : Int) ^ 64) (by decide)
  have h2 := Int.emod_nonneg h (b := (2 : Int) ^ 64) (by decide)
  have h3 : (2 : Int) ^ 64 = 18446744073709551616 := by decide
  have h4 : (32 : Nat) ^ 13 = 36893488147419103232 := by decide
  omega
/-! ## all are laid -/
def ordOf (m : Nat) (owner : Own) : List Nat := (List.range (m + 1)).filterMap fun j => owner.getD j none
theorem filterMap_cg {α β : Type} {f g : α → Option β} : ∀ {l : List α}, (∀ x ∈ l, f x = g x) → l.filterMap f = l.filterMap g
  | [], _ => rfl
  | x :: r, h => by
    have ih := filterMap_cg (f := f) (g := g) (l := r) fun y hy => h y (List.mem_cons_of_mem _ hy)
    have hx := h x List.mem_cons_self
    cases e : g x with
    | none => rw [List.filterMap_cons_none (by rw [hx]; exact e), List.filterMap_cons_none e, ih]
    | some y => rw [List.filterMap_cons_some (by rw [hx]; exact e), List.filterMap_cons_some e, ih]
theorem filterMap_set {g g2 : Nat → Option Nat} {j x : Nat} (h0 : g j = none) (h1 : g2 j = some x) (h2 : ∀ i, i ≠ j → g2 i = g i) : ∀ l : List Nat, l.Nodup → j ∈ l → (l.filterMap g2).Perm (x :: l.filterMap g)
  | [], _, h => nomatch h
  | i :: r, nd, h => by
    have nd2 := List.nodup_cons.mp nd
    by_cases e : i = j
    · subst e
      have e2 : r.filterMap g2 = r.filterMap g := filterMap_cg fun y hy => h2 y fun z => nd2.1 (z ▸ hy)
      rw [List.filterMap_cons_some h1, List.filterMap_cons_none h0, e2]
    · have hj : j ∈ r := (List.mem_cons.mp h).resolve_left fun z => e z.symm
      have ih := filterMap_set h0 h1 h2 r nd2.2 hj
      cases e3 : g i with
      | none =>
        rw [List.filterMap_cons_none (by rw [h2 i e]; exact e3), List.filterMap_cons_none e3]
        exact ih
      | some y =>
        rw [List.filterMap_cons_some (by rw [h2 i e]; exact e3), List.filterMap_cons_some e3]
        exact (ih.cons y).trans (List.Perm.swap x y _)
theorem filterMap_full {g : Nat → Option Nat} : ∀ l : List Nat, (∀ j ∈ l, g j ≠ none) → (l.filterMap g).length = l.length
  | [], _ => rfl
  | i :: r, h => by
    cases e : g i with
    | none => exact absurd e (h i List.mem_cons_self)
    | some y => rw [List.filterMap_cons_some e, List.length_cons, List.length_cons, filterMap_full r fun j hj => h j (List.mem_cons_of_mem _ hj)]
def LayOk (m : Nat) (n : Nat) (owner : Own) : Prop := owner.size = m + 1 ∧ (ordOf m owner).Perm (List.range n)
theorem lay_none {m n : Nat} {owner : Own} (h : LayOk m n owner) (hn : n ≤ m) : ∃ j, j ≤ m ∧ noneAt owner j := by
  refine Classical.byContradiction fun z => ?_
  have h2 : (ordOf m owner).length = m + 1 := by
    unfold ordOf
    rw [filterMap_full]
    · exact List.length_range
    · intro j hj e
      refine z ⟨j, by have := List.mem_range.mp hj; omega, ?_⟩
      have hj2 : j < owner.size := by
        rw [h.1]
        exact List.mem_range.mp hj
      unfold noneAt
      rw [Array.getD_eq_getD_getElem?, Array.getElem?_eq_getElem hj2] at e ⊢
      rw [show owner[j] = none from e]
      rfl
  have h3 := h.2.length_eq
  rw [List.length_range] at h3
  omega
theorem lay_put {m n j : Nat} {owner : Own} (h : LayOk m n owner) (hj : j ≤ m) (hn : noneAt owner j) : LayOk m (n + 1) (owner.setIfInBounds j (some n)) := by
  have hj2 : j < owner.size := by
    rw [h.1]
    omega
  refine ⟨by rw [Array.size_setIfInBounds]; exact h.1, ?_⟩
  have e0 : owner.getD j none = none := by
    unfold noneAt at hn
    rw [Array.getD_eq_getD_getElem?, Array.getElem?_eq_getElem hj2] at hn ⊢
    cases e : owner[j] with
    | none => rfl
    | some x =>
      rw [e] at hn
      cases hn
  have hp := filterMap_set (g := fun i => owner.getD i none) (g2 := fun i => (owner.setIfInBounds j (some n)).getD i none) (x := n) e0 (by
    show (owner.setIfInBounds j (some n)).getD j none = _
    rw [Array.getD_eq_getD_getElem?, Array.getElem?_setIfInBounds_self_of_lt hj2]
    rfl) (fun i hi => by
    show (owner.setIfInBounds j (some n)).getD i none = _
    rw [Array.getD_eq_getD_getElem?, Array.getElem?_setIfInBounds_ne (fun z => hi z.symm), ← Array.getD_eq_getD_getElem?]) (List.range (m + 1)) List.nodup_range (List.mem_range.mpr (by omega))
  refine hp.trans ?_
  rw [List.range_succ (n := n)]
  exact (h.2.cons n).trans (List.perm_append_singleton n _).symm
theorem lay_fold {k m : Nat} (hm : m + 1 = 2 ^ k) : ∀ (hs : List Int) (n : Nat) (owner : Own), LayOk m n owner → n + hs.length ≤ m → ∃ o2, LayOk m (n + hs.length) o2 ∧
    hs.foldl (fun (acc : Option (Own × Nat)) h => do
      let (owner, k) ← acc
      let j ← SetTable.layClean.free m owner (SetTable.turns m) (SetTable.bits h % (m + 1)) (SetTable.bits h)
      pure (owner.setIfInBounds j (some k), k + 1)) (some (owner, n)) = some (o2, n + hs.length)
  | [], n, owner, h, _ => ⟨owner, h, rfl⟩
  | x :: r, n, owner, h, hl => by
    rw [List.length_cons] at hl
    obtain ⟨j, e, hn, hj⟩ := free_ok hm (lay_none h (by omega)) 13 (SetTable.turns m) (SetTable.bits x % (m + 1)) (SetTable.bits x) (bits_lt x) (by unfold SetTable.turns; omega) (by have := Nat.mod_lt (SetTable.bits x) (show 0 < m + 1 by omega); omega)
    obtain ⟨o2, h2, e2⟩ := lay_fold hm r (n + 1) _ (lay_put h hj hn) (by omega)
    refine ⟨o2, by rw [List.length_cons, show n + (r.length + 1) = n + 1 + r.length by omega]; exact h2, ?_⟩
    rw [List.foldl_cons, List.length_cons, show n + (r.length + 1) = n + 1 + r.length by omega, ← e2]
    congr 1
    show (do let j ← SetTable.layClean.free m owner (SetTable.turns m) (SetTable.bits x % (m + 1)) (SetTable.bits x); pure (owner.setIfInBounds j (some n), n + 1) : Option (Own × Nat)) = _
    rw [e]
    rfl
theorem lay_start (m : Nat) : LayOk m 0 (Array.replicate (m + 1) none) := by
  refine ⟨Array.size_replicate, ?_⟩
  unfold ordOf
  have e : (List.range (m + 1)).filterMap (fun j => (Array.replicate (m + 1) (none : Option Nat)).getD j none) = [] := by
    rw [List.filterMap_eq_nil_iff]
    intro j hj
    rw [Array.getD_eq_getD_getElem?, Array.getElem?_replicate]
    split <;> rfl
  rw [e]
  exact List.Perm.refl _
theorem laid_ok {k m : Nat} (hm : m + 1 = 2 ^ k) (fg mv : Nat) (led plain : Bool) (hs : Array Int) (hl : hs.size ≤ m) : ∃ t order, SetTable.laid m fg mv led plain hs = some (t, order) ∧ t.mask = m ∧ t.led = led ∧ t.dummies = #[] ∧ t.place.size = hs.size ∧ L2.Ris t.place.toList ∧ order.toList.Perm (List.range hs.size) := by
  obtain ⟨o2, h2, e2⟩ := lay_fold hm hs.toList 0 _ (lay_start m) (by rw [Nat.zero_add, Array.length_toList]; exact hl)
  rw [Nat.zero_add, Array.length_toList] at h2 e2
  have e : SetTable.layClean m hs = some o2 := by
    unfold SetTable.layClean
    rw [← Array.foldl_toList]
    have e3 := congrArg (Option.map (fun x : Own × Nat => x.1)) e2
    exact e3
  have e4 : ∀ l : List Nat, (l.filterMap fun j => (o2.getD j none).map (j, ·)).map (·.2) = l.filterMap fun j => o2.getD j none := fun l => by
    induction l with
    | nil => rfl
    | cons j r ih =>
      cases e5 : o2.getD j none with
      | none => rw [List.filterMap_cons_none (f := fun j => (o2.getD j none).map (j, ·)) (by show Option.map _ (o2.getD j none) = none; rw [e5]; rfl), List.filterMap_cons_none (f := fun j => o2.getD j none) e5, ih]
      | some x => rw [List.filterMap_cons_some (f := fun j => (o2.getD j none).map (j, ·)) (b := (j, x)) (by show Option.map _ (o2.getD j none) = _; rw [e5]; rfl), List.filterMap_cons_some (f := fun j => o2.getD j none) e5, List.map_cons, ih]
  have ep : ((List.range (m + 1)).filterMap fun j => (o2.getD j none).map (j, ·)).length = hs.size := by
    have h6 := h2.2.length_eq
    unfold ordOf at h6
    rw [← e4, List.length_map, List.length_range] at h6
    exact h6
  refine ⟨_, _, by unfold SetTable.laid; rw [e]; rfl, rfl, rfl, rfl, ?_, ?_, ?_⟩
  · show (((List.range (m + 1)).filterMap fun j => (o2.getD j none).map (j, ·)).map (·.1)).toArray.size = _
    rw [List.size_toArray, List.length_map]
    exact ep
  · exact (L2.ris_live (fun j => o2.getD j none) (List.range (m + 1)) (by unfold L2.Ris; exact List.pairwise_lt_range)).1
  · show (((List.range (m + 1)).filterMap fun j => (o2.getD j none).map (j, ·)).map (·.2)).Perm _
    rw [e4]
    exact h2.2
theorem sizeAbove_go : ∀ (f k n : Nat), n < 2 ^ (k + f) → ∃ j, SetTable.sizeAbove.go n f (2 ^ k) = 2 ^ j ∧ n < 2 ^ j ∧ k ≤ j ∧ (2 ^ j = 2 ^ k ∨ 2 ^ j ≤ 2 * n)
  | 0, k, n, h => ⟨k, rfl, h, Nat.le_refl _, Or.inl rfl⟩
  | f + 1, k, n, h => by
    show ∃ j, (if 2 ^ k ≤ n then SetTable.sizeAbove.go n f (2 ^ k * 2) else 2 ^ k) = 2 ^ j ∧ _
    by_cases hk : 2 ^ k ≤ n
    · rw [if_pos hk, ← Nat.pow_succ]
      obtain ⟨j, e, h1, h2, h3⟩ := sizeAbove_go f (k + 1) n (by rw [show k + 1 + f = k + (f + 1) by omega]; exact h)
      refine ⟨j, e, h1, by omega, Or.inr ?_⟩
      rcases h3 with h3 | h3
      · rw [h3, Nat.pow_succ]
        omega
      · exact h3
    · rw [if_neg hk]
      exact ⟨k, rfl, by omega, Nat.le_refl _, Or.inl rfl⟩
theorem sizeAbove_ok {n : Nat} (h : n ≤ 100000) : ∃ j, SetTable.sizeAbove n = 2 ^ j ∧ n < 2 ^ j ∧ 3 ≤ j ∧ 2 ^ j ≤ 200008 := by
  obtain ⟨j, e, h1, h2, h3⟩ := sizeAbove_go 64 3 n (Nat.lt_of_le_of_lt h (by decide))
  refine ⟨j, e, h1, h2, ?_⟩
  rcases h3 with h3 | h3
  · rw [h3]
    decide
  · omega
/-- what is reordered is the same -/
theorem take_order {α : Type} (es : Array α) (order : Array Nat) (h : order.toList.Perm (List.range es.size)) : (order.filterMap (es[·]?)).toList.Perm es.toList := by
  rw [Array.toList_filterMap]
  refine (h.filterMap (fun i => es[i]?)).trans ?_
  have e : ∀ (l : List α), (List.range l.length).filterMap (fun i => l[i]?) = l := fun l => by
    induction l with
    | nil => rfl
    | cons x r ih =>
      rw [List.length_cons, List.range_succ_eq_map, List.filterMap_cons_some (f := fun i => (x :: r)[i]?) (b := x) rfl, List.filterMap_map]
      exact congrArg (x :: ·) ih
  have e2 := e es.toList
  rw [Array.length_toList] at e2
  have e3 : (List.range es.size).filterMap (fun i => es[i]?) = (List.range es.size).filterMap (fun i => es.toList[i]?) := filterMap_cg fun i _ => Array.getElem?_toList.symm
  rw [e3, e2]
end Vf

/-! Own layer: sets of keys (texts, numbers), whatever is done to them. -/
namespace Vf
open PySem PySem.Spec PyProof.Rows L2
def kf (e : Int × Value) : Key := match e.2 with
  | .int i _ => Sum.inl i
  | .str x _ => Sum.inr x
  | _ => Sum.inl 0
theorem kf_of {k : Key} {v : Value} {i : Int} (h : keyIs k v = true) : kf (i, v) = k := by
  rcases keyIs_shape h with ⟨j, t, rfl, rfl⟩ | ⟨x, t, rfl, rfl⟩ <;> rfl
def GoodM (w : World) (e : Int × Value) : Prop := keyIs (kf e) e.2 = true ∧ e.1 = keyH w (kf e)
theorem scan_of {k : Key} {v : Value} (h : keyIs k v = true) : v.scannable = true := by
  rcases keyIs_shape h with ⟨j, t, rfl, rfl⟩ | ⟨x, t, rfl, rfl⟩ <;> rfl
instance memKeyDec (k : Key) (l : List Key) : Decidable (k ∈ l) := @List.instDecidableMemOfLawfulBEq Key (@instBEqOfDecidableEq Key inferInstance) inferInstance k l
/-- the set at a holds l -/
def SetM (w : World) (h : Heap) (a : Addr) (l : List Key) : Prop :=
  ∃ o es ep t, h.get? a = some o ∧ o.ExactSet ∧ o.data = .set es ep t ∧ (∀ e ∈ es.toList, GoodM w e) ∧ (es.toList.map kf).Perm l ∧ l.Nodup ∧ es.size < scanBound ∧ t.fits es.size = true ∧ Ris t.place.toList ∧ (w.params.followText "set-order" = true ∨ t.led = true) ∧ (es.size = 0 → ∃ j, t.mask + 1 = 2 ^ j)
section
variable {P : Program} {w : World} {h h2 : Heap} {a : Addr} {l m : List Key}
theorem SetM.keep (R : SetM w h a l) (k : ∀ o, h.get? a = some o → h2.get? a = some o) : SetM w h2 a l := by
  obtain ⟨o, es, ep, t, ho, r⟩ := R
  exact ⟨o, es, ep, t, k o ho, r⟩
theorem SetM.lt (R : SetM w h a l) : a < h.objs.size := by
  obtain ⟨o, es, ep, t, ho, r⟩ := R
  exact Heap.lt_size ho
theorem SetM.perm (R : SetM w h a l) (p : l.Perm m) : SetM w h a m := by
  obtain ⟨o, es, ep, t, ho, x1, x2, x3, x4, x5, x6⟩ := R
  exact ⟨o, es, ep, t, ho, x1, x2, x3, x4.trans p, p.nodup_iff.mp x5, x6⟩
theorem SetM.len (R : SetM w h a l) : l.length < scanBound := by
  obtain ⟨o, es, ep, t, ho, x1, x2, x3, x4, x5, x6, x7⟩ := R
  rw [← x4.length_eq, List.length_map, Array.length_toList]
  exact x6
theorem SetM.typeIs {s : Shared} (R : SetM w s.heap a l) : s.TypeIs (.ref a) "set" := by
  obtain ⟨o, es, ep, t, ho, x1, _⟩ := R
  exact ⟨o, ho, x1.1⟩
theorem good_els {es : List (Int × Value)} (g : ∀ e ∈ es, GoodM w e) : ElemsOf (mixKind P w) es := fun e he => ⟨⟨kf e, (g e he).1, (g e he).2⟩, scan_of (g e he).1⟩
theorem good_in {es : List (Int × Value)} (g : ∀ e ∈ es, GoodM w e) (k : Key) : k ∈ es.map kf ↔ ∃ e ∈ es, (mixKind P w).is k e.2 = true := by
  rw [List.mem_map]
  constructor
  · rintro ⟨e, he, rfl⟩
    exact ⟨e, he, (g e he).1⟩
  · rintro ⟨e, he, q⟩
    exact ⟨e, he, kf_of (i := e.1) q⟩
theorem SetM.setOf (R : SetM w h a l) : h.SetOf (mixKind P w) a (fun k => decide (k ∈ l)) l.length := by
  obtain ⟨o, es, ep, t, ho, x1, x2, x3, x4, x5, x6, x7, x8, x9, _⟩ := R
  refine ⟨o, es, ep, t, ho, x1, x2, good_els x3, fun k => ?_, x6, x7, ?_⟩
  · rw [decide_eq_true_eq, ← x4.mem_iff]
    exact good_in x3 k
  · rw [← x4.length_eq, List.length_map, Array.length_toList]
end
section
variable {P : Program} {w : World} {A : Around} {E : Value → Shared → Prop} {s : Shared} {a : Addr} {l : List Key}
theorem putAt {h : Heap} {o : Obj} {es es2 : Array (Int × Value)} {ep : Nat} {t t2 : SetTable} (ho : h.get? a = some o) (hd : o.data = .set es ep t) :
    (h.update a (Obj.putSet es2 t2)).get? a = some { o with data := .set es2 (ep + 1) t2 } := store_at ho hd
/-- what is stored anew, and laid anew where the table is too full -/
theorem setM_tail {gv : Bool → Sem Unit} (hg : ∀ (b : Bool) (s1 : Shared) (Q1 : Unit → Shared → Prop), Q1 () s1 → wpAny (model P w) A (gv b) Q1 E s1) {o : Obj} {es : Array (Int × Value)} {ep : Nat} {t : SetTable}
    (ho : s.heap.get? a = some o) (hx : o.ExactSet) (hd : o.data = .set es ep t) {e1 : Array (Int × Value)} {t1 : SetTable} (g1 : ∀ e ∈ e1.toList, GoodM w e) (p1 : (e1.toList.map kf).Perm l) (nd : l.Nodup) (hb1 : e1.size < scanBound) (f1 : t1.fits e1.size = true)
    (r1 : Ris t1.place.toList) (l1 : w.params.followText "set-order" = true ∨ t1.led = true) (ne : e1.size ≠ 0) {wd : Bool} {R : Option Bool → Shared → Prop} (hR : ∀ h2, Heap.SameBut a s.heap h2 → SetM w h2 a l → R (some true) { s with heap := h2 }) :
    wpAny (model P w) A (do
        storeSet a e1 t1
        if (!wd && t1.tooFull) = true then do
            gv (relayAll t1 e1 (SetTable.grown e1.size)).2.2
            storeSet a (relayAll t1 e1 (SetTable.grown e1.size)).1 (relayAll t1 e1 (SetTable.grown e1.size)).2.1
            pure (some true)
          else pure (some true)) R E s := by
  refine wpAny_bind (wpAny_storeSet_of ho hd ?_ (fits_of_scanBound hb1))
  have ho1 := putAt (es2 := e1) (t2 := t1) ho hd
  have b1 := Heap.SameBut.update s.heap a (Obj.putSet e1 t1)
  split
  · have pm := relayAll_perm t1 e1 (SetTable.grown e1.size)
    have f2 := relayAll_fits t1 e1 (SetTable.grown e1.size)
    have r2 := relayAll_ris t1 e1 (SetTable.grown e1.size)
    have l2 := relayAll_led t1 e1 (SetTable.grown e1.size)
    generalize relayAll t1 e1 (SetTable.grown e1.size) = Y at pm f2 r2 l2 ⊢
    obtain ⟨e2, t2, gave⟩ := Y
    dsimp only at pm f2 r2 l2 ⊢
    have hz : e2.size = e1.size := by rw [← Array.length_toList, pm.length_eq, Array.length_toList]
    have hb2 : e2.size < scanBound := hz ▸ hb1
    refine wpAny_bind (hg _ _ _ ?_)
    refine wpAny_bind (wpAny_storeSet_of ho1 rfl ?_ (fits_of_scanBound hb2))
    have ho2 := putAt (es2 := e2) (t2 := t2) ho1 rfl
    exact wpAny_pure (hR _ (b1.trans (Heap.SameBut.update _ a _)) ⟨_, e2, _, t2, ho2, hx, rfl, fun e he => g1 e (pm.mem_iff.mp he), (pm.map kf).trans p1, nd, hb2, f2, r2, l1.imp id fun z => l2.trans z, fun z => absurd (hz.symm.trans z) ne⟩)
  · exact wpAny_pure (hR _ b1 ⟨_, e1, _, t1, ho1, hx, rfl, g1, p1, nd, hb1, f1, r1, l1, fun z => absurd z ne⟩)
def addK (l : List Key) (k : Key) : List Key := if k ∈ l then l else l ++ [k]
theorem setM_add {k : Key} {x : Value} {Q : Bool → Shared → Prop} (hk : keyIs k x = true) (R : SetM w s.heap a l) (room : l.length + 1 < scanBound)
    (hQ : ∀ h2 b, Heap.SameBut a s.heap h2 → SetM w h2 a (addK l k) → Q b { s with heap := h2 }) : wpAny (model P w) A (setAddHashed a x (keyH w k)) Q E s := by
  have R0 := R
  obtain ⟨o, es, ep, t, ho, hx, hd, g, p, nd, hb, hf, hr, hl, _⟩ := R
  have hkey : (mixKind P w).is k x = true := hk
  have hsc : x.scannable = true := scan_of hk
  have hel : ElemsOf (mixKind P w) es.toList := good_els g
  unfold setAddHashed setAddHashedIn
  refine wpAny_holding (wpAny_bind (wpAny_setState_of ho hd hf ?_))
  dsimp only
  rw [byScan_of hsc hb hel]
  simp only [↓reduceIte]
  unfold setAddByScan
  refine wpAny_bind ?_
  refine wpAny_bind (wpAny_rule ?_)
  refine wpAny_bind (wpAny_setScan_of (knd := mixKind P w) hkey ho hd hf hel ?_)
  cases hi : List.findIdx? (fun e => (mixKind P w).is k e.2) es.toList with
  | some j =>
    dsimp only
    obtain ⟨hj, pj, _⟩ := List.findIdx?_eq_some_iff_getElem.mp hi
    have hin : k ∈ l := p.mem_iff.mp ((good_in (P := P) g k).mpr ⟨es.toList[j], List.getElem_mem hj, pj⟩)
    refine wpAny_pure (wpAny_pure ?_)
    refine hQ s.heap _ (Heap.SameBut.refl a s.heap) ?_
    unfold addK
    rw [if_pos hin]
    exact R0
  | none =>
    dsimp only
    have hnot : k ∉ es.toList.map kf := fun z => by
      obtain ⟨e, he, q⟩ := (good_in (P := P) g k).mp z
      have c := List.findIdx?_eq_none_iff.mp hi e he
      rw [q] at c
      cases c
    have hnl : k ∉ l := fun z => hnot (p.mem_iff.mpr z)
    have hgw : ∀ (b : Bool) {s1 : Shared} {Q1 : Unit → Shared → Prop}, Q1 () s1 → wpAny (model P w) A (match b with | true => rule "set.scan.the-table-gave-way" | false => pure ()) Q1 E s1 :=
      fun b s1 Q1 q => by cases b <;> first | exact wpAny_pure q | exact wpAny_rule q
    have pm := layNew_perm t es (keyH w k) x
    have f1 := layNew_fits t es (keyH w k) x
    have r1 := layNew_ris t es (keyH w k) x hr
    have l1 := layNew_led t es (keyH w k) x
    generalize layNew t es (keyH w k) x = Z at pm f1 r1 l1 ⊢
    obtain ⟨e1, t1, wd, gave⟩ := Z
    dsimp only at pm f1 r1 l1 ⊢
    rw [Array.toList_push] at pm
    have pc : e1.toList.Perm ((keyH w k, x) :: es.toList) := pm.trans (List.perm_append_singleton _ _)
    have kx : kf (keyH w k, x) = k := kf_of hk
    have pk : (e1.toList.map kf).Perm (k :: es.toList.map kf) := by
      have q := pc.map kf
      rw [List.map_cons, kx] at q
      exact q
    have g1 : ∀ e ∈ e1.toList, GoodM w e := fun e he => by
      rcases List.mem_cons.mp (pc.mem_iff.mp he) with z | z
      · rw [z]
        exact ⟨by rw [kx]; exact hk, by rw [kx]⟩
      · exact g e z
    have ea : addK l k = l ++ [k] := if_neg hnl
    have p1 : (e1.toList.map kf).Perm (addK l k) := by
      rw [ea]
      exact (pk.trans (p.cons k)).trans (List.perm_append_singleton _ _).symm
    have nd1 : (addK l k).Nodup := by
      rw [ea]
      exact (List.perm_append_singleton _ _).nodup_iff.mpr (List.nodup_cons.mpr ⟨hnl, nd⟩)
    have hb1 : e1.size < scanBound := by
      rw [← Array.length_toList, pc.length_eq, List.length_cons, ← List.length_map (f := kf), p.length_eq]
      exact room
    have ne1 : e1.size ≠ 0 := by
      rw [← Array.length_toList, pc.length_eq, List.length_cons]
      exact Nat.succ_ne_zero _
    have hled : w.params.followText "set-order" = true ∨ t1.led = true := hl.imp id fun z => by rw [l1]; exact z
    refine wpAny_bind (hgw _ ?_)
    split
    · refine wpAny_bind ?_
      rw [hashByValue_scannable 8 hsc]
      refine wpAny_pure ?_
      refine setM_tail ?_ ho hx hd g1 p1 nd1 hb1 ?_ ?_ ?_ ?_ ?_
      · intro b s1 Q1 q; cases b <;> first | exact wpAny_pure q | exact wpAny_rule q
      · first | (split <;> first | exact f1 | exact SetTable.fits_plain_off f1) | exact f1
      · first | (split <;> exact r1) | exact r1
      · first | (split <;> exact hled) | exact hled
      · exact ne1
      · intro h2 sb r; dsimp only; exact wpAny_pure (hQ h2 true sb r)
    · refine wpAny_bind (wpAny_pure ?_)
      simp only [↓reduceIte]
      refine setM_tail ?_ ho hx hd g1 p1 nd1 hb1 f1 r1 hled ne1 ?_
      · intro b s1 Q1 q; cases b <;> first | exact wpAny_pure q | exact wpAny_rule q
      · intro h2 sb r; dsimp only; exact wpAny_pure (hQ h2 true sb r)
end
end Vf

/-! Own layer: a set walked unseen, a set merged into another one, a dict or a list taken into a set. -/
namespace Vf
open PySem PySem.Spec PyProof.Rows L2
section
variable {P : Program} {w : World} {A : Around} {E : Value → Shared → Prop} {s : Shared} {a b : Addr} {l m : List Key}
theorem not_ref {e : Int × Value} (g : GoodM w e) (c : Addr) : e.2 ≠ .ref c := fun z => by
  have q := g.1
  rw [z] at q
  cases hk : kf e with
  | inl i =>
    rw [hk] at q
    exact Bool.noConfusion (show false = true from q)
  | inr i =>
    rw [hk] at q
    exact Bool.noConfusion (show false = true from q)
theorem quiet_one {es : List (Int × Value)} (g : ∀ e ∈ es, GoodM w e) {F : (Int × Value) → (Option Bool × Unit) → Sem (ForInStep (Option Bool × Unit))}
    (hF : ∀ e r, (∀ c, e.2 ≠ .ref c) → F e r = pure (.yield (none, ()))) {Q : Option Bool × Unit → Shared → Prop} (h : Q (none, ()) s) : wpAny (model P w) A (forIn es (none, ()) F) Q E s := by
  refine wpAny_forIn_list F (fun rest r s1 => r = (none, ()) ∧ s1 = s ∧ ∀ e ∈ rest, GoodM w e) _ ?_ ?_ _ _ ⟨rfl, rfl, g⟩
  · rintro e rest r s1 ⟨rfl, rfl, hall⟩
    rw [hF e _ (not_ref (hall e List.mem_cons_self))]
    exact wpAny_pure ⟨rfl, rfl, fun u hu => hall u (List.mem_cons_of_mem _ hu)⟩
  · rintro r s1 ⟨rfl, rfl, _⟩
    exact h
theorem quiet_sets {Q : Bool → Shared → Prop} {sets : List Addr} (hs : ∀ c ∈ sets, ∃ l, SetM w s.heap c l) (h : Q true s) : wpAny (model P w) A (setsQuiet sets) Q E s := by
  unfold setsQuiet
  refine wpAny_bind (wpAny_forIn_list _ (fun rest r s1 => r = (none, ()) ∧ s1 = s ∧ ∀ c ∈ rest, ∃ l, SetM w s.heap c l) _ ?_ ?_ _ _ ⟨rfl, rfl, hs⟩)
  · rintro c rest r s1 ⟨rfl, rfl, hall⟩
    obtain ⟨l, o, es, ep, t, ho, hx, hd, g, p, nd, hb, hf, _⟩ := hall c List.mem_cons_self
    refine wpAny_bind (wpAny_setEntries_of ho hd hf ?_)
    refine wpAny_bind ?_
    show wpAny _ _ (forIn es _ _) _ _ _
    rw [← Array.forIn_toList]
    refine quiet_one g ?_ ?_
    · rintro ⟨i, x⟩ ⟨r1, r2⟩ hx
      cases x <;> first | rfl | exact absurd rfl (hx _)
    · exact wpAny_pure ⟨rfl, rfl, fun u hu => hall u (List.mem_cons_of_mem _ hu)⟩
  · rintro r s1 ⟨rfl, rfl, _⟩
    exact wpAny_pure h
theorem SetM.marks {h : Heap} {o : Obj} {es es0 : Array (Int × Value)} {ep : Nat} {t t2 : SetTable} (ho : h.get? a = some o) (hx : o.ExactSet) (hd : o.data = .set es0 ep t) (g : ∀ e ∈ es.toList, GoodM w e) (p : (es.toList.map kf).Perm l) (nd : l.Nodup) (hb : es.size < scanBound)
    (hf : t2.fits es.size = true) (hr : Ris t2.place.toList) (hl : w.params.followText "set-order" = true ∨ t2.led = true) (hz : es.size = 0 → ∃ j, t2.mask + 1 = 2 ^ j) : SetM w (h.update a (Obj.putSet es t2)) a l :=
  ⟨_, es, _, t2, putAt ho hd, hx, rfl, g, p, nd, hb, hf, hr, hl, hz⟩
/-- the walk of the set at a, of which nobody sees the order -/
theorem walk_unseen {others : List Addr} {Q : Array (Int × Value) → Shared → Prop} (R : SetM w s.heap a l) (Rb : SetM w s.heap b m) (hab : a ≠ b) (ho : ∀ c ∈ others, ∃ l, SetM w s.heap c l)
    (hQ : ∀ h2 es, Heap.SameBut b s.heap h2 → SetM w h2 b m → (∀ e ∈ es.toList, GoodM w e) → (es.toList.map kf).Perm l → Q es { s with heap := h2 }) :
    wpAny (model P w) A (setWalkUnseen a others (some b)) Q E s := by
  have R0 := R
  have Rb0 := Rb
  obtain ⟨o, es, ep, t, hoa, hx, hd, g, p, nd, hb, hf, hr, hl, hz⟩ := R
  unfold setWalkUnseen
  refine wpAny_bind (wpAny_setState_of hoa hd hf ?_)
  dsimp only
  refine wpAny_bind (wpAny_byText ?_)
  by_cases c : (w.params.followText "set-order" || (t.led && t.plain) || decide (es.size ≤ 1)) = true
  · refine wp_if_pos c ?_
    unfold setWalk
    refine wpAny_bind (wpAny_setState_of hoa hd hf ?_)
    dsimp only
    refine wpAny_bind (wpAny_byText ?_)
    by_cases c1 : w.params.followText "set-order" = true
    · refine wp_if_pos c1 ?_
      refine wpAny_bind (wpAny_askSetting (wpAny_pure ?_))
      have q := pick_perm (w.params.setOrder a ep) es
      exact hQ s.heap _ (Heap.SameBut.refl b s.heap) Rb0 (fun e he => g e (q.mem_iff.mp he)) ((q.map kf).trans p)
    · refine wp_if_neg c1 ?_
      have c2 : (!t.plain && decide (es.size > 1)) = false := by
        rw [Bool.not_eq_true] at c1
        rw [c1, Bool.false_or, Bool.or_eq_true, Bool.and_eq_true, decide_eq_true_eq] at c
        rcases c with c | c
        · rw [c.2]
          rfl
        · rw [decide_eq_false (by omega), Bool.and_false]
      refine wp_if_neg (by show ¬ ((!t.plain && decide (es.size > 1)) = true); rw [c2]; exact Bool.false_ne_true) ?_
      have hled : t.led = true := hl.resolve_left c1
      refine wpAny_bind (wpAny_of_eq (a := ()) ?_ ?_)
      · show (if (!t.led && decide (es.size > 1)) = true then unsupported "set:maker-not-led" else pure ()) = pure ()
        rw [hled]
        rfl
      · exact wpAny_pure (hQ s.heap _ (Heap.SameBut.refl b s.heap) Rb0 g p)
  · refine wp_if_neg c ?_
    refine wpAny_bind (quiet_sets (fun c hc => ?_) ?_)
    · rcases List.mem_cons.mp hc with z | z
      · exact ⟨l, z ▸ R0⟩
      · exact ho c z
    · refine wp_if_neg (by simp) ?_
      refine wpAny_bind (wpAny_rule ?_)
      obtain ⟨ob, ef, epf, tf, hob, xb, db, gb, pb, nb, bb, fb, rb, lb, zb⟩ := Rb
      refine wpAny_bind (wpAny_setState_of hob db fb ?_)
      dsimp only
      have c1 : w.params.followText "set-order" = false := by
        cases q : w.params.followText "set-order" with
        | false => rfl
        | true => exact absurd (by rw [q]; rfl) c
      have hled : t.led = true := hl.resolve_left (by rw [c1]; exact Bool.false_ne_true)
      split
      · refine wpAny_bind (wpAny_storeSet_of hob db ?_ (fits_of_scanBound bb))
        refine wpAny_pure (hQ _ _ (Heap.SameBut.update s.heap b _) (SetM.marks hob xb db gb pb nb bb fb rb ?_ zb) g p)
        refine lb.imp id fun z => ?_
        show (tf.led && t.led) = true
        rw [z, hled]
        rfl
      · exact wpAny_pure (hQ s.heap _ (Heap.SameBut.refl b s.heap) Rb0 g p)
/-- the table of the set at a has room for n -/
def RoomAt (h : Heap) (a : Addr) (n : Nat) : Prop := ∃ o es ep t, h.get? a = some o ∧ o.data = .set es ep t ∧ n ≤ t.mask
/-- a set laid anew with room for more -/
theorem relay_at {n : Nat} {Q : Unit → Shared → Prop} (R : SetM w s.heap a l) (hn : l.length ≤ n) (hn2 : n ≤ 100000) (hQ : ∀ h2, Heap.SameBut a s.heap h2 → RoomAt h2 a n → SetM w h2 a l → Q () { s with heap := h2 }) : wpAny (model P w) A (setRelay a n) Q E s := by
  obtain ⟨o, es, ep, t, ho, hx, hd, g, p, nd, hb, hf, hr, hl, hz⟩ := R
  obtain ⟨j, e1, h1, h2, h3⟩ := sizeAbove_ok hn2
  have hsz : es.size = l.length := by rw [← p.length_eq, List.length_map, Array.length_toList]
  have hm : SetTable.sizeAbove n - 1 + 1 = 2 ^ j := by
    have : 0 < 2 ^ j := Nat.pow_pos (by decide)
    omega
  obtain ⟨t2, order, e2, m2, l2, d2, z2, r2, o2⟩ := laid_ok hm t.finger (t.movedTo (SetTable.sizeAbove n - 1)) t.led t.plain (es.map (·.1)) (by rw [Array.size_map]; omega)
  rw [Array.size_map] at z2 o2
  have pe := take_order es order o2
  have er : t.relaid (es.map (·.1)) n = some (t2, order) := e2
  unfold setRelay
  refine wpAny_bind (wpAny_setState_of ho hd hf ?_)
  dsimp only
  refine wp_if_neg (by rw [e1, sizeLine_eq]; omega) ?_
  rw [er]
  generalize hes2 : order.filterMap (es[·]?) = es2 at pe
  have hz2 : es2.size = es.size := by rw [← Array.length_toList, pe.length_eq, Array.length_toList]
  refine wpAny_bind (wpAny_of_eq (a := (es2, t2)) ?_ ?_)
  · show (if (order.filterMap (es[·]?)).size != es.size then unsupported "internal:set-table-lost-an-element" else pure (order.filterMap (es[·]?), t2)) = pure (es2, t2)
    rw [hes2, hz2]
    simp
  · dsimp only
    refine wpAny_storeSet_of ho hd ?_ (fits_of_scanBound (hz2 ▸ hb))
    refine hQ _ (Heap.SameBut.update s.heap a _) ⟨_, _, _, t2, putAt ho hd, rfl, by rw [m2]; omega⟩ (SetM.marks ho hx hd (fun e he => g e (pe.mem_iff.mp he)) ((pe.map kf).trans p) nd (hz2 ▸ hb) ?_ r2 (hl.imp id fun z => l2.trans z) fun _ => ⟨j, ?_⟩)
    · unfold SetTable.fits SetTable.fill
      rw [z2, d2, m2, hz2]
      simp
      omega
    · rw [m2]
      exact hm
theorem room_at {n : Nat} {Q : Unit → Shared → Prop} (R : SetM w s.heap a l) (hn2 : (l.length + n) * 2 ≤ 100000) (hQ : ∀ h2, Heap.SameBut a s.heap h2 → RoomAt h2 a n → SetM w h2 a l → Q () { s with heap := h2 }) : wpAny (model P w) A (setRoomFor a n) Q E s := by
  have R0 := R
  obtain ⟨o, es, ep, t, ho, hx, hd, g, p, nd, hb, hf, hr, hl, hz⟩ := R
  have hsz : es.size = l.length := by rw [← p.length_eq, List.length_map, Array.length_toList]
  have hps : t.place.size = es.size := by
    have q := hf
    unfold SetTable.fits at q
    rw [Bool.and_eq_true, beq_iff_eq] at q
    exact q.1
  unfold setRoomFor
  refine wpAny_bind (wpAny_setState_of ho hd hf ?_)
  dsimp only
  unfold SetTable.roomFor
  by_cases c : (t.fill + n) * 5 ≥ t.mask * 3
  · rw [if_pos c]
    refine relay_at R0 (by omega) (by omega) fun h2 sb ra r => hQ h2 sb ?_ r
    obtain ⟨o2, e2, ep2, t2, x1, x2, x3⟩ := ra
    exact ⟨o2, e2, ep2, t2, x1, x2, by omega⟩
  · rw [if_neg c]
    exact wpAny_pure (hQ s.heap (Heap.SameBut.refl a s.heap) ⟨o, es, ep, t, ho, hd, by omega⟩ R0)
end
def uniK (l m : List Key) : List Key := m.foldl addK l
theorem addK_len (l : List Key) (k : Key) : (addK l k).length ≤ l.length + 1 := by
  unfold addK
  split
  · omega
  · rw [List.length_append, List.length_singleton]
    exact Nat.le_refl _
theorem mem_addK {l : List Key} {k j : Key} : j ∈ addK l k ↔ j ∈ l ∨ j = k := by
  unfold addK
  split
  · next c => exact ⟨Or.inl, fun h => h.elim id fun e => e ▸ c⟩
  · rw [List.mem_append, List.mem_singleton]
theorem nodup_addK {l : List Key} {k : Key} (h : l.Nodup) : (addK l k).Nodup := by
  unfold addK
  split
  · exact h
  · next c => exact (List.perm_append_singleton _ _).nodup_iff.mpr (List.nodup_cons.mpr ⟨c, h⟩)
theorem mem_uniK {m : List Key} : ∀ {l : List Key} {j : Key}, j ∈ uniK l m ↔ j ∈ l ∨ j ∈ m := by
  induction m with
  | nil => intro l j; simp [uniK]
  | cons x m ih =>
    intro l j
    show j ∈ uniK (addK l x) m ↔ _
    rw [ih, mem_addK, List.mem_cons, or_assoc]
theorem nodup_uniK {m : List Key} : ∀ {l : List Key}, l.Nodup → (uniK l m).Nodup := by
  induction m with
  | nil => intro l h; exact h
  | cons x m ih => intro l h; exact ih (nodup_addK h)
theorem uniK_app {m : List Key} : ∀ {l : List Key}, (l ++ m).Nodup → uniK l m = l ++ m := by
  induction m with
  | nil => intro l h; exact (List.append_nil l).symm
  | cons x m ih =>
    intro l h
    have hx : x ∉ l := fun z => (List.nodup_append.mp h).2.2 x z x List.mem_cons_self rfl
    have e : addK l x = l ++ [x] := if_neg hx
    show uniK (addK l x) m = _
    rw [e, ih (by rw [List.append_assoc]; exact h), List.append_assoc]
    rfl
theorem perm_of_mem : ∀ {l m : List Key}, l.Nodup → m.Nodup → (∀ k, k ∈ l ↔ k ∈ m) → l.Perm m
  | [], m, _, _, h => by
    have e : m = [] := List.eq_nil_iff_forall_not_mem.mpr fun k hk => by have := (h k).mpr hk; cases this
    rw [e]
  | x :: l, m, hl, hm, h => by
    obtain ⟨h1, h2⟩ := List.nodup_cons.mp hl
    obtain ⟨a, b, e⟩ := List.append_of_mem ((h x).mp List.mem_cons_self)
    subst e
    have pm : (a ++ x :: b).Perm (x :: (a ++ b)) := List.perm_middle
    obtain ⟨m1, m2⟩ := List.nodup_cons.mp (pm.nodup_iff.mp hm)
    refine ((perm_of_mem h2 m2 fun k => ⟨fun hk => ?_, fun hk => ?_⟩).cons x).trans pm.symm
    · have q := pm.mem_iff.mp ((h k).mp (List.mem_cons_of_mem _ hk))
      rcases List.mem_cons.mp q with z | z
      · exact absurd (z ▸ hk) h1
      · exact z
    · have q := (h k).mpr (pm.mem_iff.mpr (List.mem_cons_of_mem _ hk))
      rcases List.mem_cons.mp q with z | z
      · exact absurd (z ▸ hk) m1
      · exact z
section
variable {P : Program} {w : World} {A : Around} {E : Value → Shared → Prop} {s : Shared} {a b : Addr} {l m : List Key}
theorem merge_one {each : Sem Unit} {n : Nat} {F : (Int × Value) → PUnit → Sem (ForInStep PUnit)} {Q : PUnit → Shared → Prop} {es : List (Int × Value)} {h0 : Heap}
    (hF : ∀ h x u, F (h, x) u = (do
      let _ ← holding [x] (setAddHashed a x h)
      each
      let z ← setState b
      if (z.2.1 != n) = true then do
          unsupported "set.changed-during-merge"
          pure (ForInStep.yield PUnit.unit)
        else pure (ForInStep.yield PUnit.unit)))
    (hab : a ≠ b) {ob : Obj} {eb : Array (Int × Value)} {tb : SetTable} (hob : h0.get? b = some ob) (db : ob.data = .set eb n tb) (fb : tb.fits eb.size = true)
    (heach : ∀ (h1 : Heap) (Q1 : Unit → Shared → Prop), h1.get? b = some ob → Q1 () { s with heap := h1 } → wpAny (model P w) A each Q1 E { s with heap := h1 })
    (R : SetM w h0 a l) (g : ∀ e ∈ es, GoodM w e) (hn : l.length + es.length < scanBound) (hQ : ∀ h2, Heap.SameBut a h0 h2 → SetM w h2 a (uniK l (es.map kf)) → Q ⟨⟩ { s with heap := h2 }) : wpAny (model P w) A (forIn es ⟨⟩ F) Q E { s with heap := h0 } := by
  refine wpAny_forIn_list F (fun rest _ s1 => ∃ h2 l1, s1 = { s with heap := h2 } ∧ Heap.SameBut a h0 h2 ∧ SetM w h2 a l1 ∧ (∀ e ∈ rest, GoodM w e) ∧ uniK l1 (rest.map kf) = uniK l (es.map kf) ∧ l1.length + rest.length < scanBound) _ ?_ ?_ _ _
    ⟨h0, l, rfl, Heap.SameBut.refl a h0, R, g, rfl, hn⟩
  · rintro ⟨h, x⟩ rest u s1 ⟨h2, l1, rfl, sb, R1, g1, q1, n1⟩
    rw [hF]
    obtain ⟨g2, g3⟩ := g1 (h, x) List.mem_cons_self
    have g3' : h = keyH w (kf (h, x)) := g3
    rw [List.length_cons] at n1
    refine wpAny_bind (wpAny_holding ?_)
    have main : wpAny (model P w) A (setAddHashed a x (keyH w (kf (h, x)))) (fun _ s2 => ∃ h3, s2 = { s with heap := h3 } ∧ Heap.SameBut a h2 h3 ∧ SetM w h3 a (addK l1 (kf (h, x)))) E { s with heap := h2 } :=
      setM_add (s := { s with heap := h2 }) g2 R1 (by omega) fun h3 _ sb3 R3 => ⟨h3, rfl, sb3, R3⟩
    rw [← g3'] at main
    refine wpAny_mono main (fun r s2 => ?_) fun _ _ z => z
    rintro ⟨h3, rfl, sb3, R3⟩
    have sb4 := sb.trans sb3
    have hb3 : h3.get? b = some ob := (sb4.2 b (Ne.symm hab)).trans hob
    refine wpAny_bind (heach h3 _ hb3 ?_)
    refine wpAny_bind (wpAny_setState_of (s := { s with heap := h3 }) hb3 db fb ?_)
    dsimp only
    rw [if_neg (by simp)]
    refine wpAny_pure ⟨h3, addK l1 (kf (h, x)), rfl, sb4, R3, fun e he => g1 e (List.mem_cons_of_mem _ he), q1, ?_⟩
    have := addK_len l1 (kf (h, x))
    omega
  · rintro u s1 ⟨h2, l1, rfl, sb, R1, _, q1, _⟩
    refine hQ h2 sb ?_
    have e : l1 = uniK l (es.map kf) := q1
    rw [← e]
    exact R1
theorem merge_at {each : Sem Unit} {Q : Unit → Shared → Prop} (R : SetM w s.heap a l) (Rb : SetM w s.heap b m) (hab : a ≠ b) (hn : l.length + m.length < scanBound)
    (heach : ∀ (h1 : Heap) (Q1 : Unit → Shared → Prop), h1.get? b = s.heap.get? b → Q1 () { s with heap := h1 } → wpAny (model P w) A each Q1 E { s with heap := h1 })
    (hQ : ∀ h2, Heap.SameBut a s.heap h2 → SetM w h2 a (uniK l m) → Q () { s with heap := h2 }) : wpAny (model P w) A (setMerge a b each) Q E s := by
  have R0 := R
  have Rb0 := Rb
  obtain ⟨ob, eb, epb, tb, hob, xb, db, gb, pb, nb, bb, fb, rb, lb, zb⟩ := Rb
  have hnm : eb.size = m.length := by rw [← pb.length_eq, List.length_map, Array.length_toList]
  have hsb : scanBound = 4096 := rfl
  unfold setMerge
  refine wp_if_neg (by simp [hab]) ?_
  refine wpAny_bind (wpAny_setState_of hob db fb ?_)
  dsimp only
  by_cases hz : eb.size = 0
  · rw [if_pos (by simp [Array.isEmpty, hz])]
    refine wpAny_pure (hQ s.heap (Heap.SameBut.refl a s.heap) ?_)
    have e : m = [] := List.length_eq_zero_iff.mp (by omega)
    rw [e]
    exact R0
  rw [if_neg (by simp [Array.isEmpty, hz])]
  refine wpAny_bind (room_at R0 (by omega) fun h2 sb ra R2 => ?_)
  obtain ⟨o, es, ep, t, ho, hx, hd, g, p, nd, hb, hf, hr, hl, hz2⟩ := R2
  obtain ⟨o', es', ep', t', ho', hd', hmask⟩ := ra
  rw [ho] at ho'
  cases ho'
  rw [hd] at hd'
  cases hd'
  have hob2 : h2.get? b = some ob := (sb.2 b (Ne.symm hab)).trans hob
  refine wpAny_bind (wpAny_setState_of (s := { s with heap := h2 }) ho hd hf ?_)
  dsimp only
  have hps : t.place.size = es.size := by
    have q := hf
    unfold SetTable.fits at q
    rw [Bool.and_eq_true, beq_iff_eq] at q
    exact q.1
  have clear : t.fill = 0 → l = [] ∧ es.size = 0 := fun z => by
    unfold SetTable.fill at z
    have h1 : es.size = 0 := by omega
    exact ⟨List.length_eq_zero_iff.mp (by rw [← p.length_eq, List.length_map, Array.length_toList]; exact h1), h1⟩
  have hled : w.params.followText "set-order" = true ∨ (t.led && tb.led) = true := by
    rcases hl with z | z
    · exact Or.inl z
    · rcases lb with y | y
      · exact Or.inl y
      · exact Or.inr (by rw [z, y]; rfl)
  have hmem : ∀ {x : List Key}, x.Perm m → l = [] → x.Perm (uniK l m) := fun px z => by
    rw [z, uniK_app (l := []) (by rw [List.nil_append]; exact nb)]
    exact px
  unfold SetTable.road
  by_cases hfill : (t.fill != 0) = true
  · rw [if_pos hfill]
    dsimp only
    have Ra2 : SetM w h2 a l := ⟨o, es, ep, t, ho, hx, hd, g, p, nd, hb, hf, hr, hl, hz2⟩
    refine wpAny_bind (walk_unseen (s := { s with heap := h2 }) (Rb0.keep fun u hu => (sb.2 b (Ne.symm hab)).trans hu) Ra2 (Ne.symm hab) (fun c hc => ⟨l, by rw [List.mem_singleton.mp hc]; exact Ra2⟩) fun h3 er sb3 R3 g3 p3 => ?_)
    have hob3 : h3.get? b = some ob := (sb3.2 b (Ne.symm hab)).trans hob2
    refine wpAny_bind ?_
    rw [← Array.forIn_toList]
    refine merge_one (s := s) (each := each) (n := epb) (l := l) (fun h x u => rfl) hab hob3 db fb (fun h1 Q1 q1 q2 => heach h1 Q1 (q1.trans hob.symm) q2) R3 g3 ?_ fun h4 sb4 R4 => ?_
    · have q := p3.length_eq
      rw [List.length_map] at q
      omega
    · refine wpAny_pure (hQ h4 ((sb.trans sb3).trans sb4) (R4.perm (by
      exact perm_of_mem (nodup_uniK nd) (nodup_uniK nd) fun k => by rw [mem_uniK, mem_uniK, p3.mem_iff])))
  · rw [if_neg hfill]
    have hfz : t.fill = 0 := by
      rw [bne_iff_ne, ne_eq, Classical.not_not] at hfill
      exact hfill
    obtain ⟨el, ez⟩ := clear hfz
    obtain ⟨j, hj⟩ := hz2 ez
    by_cases hroad : (t.mask == tb.mask && tb.dummies.isEmpty) = true
    · rw [if_pos hroad]
      refine wpAny_storeSet_of (s := { s with heap := h2 }) ho hd ?_ (fits_of_scanBound bb)
      refine hQ _ (sb.trans (Heap.SameBut.update h2 a _)) (SetM.marks ho hx hd gb (hmem pb el) ?_ bb ?_ ?_ hled fun z => absurd z hz)
      · exact nodup_uniK nd
      · exact fb
      · exact rb
    · rw [if_neg hroad]
      dsimp only
      obtain ⟨t2, order, e2, m2, l2, d2, z2, r2, o2⟩ := laid_ok hj t.finger t.moves (t.led && tb.led) (t.plain && tb.plain) (eb.map (·.1)) (by rw [Array.size_map]; exact hmask)
      rw [Array.size_map] at z2 o2
      have pe := take_order eb order o2
      rw [e2]
      generalize hes2 : order.filterMap (eb[·]?) = es2 at pe
      have hzz : es2.size = eb.size := by rw [← Array.length_toList, pe.length_eq, Array.length_toList]
      refine wpAny_bind (wpAny_of_eq (a := (es2, t2)) ?_ ?_)
      · show (if (order.filterMap (eb[·]?)).size != eb.size then unsupported "internal:set-table-lost-an-element" else pure (order.filterMap (eb[·]?), t2)) = pure (es2, t2)
        rw [hes2, hzz]
        simp
      · dsimp only
        refine wpAny_storeSet_of (s := { s with heap := h2 }) ho hd ?_ (fits_of_scanBound (hzz ▸ bb))
        refine hQ _ (sb.trans (Heap.SameBut.update h2 a _)) (SetM.marks ho hx hd (fun e he => gb e (pe.mem_iff.mp he)) (hmem ((pe.map kf).trans pb) el) (nodup_uniK nd) (hzz ▸ bb) ?_ r2 (hled.imp id fun z => l2.trans z) fun z => absurd (hzz.symm.trans z) hz)
        unfold SetTable.fits SetTable.fill
        rw [z2, d2, m2, hzz]
        simp
        exact hmask
end
end Vf

/-! Own layer: sets made: set(d), a | b, a & b, sorted(a). -/
namespace Vf
open PySem PySem.Spec PyProof.Rows L2
/-- a set without members, just made -/
def set0 (w : World) : Obj := { cls := .type "set", dict := none, data := .set #[] 0 (.fresh 0 0 (!w.params.followText "set-order")) }
theorem setM_new {w : World} {h : Heap} {a : Addr} (ho : h.get? a = some (set0 w)) : SetM w h a [] :=
  ⟨_, #[], 0, _, ho, ⟨rfl, rfl, rfl⟩, rfl, (fun e he => by simp at he), (by simp), List.nodup_nil, (by decide), (by rfl), List.Pairwise.nil, by
    show _ ∨ (!w.params.followText "set-order") = true
    cases w.params.followText "set-order"
    · exact .inr rfl
    · exact .inl rfl, fun _ => ⟨3, rfl⟩⟩
section
variable {P : Program} {w : World} {A : Around} {E : Value → Shared → Prop} {s : Shared} {a b d : Addr} {l m : List Key}
theorem newSet_at {Q : Value → Shared → Prop} (h : Q (.ref s.heap.objs.size) { s with heap := s.heap.push (set0 w) }) : wpAny (model P w) A (newSet (.type "set")) Q E s := by
  unfold newSet setsByText
  refine wpAny_bind (wpAny_bind (wpAny_askSetting (wpAny_pure ?_)))
  dsimp only
  simp only [newObj]
  exact wpAny_bind (wpAny_alloc (wpAny_pure h))
theorem anySet_no {v : Value} {T : String} {Q : Bool → Shared → Prop} (hT : s.TypeIs v T) (h1 : isSubtype (.type T) (.type "set") = pure false) (h2 : isSubtype (.type T) (.type "frozenset") = pure false) (h : Q false s) : wpAny (model P w) A (Builtin.Frozenset.isAnySet v) Q E s := by
  unfold Builtin.Frozenset.isAnySet orM
  refine wpAny_bind (wpAny_isInstance hT h1 ?_)
  exact wpAny_isInstance hT h2 h
theorem anySet_yes {v : Value} {Q : Bool → Shared → Prop} (hT : s.TypeIs v "set") (h : Q true s) : wpAny (model P w) A (Builtin.Frozenset.isAnySet v) Q E s := by
  unfold Builtin.Frozenset.isAnySet orM
  refine wpAny_bind (wpAny_isInstance hT sub_set_self ?_)
  exact wpAny_pure h
/-- a dict's keys taken into a set -/
theorem upd_dict {kvs : List (Key × Value)} {id : String} {Q : Unit → Shared → Prop} (R : SetM w s.heap a l) (D : s.heap.DictOf (mixKind P w) d kvs) (lo : (d == sysModules) = false) (hn : l.length + kvs.length < scanBound)
    (hQ : ∀ h2, Heap.SameBut a s.heap h2 → SetM w h2 a (uniK l (kvs.map (·.1))) → Q () { s with heap := h2 }) : wpAny (model P w) A (Builtin.Frozenset.updateFrom id a (.ref d)) Q E s := by
  have hsb : scanBound = 4096 := rfl
  obtain ⟨o, es, ep, hd, hx, hdat, hk, hp, hnd⟩ := D
  have hT : s.TypeIs (.ref d) "dict" := ⟨o, hd, hx.1⟩
  have hlen : es.size = kvs.length := by rw [← hp.length, Array.length_toList]
  have had : d ≠ a := fun z => by
    obtain ⟨o2, es2, ep2, t2, ho2, hx2, _⟩ := R
    rw [z, ho2] at hd
    cases hd
    exact absurd (Value.type.inj (hx.1.symm.trans hx2.1)) (by decide)
  unfold Builtin.Frozenset.updateFrom
  refine wpAny_bind (anySet_no hT PySem.F.sub_dict_set PySem.F.sub_dict_frozenset ?_)
  refine wp_if_neg Bool.false_ne_true ?_
  refine wpAny_bind (wpAny_typeOf hT ?_)
  refine wp_if_pos (by decide) ?_
  refine wpAny_bind (wpAny_rule ?_)
  refine wpAny_bind (m := Builtin.Frozenset.addrOf (.ref d)) (wpAny_pure ?_)
  refine wp_if_neg (by rw [lo]; exact Bool.false_ne_true) ?_
  refine wpAny_bind (wpAny_dictEpoch hd hdat ?_)
  refine wpAny_bind (wpAny_dictEntries hd hdat ?_)
  refine wpAny_bind (room_at R (by omega) fun h0 sb0 _ R0 => ?_)
  have hd0 : h0.get? d = some o := (sb0.2 d had).trans hd
  refine wpAny_bind (wpAny_dictEntries hd0 hdat ?_)
  refine wpAny_bind ?_
  rw [Std.Legacy.Range.forIn_eq_forIn_range']
  simp only [Std.Legacy.Range.size, Nat.sub_zero, Nat.add_sub_cancel, Nat.div_one]
  refine wpAny_forIn_list _
    (fun rest _ s2 => ∃ h2 i, s2 = { s with heap := h2 } ∧ rest = List.range' i (es.size - i) ∧ i ≤ es.size ∧ SetM w h2 a (uniK l ((kvs.map (·.1)).take i)) ∧ (uniK l ((kvs.map (·.1)).take i)).length ≤ l.length + i ∧ h2.get? d = some o ∧ Heap.SameBut a s.heap h2)
    _ ?_ ?_ _ _ ⟨h0, 0, rfl, by simp, Nat.zero_le _, R0, Nat.le_refl _, hd0, sb0⟩
  · rintro x rest u s2 ⟨h2, i, rfl, hr, hi, R2, n2, hd2, sb2⟩
    have hlt : i < es.size := by
      rcases Nat.lt_or_ge i es.size with h | h
      · exact h
      · rw [Nat.sub_eq_zero_of_le h] at hr
        simp at hr
    obtain ⟨rfl, hrest⟩ : x = i ∧ rest = List.range' (i + 1) (es.size - (i + 1)) := by
      have e : es.size - i = (es.size - (i + 1)) + 1 := by omega
      rw [e, List.range'_succ] at hr
      injection hr with h1 h2
      exact ⟨h1, h2⟩
    refine wpAny_bind (wpAny_dictEntries hd2 hdat ?_)
    rw [Array.getElem?_eq_getElem hlt]
    have hlk : x < kvs.length := hlen ▸ hlt
    have hkv : kvs[x]? = some kvs[x] := List.getElem?_eq_getElem hlk
    obtain ⟨hkey, hval⟩ := hp.get? (e := es[x]) (by simp [hlt]) hkv
    obtain ⟨k2, hkey2, hhash⟩ := hk es[x] (Array.getElem_mem hlt)
    obtain rfl : k2 = kvs[x].1 := (mixKind P w).inj _ _ _ hkey2 hkey
    dsimp only
    rw [hhash]
    refine wpAny_bind (wpAny_holding ?_)
    have et : uniK l ((kvs.map (·.1)).take (x + 1)) = addK (uniK l ((kvs.map (·.1)).take x)) kvs[x].1 := by
      rw [List.take_add_one, List.getElem?_map, hkv]
      show uniK l ((kvs.map (·.1)).take x ++ [kvs[x].1]) = _
      unfold uniK
      rw [List.foldl_append]
      rfl
    refine setM_add (s := { s with heap := h2 }) hkey2 R2 (by omega) fun h3 _ sb3 R3 => ?_
    have hd3 : h3.get? d = some o := (sb3.2 d had).trans hd2
    refine wpAny_bind (wpAny_dictEpoch (s := { s with heap := h3 }) hd3 hdat ?_)
    rw [if_neg (by simp)]
    have n3 := addK_len (uniK l ((kvs.map (·.1)).take x)) kvs[x].1
    exact wpAny_pure ⟨h3, x + 1, rfl, hrest, hlt, by rw [et]; exact R3, by rw [et]; omega, hd3, sb2.trans sb3⟩
  · rintro u s2 ⟨h2, i, rfl, hr, hi, R2, n2, hd2, sb2⟩
    have hin : i = es.size := by
      rcases Nat.lt_or_ge i es.size with h | h
      · have e : es.size - i = (es.size - (i + 1)) + 1 := by omega
        rw [e, List.range'_succ] at hr
        cases hr
      · omega
    refine wpAny_pure (hQ h2 sb2 ?_)
    have e : (kvs.map (·.1)).take i = kvs.map (·.1) := List.take_of_length_le (by rw [List.length_map, hin, hlen]; exact Nat.le_refl _)
    rw [e] at R2
    exact R2
set_option maxRecDepth 100000 in
set_option maxHeartbeats 3200000 in
/-- set(x), by what x gives -/
theorem call_setX {x : Value} {K : Shared → Prop} {Q : Value → Shared → Prop} (upd : ∀ (A2 : Around), A2.handled = A.handled → wpAny (model P w) A2 (Builtin.Frozenset.updateFrom "set.__init__" s.heap.objs.size x) (fun _ s2 => K s2) E { s with heap := s.heap.push (set0 w) })
    (h : ∀ s2, K s2 → Q (.ref s.heap.objs.size) s2) : wpAny (model P w) A (call (.type "set") [x]) Q E s := by
  obtain ⟨c, tl, hmro⟩ := PySem.F.called_set.mro
  have hmade := PySem.F.called_set.made
  have hsub := PySem.F.called_set.sub
  refine wpAny_call (codeAny_of_tree ?_)
  show wpAny _ _ (callAny (.type "set") _) _ _ _
  refine wpAny_pure ⟨Code.quiet_builtin _ (by decide +kernel), codeAny_builtin PySem.F.entry_type_call ?_⟩
  rw [Around.under_plain (weight_type_call_type "set" [x] []) rfl]
  have h1 := PySem.F.called_set.notType
  have h2 := PySem.F.called_set.canCreate
  have hct := PySem.F.typeCall_set_1 x
  repeat (any_goals (first | assumption | wp_step))
  refine codeAny_mono (code_set_led1 x (E := E) (Q₁ := fun obj z => obj = .ref s.heap.objs.size ∧ z = { s with heap := s.heap.push (set0 w) }) ⟨rfl, rfl⟩) fun r z hr => ?_
  cases r with
  | error e => exact hr
  | ok fl =>
    cases fl with
    | ret obj =>
      obtain ⟨rfl, rfl⟩ := hr
      have hS : (s.heap.push (set0 w)).get? s.heap.objs.size = some (set0 w) := Heap.get?_push_size _ rfl
      have hT : Shared.TypeIs { s with heap := s.heap.push (set0 w) } (.ref s.heap.objs.size) "set" := ⟨_, hS, rfl⟩
      have hli := PySem.F.called_set.init.lookup
      have hbi := PySem.F.called_set.init.bind (.ref s.heap.objs.size)
      repeat (any_goals (first | assumption | wp_step))
      refine codeAny_mono (codeAny_call_builtin (R := wants (fun r z2 => r = .none ∧ K z2) E) PySem.F.called_set.init.plain PySem.F.entry_set_init (check_set_init_1 hT ?_)) fun r2 z2 hr2 => ?_
      · unfold Builtin.«set.__init__» noKeywords
        generalize hU : Builtin.Frozenset.updateFrom = U
        wp_walk
        subst hU
        refine wpAny_mono (upd A.in1.in1 (by first | rfl | simp)) (fun _ s2 k => ?_) fun e s2 z => z
        exact wpAny_pure ⟨rfl, k⟩
      · cases r2 with
        | error e => exact hr2
        | ok fl2 =>
          cases fl2 with
          | ret r =>
            obtain ⟨rfl, k⟩ := hr2
            repeat (any_goals (first | assumption | wp_step))
            exact h _ k
          | _ => exact hr2.elim
    | _ => exact hr.elim
/-! ### copies, a | b, a & b -/
theorem baseOf_at {Q : Value → Shared → Prop} (hT : s.TypeIs (.ref a) "set") (h : Q (.type "set") s) : wpAny (model P w) A (Builtin.Frozenset.baseOf a) Q E s := by
  unfold Builtin.Frozenset.baseOf
  refine wpAny_bind (wpAny_isInstance hT sub_set_self ?_)
  exact wpAny_pure h
theorem nil_perm {x : List Key} (h : l.Nodup) (e : uniK [] l = x) : x = l := by
  rw [← e, uniK_app (l := []) (by rw [List.nil_append]; exact h)]
  rfl
theorem SetM.nodup {h : Heap} (R : SetM w h a l) : l.Nodup := by
  obtain ⟨o, es, ep, t, ho, x1, x2, x3, x4, x5, _⟩ := R
  exact x5
theorem copy_at {Q : Value → Shared → Prop} (R : SetM w s.heap a l) (h : ∀ h2, (∀ b u, s.heap.get? b = some u → h2.get? b = some u) → SetM w h2 s.heap.objs.size l → Q (.ref s.heap.objs.size) { s with heap := h2 }) :
    wpAny (model P w) A (Builtin.Frozenset.copyOf a) Q E s := by
  unfold Builtin.Frozenset.copyOf
  refine wpAny_bind (baseOf_at R.typeIs ?_)
  refine wpAny_bind (newSet_at ?_)
  refine wpAny_bind (m := Builtin.Frozenset.addrOf _) (wpAny_pure ?_)
  have hlt : a < s.heap.objs.size := R.lt
  have hne : s.heap.objs.size ≠ a := Nat.ne_of_gt hlt
  have hl := R.len
  refine wpAny_bind (merge_at (s := { s with heap := s.heap.push (set0 w) }) (l := []) (m := l) (setM_new (Heap.get?_push_size _ rfl)) (R.keep fun o e => Heap.get?_push_of_some _ e) hne (by rw [List.length_nil, Nat.zero_add]; exact hl) (fun h1 Q1 _ q => wpAny_pure q) fun h2 sb R2 => ?_)
  refine wpAny_pure (h h2 (fun b u e => ?_) ?_)
  · exact (sb.2 b (Nat.ne_of_lt (Heap.lt_size e))).trans (Heap.get?_push_of_some _ e)
  · rw [nil_perm R.nodup rfl] at R2
    exact R2
theorem upd_set {id : String} {Q : Unit → Shared → Prop} (R : SetM w s.heap a l) (Rb : SetM w s.heap b m) (hab : a ≠ b) (hn : l.length + m.length < scanBound)
    (hQ : ∀ h2, Heap.SameBut a s.heap h2 → SetM w h2 a (uniK l m) → Q () { s with heap := h2 }) : wpAny (model P w) A (Builtin.Frozenset.updateFrom id a (.ref b)) Q E s := by
  unfold Builtin.Frozenset.updateFrom
  refine wpAny_bind (anySet_yes Rb.typeIs ?_)
  refine wp_if_pos rfl ?_
  refine wpAny_bind (m := Builtin.Frozenset.addrOf _) (wpAny_pure ?_)
  unfold Builtin.Frozenset.merge
  have Rb2 := Rb
  obtain ⟨ob, eb, epb, tb, hob, xb, db, gb, pb, nb, bb, fb, rest⟩ := Rb2
  refine wpAny_bind (wpAny_setEpoch_of hob db fb ?_)
  refine merge_at R Rb hab hn (fun h1 Q1 e q => ?_) hQ
  unfold Builtin.Frozenset.unchanged
  refine wpAny_bind (wpAny_setEpoch_of (s := { s with heap := h1 }) (e.trans hob) db fb ?_)
  rw [if_neg (by simp)]
  exact wpAny_pure q
end
end Vf

/-! Own layer: sets: a | b, a & b, sorted(a). -/
namespace Vf
open PySem PySem.Spec PyProof.Rows L2
theorem slot_set_or : Slot "set" (dunder "or") "set.__or__" :=
  .of (owner := "set") (n := "__or__") (by rw [typeLookup_type, builtinLookup_eq_fast]; kernel_rfl) (by decide +kernel) (by decide +kernel) (by decide +kernel)
    (by first | exact .inl (by decide +kernel) | exact .inr (by decide +kernel)) (by rw [isSubtype_type]; kernel_rfl)
theorem slot_set_and : Slot "set" (dunder "and") "set.__and__" :=
  .of (owner := "set") (n := "__and__") (by rw [typeLookup_type, builtinLookup_eq_fast]; kernel_rfl) (by decide +kernel) (by decide +kernel) (by decide +kernel)
    (by first | exact .inl (by decide +kernel) | exact .inr (by decide +kernel)) (by rw [isSubtype_type]; kernel_rfl)
theorem fills_set_or : fillsNumberSlot (.type "set") "or" = pure true :=
  fillsNumberSlot_of (id := "set.__or__") (r := some (.builtin "set.__ror__")) (by rw [typeLookup_type, builtinLookup_eq_fast]; kernel_rfl) (by decide +kernel) (by rw [typeLookup_type, builtinLookup_eq_fast]; kernel_rfl)
theorem fills_set_and : fillsNumberSlot (.type "set") "and" = pure true :=
  fillsNumberSlot_of (id := "set.__and__") (r := some (.builtin "set.__rand__")) (by rw [typeLookup_type, builtinLookup_eq_fast]; kernel_rfl) (by decide +kernel) (by rw [typeLookup_type, builtinLookup_eq_fast]; kernel_rfl)
theorem entry_set_or : entryFor table "set.__or__" = some Builtin.«frozenset.__or__» :=
  entryFor_alias (id' := "frozenset.__or__") (by kernel_rfl) rfl (by decide +kernel) (by kernel_rfl)
theorem entry_set_and : entryFor table "set.__and__" = some Builtin.«frozenset.__and__» :=
  entryFor_alias (id' := "frozenset.__and__") (by kernel_rfl) rfl (by decide +kernel) (by kernel_rfl)
theorem args_set_or (a b : Value) : argsOk "set.__or__" ⟨[a, b], []⟩ := by unfold argsOk; kernel_rfl
theorem args_set_and (a b : Value) : argsOk "set.__and__" ⟨[a, b], []⟩ := by unfold argsOk; kernel_rfl
section
variable {P : Program} {w : World} {A : Around} {E : Value → Shared → Prop} {s : Shared} {a b d : Addr} {l m : List Key}
/-- a | b of two sets that are not the same -/
theorem or_sets {Q : Value → Shared → Prop} (R : SetM w s.heap a l) (Rb : SetM w s.heap b m) (hab : a ≠ b) (hn : l.length + m.length < scanBound)
    (h : ∀ h2, (∀ b u, s.heap.get? b = some u → h2.get? b = some u) → SetM w h2 s.heap.objs.size (uniK l m) → Q (.ref s.heap.objs.size) { s with heap := h2 }) : wpAny (model P w) A (binaryOp .BitOr (.ref a) (.ref b)) Q E s := by
  refine wpAny_binaryOp_same (op := .BitOr) (T := "set") R.typeIs Rb.typeIs fills_set_or slot_set_or (wpAny_call_entry slot_set_or R.typeIs entry_set_or ?_ (args_set_or _ _))
  unfold Builtin.«frozenset.__or__»
  refine wpAny_bind (m := Builtin.Frozenset.slot1 "__or__" _) (wpAny_of_eq (a := (.ref a, .ref b)) (by rfl) ?_)
  dsimp only
  refine wpAny_bind (wpAny_bind (anySet_yes R.typeIs ?_))
  refine anySet_yes Rb.typeIs ?_
  refine wp_if_neg (by decide) ?_
  refine wpAny_bind (m := Builtin.Frozenset.addrOf _) (wpAny_pure ?_)
  refine wpAny_bind ?_
  refine wpAny_bind (copy_at R fun h1 k1 R1 => ?_)
  have hb1 : b ≠ s.heap.objs.size := Nat.ne_of_lt Rb.lt
  refine wp_if_pos (by simp [hab, Ne.symm hab]) ?_
  refine wpAny_bind (m := Builtin.Frozenset.addrOf _) (wpAny_pure ?_)
  refine wpAny_bind (wpAny_holding ?_)
  refine upd_set (s := { s with heap := h1 }) R1 (Rb.keep fun o e => k1 b o e) (Ne.symm hb1) hn fun h2 sb2 R2 => ?_
  refine wpAny_pure (wpAny_pure ⟨_, rfl, Value.noConfusion, h h2 (fun c u e => ?_) R2⟩)
  exact (sb2.2 c (Nat.ne_of_lt (Heap.lt_size e))).trans (k1 c u e)
end
end Vf

/-! Own layer: sets among the tracked objects: set(d), a | b, sorted(a). -/
namespace Vf
open PySem PySem.Spec PyProof.Rows L2 TL Evl
theorem strs_out : ∀ {out : List Value}, (∀ v ∈ out, ∃ x t, v = Value.str x t) → ∃ ks, StrsAre out ks ∧ out.map (fun v => kf (0, v)) = ks.map Sum.inr
  | [], _ => ⟨[], .nil, rfl⟩
  | v :: out, h => by
    obtain ⟨x, t, e⟩ := h v List.mem_cons_self
    obtain ⟨ks, a, b⟩ := strs_out fun u hu => h u (List.mem_cons_of_mem _ hu)
    subst e
    exact ⟨x :: ks, .cons _ _ a, by rw [List.map_cons, b]; rfl⟩
theorem kf_snd (e : Int × Value) : kf (0, e.2) = kf e := rfl
theorem perm_inr {ks ms : List Str} (h : (ks.map Sum.inr : List Key).Perm (ms.map Sum.inr)) : ks.Perm ms := by
  have q := h.map (fun k : Key => match k with | .inr x => x | .inl _ => (⟨#[]⟩ : Str))
  rw [List.map_map, List.map_map] at q
  have e : ∀ l : List Str, l.map ((fun k : Key => match k with | .inr x => x | .inl _ => (⟨#[]⟩ : Str)) ∘ Sum.inr) = l := fun l => by
    conv => rhs; rw [← List.map_id l]
    exact List.map_congr_left fun _ _ => rfl
  rw [e, e] at q
  exact q
section
variable {P : Program} {w : World} {A : Around} {E : Value → Shared → Prop} {s : Shared} {a : Addr}
theorem sorted_setM {ks : List Str} {Q : Value → Shared → Prop} (R : SetM w s.heap a (ks.map Sum.inr)) (hh : A.handled = none)
    (hQ : ∀ s2 p (out : Array Value) (c : Nat) (ys : List Str), (∀ b o, s.heap.get? b = some o → s2.heap.get? b = some o) → s2.gens = s.gens → s2.os = s.os → s.heap.objs.size ≤ p →
      s2.heap.get? p = some (seqObj "list" out c) → StrsAre out.toList ys → ys.Perm ks → sortedS ys = true → Q (.ref p) s2) :
    wpAny (model P w) A (call (.builtin "sorted") [.ref a]) Q E s := by
  obtain ⟨o, es, ep, t, ho, hex, hd, g, pm0, nd, hb, hf, hr, hl, _⟩ := R
  refine Calls.call_function_entry PyProof.Rows.kind_sorted PyProof.Rows.plain_sorted PyProof.Rows.entry_sorted (PyProof.Rows.args_sorted1 _) ?_
  unfold Builtin.«sorted»
  refine wpAny_bind (m := checkCount "sorted" 1 1 _) (wpAny_pure ?_)
  refine wpAny_bind (collect_set (A := A.in1) hh ⟨o, ho, hex.1, hd⟩ hf hb hr hl fun s1 out k1 hz g1 o1 pm => ?_)
  have hmem : ∀ v ∈ out, ∃ x t, v = Value.str x t := fun v hv => by
    obtain ⟨e, he, ev⟩ := List.mem_map.mp (pm.mem_iff.mp hv)
    have hk : kf e ∈ ks.map Sum.inr := pm0.mem_iff.mp (List.mem_map_of_mem he)
    obtain ⟨x, hx, ex⟩ := List.mem_map.mp hk
    have q := (g e he).1
    rw [← ex] at q
    obtain ⟨t, et⟩ := Value.isStrOf_shape (x := x) (v := e.2) q
    exact ⟨x, t, ev.symm.trans et⟩
  obtain ⟨ms, hS, em⟩ := strs_out hmem
  have pk : ms.Perm ks := by
    refine perm_inr ?_
    rw [← em]
    refine (pm.map _).trans ?_
    rw [List.map_map]
    exact pm0
  have hal : out.length ≤ sizeLine := by
    rw [pm.length_eq, List.length_map, Array.length_toList]
    exact fits_of_scanBound hb
  refine wpAny_bind (wpAny_newList ?_ hal)
  have hoL : (s1.heap.push (seqObj "list" out.toArray 0)).get? s1.heap.objs.size = some (seqObj "list" out.toArray 0) := Heap.get?_push_size _ rfl
  refine wpAny_bind (wpAny_holding (wpAny_call_entry PyProof.Rows.slot_list_sort ⟨_, hoL, rfl⟩ PyProof.Rows.entry_list_sort
    (list_sort_treeKAny strKind_oneLt (s := { s1 with heap := s1.heap.push (seqObj "list" out.toArray 0) }) hoL hS.keysOf (fun v1 v2 rest e => keyKind_strs (by rw [← e]; exact hS)) hal fun st2 hp hs => ⟨_, rfl, ?_⟩)
    (PyProof.Rows.args_list_sort _)))
  obtain ⟨ys, q1, q2, q3⟩ := sorted_out_str hS hp hs
  obtain ⟨e2, he2⟩ := PyProof.Rows.sortedHeap_at (vs := out) (out := (arrOf st2).map (·.2)) hoL
  refine wpAny_pure ⟨_, rfl, hQ _ s1.heap.objs.size _ e2 ys (fun b u e => ?_) g1 o1 hz he2 q1 (q2.trans pk) q3⟩
  have q := k1 b u e
  have hlt := Heap.lt_size q
  show (sortedHeap (s1.heap.push (seqObj "list" out.toArray 0)) s1.heap.objs.size out _).get? b = some u
  rw [PyProof.Rows.sortedHeap_old (Nat.ne_of_lt hlt) (by rw [size_push']; exact Nat.lt_succ_of_lt hlt)]
  exact Heap.get?_push_of_some _ q
end
/-- the set of keys at a, among the tracked objects -/
def KS (w : World) (a : Addr) (l : List Key) : HO := .ext fun h => SetM w h a l
section
variable {X : Cx}
theorem ks_new {w : World} {P : Program} {H : Hp} {h : Heap} {a : Addr} {l : List Key} (R : SetM w h a l) : ObjOk P w H h a (KS w a l) := by
  have ⟨o, _, _, _, ho, _⟩ := R
  exact ⟨R, ⟨o, ho⟩, fun h1 h2 p k => p.keep k⟩
theorem ks_get {pins : List (Addr × Obj)} {σ : L2.St} {H : Hp} {s : Shared} {a : Addr} {l : List Key} (I : Inv X pins σ H s) (ha : H a = some (KS X.w a l)) : SetM X.w s.heap a l := (I.hok a _ ha).1
/-- set(d) of a dict -/
def rSetD (w : World) : List V → Hp → VK → Prop := fun xs H Q => ∃ (d : Addr) (kvs : List (Key × V)), xs = [.ref d] ∧ Rd H d (.dK kvs) ∧ kvs.length < scanBound ∧ ∀ p, H p = none → Q (.ref p) (upd H p (KS w p (kvs.map (·.1))))
theorem call_setD : CallR X (.type "set") (rSetD X.w) := by
  intro pins s σ H xs us Q I r ⟨d, kvs, ex, hd, hn, q⟩
  subst ex
  obtain ⟨u, eu, rx⟩ := vals1 r
  subst eu
  cases rx
  obtain ⟨z, lo, wv, rel, dd⟩ := dk_rd I.hok hd
  have hkeys : wv.map (·.1) = kvs.map (·.1) := rel.keys.symm
  have hl : wv.length = kvs.length := by
    have e := congrArg List.length hkeys
    rw [List.length_map, List.length_map] at e
    exact e
  have hnd : (kvs.map (·.1)).Nodup := by
    obtain ⟨_, _, _, _, _, _, _, _, nd⟩ := dd
    rw [← hkeys]
    exact nd
  have dd2 : Heap.DictOf (mixKind X.prog X.w) (s.heap.push (set0 X.w)) d wv := by
    obtain ⟨o, es, ep, ho, r⟩ := dd
    exact ⟨o, es, ep, Heap.get?_push_of_some _ ho, r⟩
  refine call_setX (K := fun s2 => ∃ h2, s2 = { s with heap := h2 } ∧ (∀ b u, s.heap.get? b = some u → h2.get? b = some u) ∧ SetM X.w h2 s.heap.objs.size (kvs.map (·.1))) (fun A2 _ => ?_) ?_
  · refine upd_dict (s := { s with heap := s.heap.push (set0 X.w) }) (l := []) (setM_new (Heap.get?_push_size _ rfl)) dd2 lo (by rw [hl, List.length_nil, Nat.zero_add]; exact hn) fun h2 sb R2 => ⟨h2, rfl, fun b u e => (sb.2 b (Nat.ne_of_lt (Heap.lt_size e))).trans (Heap.get?_push_of_some _ e), ?_⟩
    rw [uniK_app (l := []) (by rw [hkeys, List.nil_append]; exact hnd), hkeys] at R2
    exact R2
  · rintro s2 ⟨h2, rfl, k2, R2⟩
    exact ⟨.ref s.heap.objs.size, upd H s.heap.objs.size (KS X.w s.heap.objs.size (kvs.map (·.1))), I.laid (t' := s.toks) k2 (Nat.le_refl _) (ks_new R2), rfl, q _ (I.hok.fresh (Nat.le_refl _))⟩
/-- a | b -/
def rOrM (w : World) : V → V → Hp → VK → Prop := fun x y H Q => ∃ (a b : Addr) (l m : List Key), x = .ref a ∧ y = .ref b ∧ H a = some (KS w a l) ∧ H b = some (KS w b m) ∧ a ≠ b ∧ l.length + m.length < scanBound ∧ ∀ p, H p = none → Q (.ref p) (upd H p (KS w p (uniK l m)))
theorem op_orM : OpR X (binaryOp .BitOr) (rOrM X.w) := by
  intro pins s σ H x y v u Q I rx ry h
  obtain ⟨a, b, l, m, rfl, rfl, ha, hb, hab, hn, q⟩ := h
  cases rx
  cases ry
  refine or_sets (ks_get I ha) (ks_get I hb) hab hn fun h2 k2 R2 => ?_
  exact ⟨.ref s.heap.objs.size, upd H s.heap.objs.size (KS X.w s.heap.objs.size (uniK l m)), I.laid (t' := s.toks) k2 (Nat.le_refl _) (ks_new R2), rfl, q _ (I.hok.fresh (Nat.le_refl _))⟩
/-- sorted(a) -/
def rSrtM (w : World) : List V → Hp → VK → Prop := fun xs H Q => ∃ (a : Addr) (ks : List Str), xs = [.ref a] ∧ H a = some (KS w a (ks.map Sum.inr)) ∧ ∀ ys p, ys.Perm ks → sortedS ys = true → H p = none → Q (.ref p) (upd H p (.lst (ys.map V.str)))
theorem call_srtM (hcalm : X.calm = true) : CallR X (.builtin "sorted") (rSrtM X.w) := by
  intro pins s σ H xs us Q I r ⟨a, ks, ex, ha, q⟩
  subst ex
  have R := ks_get I ha
  have hsz : ks.length < scanBound := by
    have e := R.len
    rw [List.length_map] at e
    exact e
  rw [Vals.ref1 r]
  refine sorted_setM R (I.ok.hd hcalm) fun s2 p out c ys k g o hp hg hi hpm hs => ?_
  have hlen : (ys.map V.str).length ≤ sizeLine := by
    rw [List.length_map, hpm.length_eq]
    exact fits_of_scanBound hsz
  have hn : H p = none := I.hok.fresh hp
  have J : Inv X pins σ (upd H p (.lst (ys.map V.str))) { s with heap := s2.heap, gens := s2.gens, drawn := s2.drawn, toks := s2.toks } :=
    I.call (ch := []) (Un.laid k hp hn) (I.hok.laid k hp ⟨hlen, out.toList, c, vals_of_strs hi, by rw [Array.toArray_toList]; exact hg⟩) (by rw [g]; exact I.bare) (fun _ z => nomatch z)
  have e : s2 = { s with heap := s2.heap, gens := s2.gens, drawn := s2.drawn, toks := s2.toks } := by
    cases s2
    cases s
    cases o
    rfl
  rw [e]
  exact ⟨.ref p, _, J, rfl, q ys p hpm hs hn⟩
end
end Vf

/-! Own layer: set(l) of a list of keys. -/
namespace Vf
open PySem PySem.Spec PyProof.Rows L2 TL Evl
theorem uniK_len : ∀ (m l : List Key), (uniK l m).length ≤ l.length + m.length
  | [], l => Nat.le_refl _
  | x :: m, l => by
    have h1 := uniK_len m (addK l x)
    have h2 := addK_len l x
    show (uniK (addK l x) m).length ≤ l.length + (m.length + 1)
    omega
theorem uniK_snoc {l m : List Key} {k : Key} : uniK l (m ++ [k]) = addK (uniK l m) k := by
  unfold uniK
  rw [List.foldl_append]
  rfl
section
variable {P : Program} {w : World} {A : Around} {E : Value → Shared → Prop} {s : Shared}
/-- the loop of set.update over keys -/
theorem loop_keys {J : Addr} {fp wr : List Addr} {G : Array GenState → Array GenState → Prop} {n : Nat} {Pv : Nat → Value → Prop} {St : Nat → Shared → Prop} {R : Result → Shared → Prop}
    (W : WalksS P w A.in1 J fp wr G n Pv St) (c : Addr) (hc : c ∉ fp) (ks l0 : List Key) (hn : n = ks.length) (hb : l0.length + ks.length < scanBound) (hv : ∀ i v, Pv i v → ∃ k, ks[i]? = some k ∧ keyIs k v = true) :
    ∀ (j i : Nat) (z : Shared), n - i = j → i ≤ n → St i z → SetM w z.heap c (uniK l0 (ks.take i)) → (∀ z2, Moved (c :: wr) G z z2 → SetM w z2.heap c (uniK l0 ks) → R (.ok (.ret .none)) z2) →
      codeAny (model P w) A (.builtin "set.update.loop" ⟨[.ref c, .ref J], []⟩) R z := by
  have hcw : c ∉ wr := fun h => hc (W.sub _ h)
  have hsub : ∀ b ∈ wr, b ∈ c :: wr := fun b hb => List.mem_cons_of_mem _ hb
  intro j
  induction j with
  | zero =>
    intro i z hj hi hst hS hR
    have hin : i = n := by omega
    subst hin
    refine codeAny_builtin F.entry_set_update_loop ?_
    rw [Around.under_plainId F.plain_set_update_loop _]
    show wpAny _ A.in1 (pyNext (.ref J) >>= _) _ _ z
    refine wpAny_bind (W.done z _ _ hst fun z2 hm => ?_)
    show wpAny _ A.in1 (ret Value.none) _ _ z2
    have e : ks.take i = ks := List.take_of_length_le (by omega)
    rw [e] at hS
    exact wpAny_pure (hR z2 (hm.mono hsub) (hS.keep fun o e => hm.heap c o hcw e))
  | succ j ih =>
    intro i z hj hi hst hS hR
    have hlt : i < n := by omega
    refine codeAny_builtin F.entry_set_update_loop ?_
    rw [Around.under_plainId F.plain_set_update_loop _]
    show wpAny _ A.in1 (pyNext (.ref J) >>= _) _ _ z
    refine wpAny_bind (W.item i z _ _ hlt hst fun v z2 hP hst2 hm => ?_)
    obtain ⟨k, hk, hkv⟩ := hv i v hP
    have hS2 : SetM w z2.heap c (uniK l0 (ks.take i)) := hS.keep fun o e => hm.heap c o hcw e
    have et : uniK l0 (ks.take (i + 1)) = addK (uniK l0 (ks.take i)) k := by
      rw [List.take_add_one, hk]
      exact uniK_snoc
    have hl := uniK_len (ks.take i) l0
    rw [List.length_take] at hl
    show wpAny _ A.in1 (holding [v] (setAdd c v) >>= _) _ _ z2
    refine wpAny_bind (wpAny_holding ?_)
    unfold setAdd
    refine wpAny_holding ?_
    refine wpAny_bind ((mixKind P w).pyHash (k := k) hkv ?_)
    refine setM_add (s := { z2 with toks := z2.toks + 1 }) hkv hS2 (by omega) fun h2 _ hsb hS3 => ?_
    rw [← et] at hS3
    refine wpAny_pure ⟨plainId_quiet F.plain_set_update_loop _, ih (i + 1) _ (by omega) hlt (W.frame _ z2 _ _ hst2 (Nat.le_succ _) fun b hb o e => ?_) hS3 fun z3 hm3 hS4 => ?_⟩
    · rw [hsb.2 b (fun h : b = c => hc (h ▸ hb))]
      exact e
    · refine hR z3 (Moved.trans W.gtrans ((hm.mono hsub).then_heap (Nat.le_succ _) fun b o hb e => ?_) hm3) hS4
      rw [hsb.2 b (fun h : b = c => hb (by rw [h]; exact List.mem_cons_self))]
      exact e
/-- a list's keys taken into a set -/
theorem upd_list {c p : Addr} {items : Array Value} {ks l0 : List Key} {id : String} {Q : Unit → Shared → Prop} (hh : A.handled = none) (R : SetM w s.heap c l0) (hl : s.heap.IsList p items) (hn : items.size = ks.length) (hb : l0.length + ks.length < scanBound)
    (hv : ∀ (i : Nat) (v : Value), items[i]? = some v → ∃ k, ks[i]? = some k ∧ keyIs k v = true) (hQ : ∀ h2 tk, (∀ b u, b ≠ c → s.heap.get? b = some u → h2.get? b = some u) → SetM w h2 c (uniK l0 ks) → Q () { s with heap := h2, toks := tk }) :
    wpAny (model P w) A (Builtin.Frozenset.updateFrom id c (.ref p)) Q E s := by
  have hl0 := hl
  obtain ⟨ol, hol, hcl, nl, hdl⟩ := hl0
  have hT : s.TypeIs (.ref p) "list" := ⟨ol, hol, hcl⟩
  have hpc : p ≠ c := fun z => by
    obtain ⟨o2, es2, ep2, t2, ho2, hx2, _⟩ := R
    rw [z, ho2] at hol
    cases hol
    exact absurd (Value.type.inj (hcl.symm.trans hx2.1)) (by decide)
  have hpl : p < s.heap.objs.size := Heap.lt_size hol
  have hcs : c < s.heap.objs.size := R.lt
  unfold Builtin.Frozenset.updateFrom
  refine wpAny_bind (anySet_no hT PySem.F.sub_list_set PySem.F.sub_list_frozenset ?_)
  refine wp_if_neg Bool.false_ne_true ?_
  refine wpAny_bind (wpAny_typeOf hT ?_)
  refine wp_if_neg (by decide) ?_
  refine wpAny_bind (wpAny_pyIter_list hl ?_)
  refine wpAny_bind (wpAny_runValue ?_)
  have hne : p ≠ s.heap.objs.size := Nat.ne_of_lt hpl
  have hcf : c ∉ [s.heap.objs.size, p] := by
    simp only [List.mem_cons, List.mem_singleton, List.not_mem_nil, or_false, not_or]
    exact ⟨Nat.ne_of_lt hcs, Ne.symm hpc⟩
  refine loop_keys ((Walks.list (A := A.in1) (by simp [hh]) _ p hne items).toS) c hcf ks l0 hn hb hv (items.size - 0) 0 _ (by omega) (Nat.zero_le _) ⟨⟨_, Heap.get?_push_size _ rfl, rfl, rfl⟩, (hl.push _)⟩ (R.keep fun o e => Heap.get?_push_of_some _ e) fun z hm hS => ?_
  obtain ⟨h2, g2, d2, tk2, os2⟩ := z
  have eg : g2 = s.gens := hm.gens
  have ed : d2 = s.drawn := hm.drawn
  have eo : os2 = s.os := hm.os
  subst eg
  subst ed
  subst eo
  refine wpAny_pure ?_
  refine hQ h2 tk2 (fun b u hb2 e => ?_) hS
  refine hm.heap b u ?_ (Heap.get?_push_of_some _ e)
  have hbs : b ≠ s.heap.objs.size := Nat.ne_of_lt (Heap.lt_size e)
  simp only [List.mem_cons, List.mem_singleton, List.not_mem_nil, or_false, not_or]
  exact ⟨hb2, hbs⟩
end
section
variable {X : Cx}
/-- set(l) of a list of texts -/
def rSetLs (w : World) (K : PySem.W.Frag) : List V → Hp → VK → Prop := fun xs H Q => ∃ (p : Addr) (ks : List Str), xs = [.ref p] ∧ SqL K H p (ks.map V.str) ∧ ks.length < scanBound ∧ ∀ q, H q = none → Q (.ref q) (upd H q (KS w q (uniK [] (ks.map Sum.inr))))
theorem call_setL (hcalm : X.calm = true) : CallR X (.type "set") (rSetLs X.w X.K) := by
  intro pins s σ H xs us Q I r ⟨p, ks, ex, hs, hn, q⟩
  subst ex
  rw [Vals.ref1 r]
  obtain ⟨its, rv, ⟨⟨cls, dd, data, sl⟩, n, ho, hc, hdn, hd⟩, hlen⟩ := I.list hs
  simp only at hc hd
  subst hc hd
  have hS : StrsAre its ks := strs_of_vals rv
  have hL : (s.heap.push (set0 X.w)).IsList p its.toArray := ⟨_, Heap.get?_push_of_some _ ho, rfl, n, rfl⟩
  have hil : its.length = ks.length := hS.length
  refine call_setX (K := fun s2 => ∃ h2 tk, s2 = { s with heap := h2, toks := tk } ∧ (∀ b u, s.heap.get? b = some u → h2.get? b = some u) ∧ SetM X.w h2 s.heap.objs.size (uniK [] (ks.map Sum.inr))) (fun A2 hA => ?_) ?_
  · refine upd_list (s := { s with heap := s.heap.push (set0 X.w) }) (l0 := []) (ks := ks.map Sum.inr) (hA.trans (I.ok.hd hcalm)) (setM_new (Heap.get?_push_size _ rfl)) hL (by rw [List.size_toArray, List.length_map]; exact hil) (by rw [List.length_map, List.length_nil, Nat.zero_add]; exact hn) (fun i v e => ?_) fun h2 tk k2 R2 => ⟨h2, tk, rfl, fun b u e => k2 b u (Nat.ne_of_lt (Heap.lt_size e)) (Heap.get?_push_of_some _ e), R2⟩
    rw [List.getElem?_toArray] at e
    have hi : i < ks.length := hil ▸ (List.getElem?_eq_some_iff.mp e).1
    have e1 : ks[i]? = some ks[i] := List.getElem?_eq_getElem hi
    obtain ⟨t, e2⟩ := StrsAre.at hS e1
    rw [e] at e2
    have e3 : v = Value.str ks[i] t := Option.some.inj e2
    exact ⟨Sum.inr ks[i], by rw [List.getElem?_map, e1]; rfl, by rw [e3]; exact mixKind_str X.prog X.w ks[i] t⟩
  · rintro s2 ⟨h2, tk, rfl, k2, R2⟩
    exact ⟨.ref s.heap.objs.size, upd H s.heap.objs.size (KS X.w s.heap.objs.size (uniK [] (ks.map Sum.inr))), I.laid (t' := tk) k2 (Nat.le_refl _) (ks_new R2), rfl, q _ (I.hok.fresh (Nat.le_refl _))⟩
end
end Vf

/-! Own layer: sets of texts as readings. -/
namespace Vf
open PySem PySem.Spec PyProof.Rows L2 TL Evl
def addT (l : List Tx) (k : Tx) : List Tx := if k ∈ l then l else l ++ [k]
/-- what two rows of texts have, without the second of like ones -/
def uniT (l m : List Tx) : List Tx := m.foldl addT l
theorem mem_ky {l : List Tx} {k : Tx} : ky k ∈ l.map ky ↔ k ∈ l := by
  rw [List.mem_map]
  exact ⟨fun ⟨q, h, e⟩ => ky_inj e ▸ h, fun h => ⟨k, h, rfl⟩⟩
theorem addK_ky (l : List Tx) (k : Tx) : addK (l.map ky) (ky k) = (addT l k).map ky := by
  unfold addK addT
  by_cases h : k ∈ l
  · rw [if_pos (mem_ky.mpr h), if_pos h]
  · rw [if_neg fun z => h (mem_ky.mp z), if_neg h, List.map_append]
    rfl
theorem uniK_ky : ∀ (m l : List Tx), uniK (l.map ky) (m.map ky) = (uniT l m).map ky
  | [], l => rfl
  | x :: m, l => by
    show uniK (addK (l.map ky) (ky x)) (m.map ky) = _
    rw [addK_ky, uniK_ky m (addT l x)]
    rfl
theorem mem_addT {l : List Tx} {k j : Tx} : j ∈ addT l k ↔ j ∈ l ∨ j = k := by
  unfold addT
  split
  · next c => exact ⟨Or.inl, fun h => h.elim id fun e => e ▸ c⟩
  · rw [List.mem_append, List.mem_singleton]
theorem mem_uniT {m : List Tx} : ∀ {l : List Tx} {j : Tx}, j ∈ uniT l m ↔ j ∈ l ∨ j ∈ m := by
  induction m with
  | nil => intro l j; simp [uniT]
  | cons x m ih =>
    intro l j
    show j ∈ uniT (addT l x) m ↔ _
    rw [ih, mem_addT, List.mem_cons, or_assoc]
theorem nodup_addT {l : List Tx} {k : Tx} (h : l.Nodup) : (addT l k).Nodup := by
  unfold addT
  split
  · exact h
  · next c => exact (List.perm_append_singleton _ _).nodup_iff.mpr (List.nodup_cons.mpr ⟨c, h⟩)
theorem nodup_uniT {m : List Tx} : ∀ {l : List Tx}, l.Nodup → (uniT l m).Nodup := by
  induction m with
  | nil => intro l h; exact h
  | cons x m ih => intro l h; exact ih (nodup_addT h)
theorem uniT_len : ∀ (m l : List Tx), (uniT l m).length ≤ l.length + m.length
  | [], l => Nat.le_refl _
  | x :: m, l => by
    have h1 := uniT_len m (addT l x)
    have h2 : (addT l x).length ≤ l.length + 1 := by
      unfold addT
      split
      · omega
      · rw [List.length_append, List.length_singleton]
        exact Nat.le_refl _
    show (uniT (addT l x) m).length ≤ l.length + (m.length + 1)
    omega
/-- what has the same members, once each, is the same in order -/
theorem srt_same {l m : List Tx} (hl : l.Nodup) (hm : m.Nodup) (h : ∀ k, k ∈ l ↔ k ∈ m) : srt l = srt m := by
  refine srt_congr ?_
  have q := perm_of_mem (l := l.map ky) (m := m.map ky) (List.Pairwise.map _ (fun a b n e => n (ky_inj e)) hl) (List.Pairwise.map _ (fun a b n e => n (ky_inj e)) hm) fun k => by
    constructor
    · intro z
      obtain ⟨x, hx, rfl⟩ := List.mem_map.mp z
      exact mem_ky.mpr ((h x).mp hx)
    · intro z
      obtain ⟨x, hx, rfl⟩ := List.mem_map.mp z
      exact mem_ky.mpr ((h x).mpr hx)
  have e : ∀ l : List Tx, (l.map ky).map (fun k : Key => match k with | .inr x => tl x | .inl _ => []) = l := fun l => by
    rw [List.map_map]
    conv => rhs; rw [← List.map_id l]
    exact List.map_congr_left fun x _ => tl_of x
  have q2 := q.map (fun k : Key => match k with | .inr x => tl x | .inl _ => [])
  rw [e, e] at q2
  exact q2
/-- a new set of texts -/
def EvS (w : World) (te : TE) (σ : L2.St) (H : Hp) (l : List Tx) : Prop := ∀ H1, Ex H H1 → ∀ Q : VK, (∀ p H2, H1 p = none → Ex H1 H2 → H2 p = some (KS w p (l.map ky)) → Q (.ref p) H2) → te σ H1 Q
section
variable {σ : L2.St} {H : Hp} {ta tb : TE} {α : Type} {f : α → V} {l m : List Tx} {dl : List (Tx × α)} {d : Addr} {w : World} {K : PySem.W.Frag}
theorem es_is {a b : List Tx} {te : TE} (h : EvS w te σ H a) (e : a = b) : EvS w te σ H b := e ▸ h
theorem s_setD (hd : Ev ta σ H (.ref d)) (h : Rd H d (.dK (kd f dl))) (hz : dl.length < 4096) : EvS w (tCB (rSetD w) (tCons ta tNil)) σ H (dkeys dl) := fun H1 e Q q =>
  hd H1 e _ fun H2 e2 => ⟨d, kd f dl, rfl, ex_rd (e.trans e2) h, by rw [kd_len]; exact hz, fun p np => by
    have ek : (kd f dl).map (·.1) = (dkeys dl).map ky := by
      unfold kd dkeys
      rw [List.map_map, List.map_map]
      rfl
    rw [ek]
    exact q p _ (fresh_back e2 np) (e2.trans (Ex.new np)) upd_same⟩
theorem s_setL (h : EvL ta σ H (l.map vs)) (hz : l.length < 4096) : EvS w (tCB (rSetLs w K) (tCons ta tNil)) σ H (uniT [] l) := fun H1 e Q q =>
  h H1 e _ fun p H2 np e2 hp => ⟨p, l.map mk, rfl, by
    rw [map_vs] at hp
    exact Or.inl (Or.inl hp), by rw [List.length_map]; exact hz, fun r nr => by
    have ek : uniK [] ((l.map mk).map Sum.inr) = (uniT [] l).map ky := by
      rw [← uniK_ky, List.map_map]
      rfl
    rw [ek]
    exact q r _ (fresh_back e2 nr) (e2.trans (Ex.new nr)) upd_same⟩
theorem s_orS (ha : EvS w ta σ H l) (hb : EvS w tb σ H m) (hz : l.length + m.length < 4096) : EvS w (tOp (rOrM w) ta tb) σ H (uniT l m) := fun H1 e Q q =>
  ha H1 e _ fun a H2 na e2 h2 => hb H2 (e.trans e2) _ fun b H3 nb e3 h3 => ⟨a, b, l.map ky, m.map ky, rfl, rfl, e3 a _ h2, h3, (fun z => by
    rw [z, nb] at h2
    cases h2), by rw [List.length_map, List.length_map]; exact hz, fun p np => by
    rw [uniK_ky]
    exact q p _ (fresh_back e2 (fresh_back e3 np)) ((e2.trans e3).trans (Ex.new np)) upd_same⟩
theorem l_srtS (h : EvS w ta σ H l) : EvL (tCB (rSrtM w) (tCons ta tNil)) σ H ((srt l).map vs) := fun H1 e Q q =>
  h H1 e _ fun a H2 na e2 h2 => ⟨a, l.map mk, rfl, by
    rw [h2, List.map_map]
    rfl, fun ys p hp hs np => by
    rw [sorted_srt hp hs, ← map_vs]
    exact q p _ (fresh_back e2 np) (e2.trans (Ex.new np)) upd_same⟩
end
end Vf

/-! Own layer: a text or None; tuples put behind a list. -/
namespace Vf
open PySem PySem.Spec PyProof.Rows L2 TL Evl
theorem vo_inj {x y : Option Tx} (h : vo x = vo y) : x = y := by
  cases x with
  | none =>
    cases y with
    | none => rfl
    | some b => cases h
  | some a =>
    cases y with
    | none => cases h
    | some b => exact congrArg some (mk_inj (V.str.inj h))
theorem dec_voo (x y : Option Tx) : decide (vo x = vo y) = decide (x = y) := by
  by_cases h : x = y
  · rw [decide_eq_true h, decide_eq_true (congrArg vo h)]
  · rw [decide_eq_false h, decide_eq_false fun z => h (vo_inj z)]
theorem vo_some {x : Option Tx} (h : x.isSome = true) : vo x = vs (x.getD []) := by
  cases x with
  | none => cases h
  | some a => rfl
theorem scal_vo (x y : Option Tx) : scal (vo x) (vo y) = true := by cases x <;> cases y <;> rfl
theorem paired_snoc {α β : Type} {F : α → β → Prop} {x : α} {y : β} (h : F x y) : ∀ {l : List α} {m : List β}, Paired F l m → Paired F (l ++ [x]) (m ++ [y])
  | [], _, .nil => .cons h .nil
  | _ :: _, _, .cons a b => .cons a (paired_snoc h b)
section
variable {K : PySem.W.Frag} {σ : L2.St} {H : Hp} {ta tb te : TE} {D : Ends} {tz : TS} {p : Addr}
theorem e_eqOO {x y : Option Tx} (ha : Ev ta σ H (vo x)) (hb : Ev tb σ H (vo y)) : Ev (tOp rEq ta tb) σ H (.bl (decide (x = y))) := dec_voo x y ▸ ev_op ha hb (rv_eq (scal_vo x y))
theorem e_neOO {x y : Option Tx} (ha : Ev ta σ H (vo x)) (hb : Ev tb σ H (vo y)) : Ev (tOp rNe ta tb) σ H (.bl (!decide (x = y))) := dec_voo x y ▸ ev_op ha hb (rv_ne (scal_vo x y))
theorem e_isN {x : Option Tx} (ha : Ev ta σ H (vo x)) (hb : Ev tb σ H .non) : Ev (tOp rIsN ta tb) σ H (.bl (!x.isSome)) := ev_op ha hb fun H1 _ _ q => ⟨rfl, by
  have e : decide (vo x = .non) = !x.isSome := by cases x <;> rfl
  rw [e]
  exact q H1 (Ex.refl H1)⟩
theorem e_notN {x : Option Tx} (ha : Ev ta σ H (vo x)) (hb : Ev tb σ H .non) : Ev (tOp rNotN ta tb) σ H (.bl x.isSome) := ev_op ha hb fun H1 _ _ q => ⟨rfl, by
  have e : (!decide (vo x = .non)) = x.isSome := by cases x <;> rfl
  rw [e]
  exact q H1 (Ex.refl H1)⟩
theorem s_appLU {l : List (List V)} {xs : List V} (h0 : IsLU K H p l) (ha : Ev ta σ H (.ref p)) (h : EvTu K te σ H xs) (hz : l.length < 100000) (q : ∀ (us : List Addr) H1, Mu H p (.lst (us.map V.ref)) H1 → IsLU K H1 p (l ++ [xs]) → D.nx σ H1) : tDrop (tBM K "list" rAppend ta (tCons te tNil)) D σ H := by
  obtain ⟨ts, a, b⟩ := h0
  have hl : ts.length = l.length := b.length
  exact ha H (Ex.refl H) _ fun H1 e1 => ⟨Or.inl ⟨rfl, _, sq_of (e1 p _ a)⟩, h H1 e1 _ fun t H2 e2 ht => ⟨p, ts.map V.ref, .ref t, rfl, rfl, e2 p _ (e1 p _ a), sz_lt (by rw [List.length_map, hl]; exact hz), by
    have e : ts.map V.ref ++ [.ref t] = (ts ++ [t]).map V.ref := by rw [List.map_append]; rfl
    rw [e]
    have hp2 : H2 p = some (.lst (ts.map V.ref)) := e2 p _ (e1 p _ a)
    exact q (ts ++ [t]) _ ⟨H2, e1.trans e2, rfl⟩ ⟨ts ++ [t], upd_same, paired_snoc (sqt_upd hp2 trivial ht) (tups_mono (fun _ _ z => sqt_upd hp2 trivial (ex_t (e1.trans e2) z)) b)⟩⟩⟩
theorem q_appLU {l : List (List V)} {xs : List V} (h0 : IsLU K H p l) (ha : Ev ta σ H (.ref p)) (h : EvTu K te σ H xs) (hz : l.length < 100000) (q : ∀ (us : List Addr) H1, Mu H p (.lst (us.map V.ref)) H1 → IsLU K H1 p (l ++ [xs]) → tz D σ H1) : tSeq (tDrop (tBM K "list" rAppend ta (tCons te tNil))) tz D σ H :=
  s_appLU (D := { D with nx := tz D }) h0 ha h hz q
end
end Vf

/-! Own layer: a for over a written list of two, its body read once for each. -/
namespace Vf
open PySem PySem.Spec PyProof.Rows L2 TL Evl
section
variable {K : PySem.W.Frag} {σ : L2.St} {H : Hp} {a1 a2 b1 b2 te : TE} {D : Ends} {tz tu : TS} {i j : Nat} {l1 l2 : List (List V)} {v1 v2 : V}
/-- behind the second turn -/
def Nz (K : PySem.W.Frag) (p : Addr) (xs : List V) (tz : TS) (D : Ends) : L2.St → Hp → Prop := fun σ2 H2 => SqL K H2 p xs ∧ tz D σ2 H2
/-- behind the first turn, the pair's names told anew -/
def N1 (K : PySem.W.Frag) (p t : Addr) (xs : List V) (x y : V) (i j : Nat) (tu tz : TS) (D : Ends) : L2.St → Hp → Prop := fun σ2 H2 =>
  SqL K H2 p xs ∧ SqT K H2 t [x, y] ∧ tu { D with nx := Nz K p xs tz D, ct := Nz K p xs tz D, bk := tz D } ((σ2.set i (some x)).set j (some y)) H2
theorem two_list {g : TG} {p : Addr} {x1 x2 : V} {σ : L2.St} {H : Hp} (tb : TS) (D : Ends) (W1 : L2.St → Hp → Prop) (hl1 : ∀ σ2 H2, W1 σ2 H2 → SqL K H2 p [x1, x2]) (hs : SqL K H p [x1, x2])
    (h1 : g x1 σ H fun σ2 H2 => tb { D with nx := W1, ct := W1, bk := D.nx } σ2 H2)
    (h2 : ∀ σ2 H2, W1 σ2 H2 → g x2 σ2 H2 fun σ3 H3 => tb { D with nx := fun σ4 H4 => SqL K H4 p [x1, x2] ∧ D.nx σ4 H4, ct := fun σ4 H4 => SqL K H4 p [x1, x2] ∧ D.nx σ4 H4, bk := D.nx } σ3 H3) :
    ∃ W : Nat → Nat → L2.St → Hp → Prop, (∃ m, W 0 m σ H) ∧ ∀ i m σ H, W i m σ H →
      ((Itl K p).stop i H ∧ D.nx σ H) ∨ ((Itl K p).go i H ∧ ∃ N : L2.St → Hp → Prop, (∀ σ2 H2, N σ2 H2 → ∃ m2, m2 < m ∧ W (i + 1) m2 σ2 H2) ∧ ∀ x H2, (Itl K p).yld i H x H2 → g x σ H2 fun σ3 H3 => tb { D with nx := N, ct := N, bk := D.nx } σ3 H3) := by
  refine for_list (xs := [x1, x2]) (fun n σ2 H2 => match n with
    | 0 => SqL K H2 p [x1, x2] ∧ g x1 σ2 H2 fun σ3 H3 => tb { D with nx := W1, ct := W1, bk := D.nx } σ3 H3
    | 1 => W1 σ2 H2
    | 2 => SqL K H2 p [x1, x2] ∧ D.nx σ2 H2
    | _ => False) ⟨hs, h1⟩ (fun n σ2 H2 hn q => ?_) (fun n x σ2 H2 hx q => ?_) (fun σ2 H2 q => q.2)
  · match n, hn, q with
    | 0, _, q => exact q.1
    | 1, _, q => exact hl1 _ _ q
    | 2, _, q => exact q.1
    | n + 3, hn, _ => exact absurd hn (by simp)
  · match n, hx, q with
    | 0, hx, q =>
      obtain rfl : x1 = x := Option.some.inj hx
      exact q.2
    | 1, hx, q =>
      obtain rfl : x2 = x := Option.some.inj hx
      exact h2 _ _ q
    | n + 2, hx, _ => exact absurd hx (by simp)
theorem q_two (h : ∀ Q : VK, (∀ p x1 x2 y1 y2 u1 u2 H1, Ex H H1 → H p = none → H1 p = some (.lst [.ref u1, .ref u2]) → SqT K H1 u1 [x1, y1] → SqT K H1 u2 [x2, y2] →
      tu { D with nx := N1 K p u2 [.ref u1, .ref u2] x2 y2 i j tu tz D, ct := N1 K p u2 [.ref u1, .ref u2] x2 y2 i j tu tz D, bk := tz D } ((σ.set i (some x1)).set j (some y1)) H1 → Q (.ref p) H1) → te σ H Q) :
    tSeq (tFor (iList K te) (gTup K 2 (gCons (gName i) (gCons (gName j) gNil))) tu) tz D σ H := by
  refine h _ fun p x1 x2 y1 y2 u1 u2 H1 e np hp s1 s2 q => ⟨p, rfl, ⟨_, sq_of hp⟩, ?_⟩
  refine two_list (x1 := .ref u1) (x2 := .ref u2) tu { D with nx := tz D } (N1 K p u2 [.ref u1, .ref u2] x2 y2 i j tu tz D) (fun σ2 H2 z => z.1) (sq_of hp) ?_ fun σ2 H2 z => ?_
  · exact ⟨u1, _, rfl, s1, rfl, _, _, rfl, _, _, rfl, ⟨rfl, q⟩⟩
  · exact ⟨u2, _, rfl, z.2.1, rfl, _, _, rfl, _, _, rfl, ⟨rfl, z.2.2⟩⟩
/-- for a, b in [(new list of tuples, known), (new list of tuples, known)] -/
theorem q_twoU (ha1 : EvU2 K a1 σ H l1) (hb1 : Ev b1 σ H v1) (ha2 : EvU2 K a2 σ H l2) (hb2 : Ev b2 σ H v2)
    (q : ∀ f1 f2 u1 u2 p H1, H f1 = none → H f2 = none → H p = none → f1 ≠ f2 → f1 ≠ p → f2 ≠ p → Ex H H1 → IsLU K H1 f1 l1 → IsLU K H1 f2 l2 → H1 p = some (.lst [.ref u1, .ref u2]) → SqT K H1 u2 [.ref f2, v2] →
      tu { D with nx := N1 K p u2 [.ref u1, .ref u2] (.ref f2) v2 i j tu tz D, ct := N1 K p u2 [.ref u1, .ref u2] (.ref f2) v2 i j tu tz D, bk := tz D } ((σ.set i (some (.ref f1))).set j (some v1)) H1) :
    tSeq (tFor (iList K (tLst (tCons (tTup (tCons a1 (tCons b1 tNil))) (tCons (tTup (tCons a2 (tCons b2 tNil))) tNil)))) (gTup K 2 (gCons (gName i) (gCons (gName j) gNil))) tu) tz D σ H :=
  q_two fun Q k => ha1 H (Ex.refl H) _ fun f1 H1 n1 e1 h1 => hb1 H1 e1 _ fun H2 e2 => ⟨sz_of (by simp), fun u1 m1 =>
    have e3 : Ex H (upd H2 u1 (.tup [.ref f1, v1])) := (e1.trans e2).trans (Ex.new m1)
    ha2 _ e3 _ fun f2 H4 n4 e4 h4 => hb2 H4 (e3.trans e4) _ fun H5 e5 => ⟨sz_of (by simp), fun u2 m2 =>
      have e6 : Ex H5 (upd H5 u2 (.tup [.ref f2, v2])) := Ex.new m2
      ⟨sz_of (by simp), fun p np => by
        have e7 : Ex (upd H5 u2 (.tup [.ref f2, v2])) (upd (upd H5 u2 (.tup [.ref f2, v2])) p (.lst [.ref u1, .ref u2])) := Ex.new np
        have w1 : IsLU K (upd (upd H5 u2 (.tup [.ref f2, v2])) p (.lst [.ref u1, .ref u2])) f1 l1 := (((((h1.ex e2).ex (Ex.new m1)).ex e4).ex e5).ex e6).ex e7
        have w2 : IsLU K (upd (upd H5 u2 (.tup [.ref f2, v2])) p (.lst [.ref u1, .ref u2])) f2 l2 := ((h4.ex e5).ex e6).ex e7
        have w0 : IsLU K (upd H5 u2 (.tup [.ref f2, v2])) f1 l1 := ((((h1.ex e2).ex (Ex.new m1)).ex e4).ex e5).ex e6
        have w02 : IsLU K (upd H5 u2 (.tup [.ref f2, v2])) f2 l2 := (h4.ex e5).ex e6
        have s1 : SqT K (upd H2 u1 (.tup [.ref f1, v1])) u1 [.ref f1, v1] := st_of upd_same
        have s2 : SqT K (upd H5 u2 (.tup [.ref f2, v2])) u2 [.ref f2, v2] := st_of upd_same
        have eall : Ex H (upd (upd H5 u2 (.tup [.ref f2, v2])) p (.lst [.ref u1, .ref u2])) := (((e3.trans e4).trans e5).trans e6).trans e7
        exact k p (.ref f1) (.ref f2) v1 v2 u1 u2 _ eall (fresh_back (((e3.trans e4).trans e5).trans e6) np) upd_same (ex_t (((e4.trans e5).trans e6).trans e7) s1) (ex_t e7 s2)
          (q f1 f2 u1 u2 p _ n1 (fresh_back e3 n4) (fresh_back (((e3.trans e4).trans e5).trans e6) np) (((h1.ex e2).ex (Ex.new m1)).ne n4) (w0.ne np) (w02.ne np) eall w1 w2 upd_same (ex_t e7 s2))⟩⟩⟩
end
section
variable {K : PySem.W.Frag} {σ : L2.St} {H : Hp} {tl' : TE} {D : Ends} {tz tu : TS} {pl : Addr}
/-- an own list of tuples, with its tuples named -/
def IsLV (K : PySem.W.Frag) (H : Hp) (p : Addr) (ts : List Addr) (l : List (List V)) : Prop := H p = some (.lst (ts.map V.ref)) ∧ TupsAt K H ts l
theorem IsLV.ex {H2 : Hp} {ts : List Addr} {l : List (List V)} (h : IsLV K H pl ts l) (e : Ex H H2) : IsLV K H2 pl ts l := ⟨e _ _ h.1, tups_mono (fun _ _ => ex_t e) h.2⟩
theorem IsLV.lu {ts : List Addr} {l : List (List V)} (h : IsLV K H pl ts l) : IsLU K H pl l := ⟨ts, h.1, h.2⟩
/-- for t in own list of tuples, which the body leaves as it is -/
theorem q_loopV {S R : Type} {l : List (List Tx)} (step : S → List Tx → Stp S R) (s0 : S) (Rep : List Addr → S → L2.St → Hp → Prop) {j : Nat} (h : Ev tl' σ H (.ref pl)) (hS : IsLU K H pl (l.map (List.map vs)))
    (h0 : ∀ ts H1, Ex H H1 → IsLV K H1 pl ts (l.map (List.map vs)) → Rep ts s0 σ H1) (hl : ∀ ts s σ1 H1, Rep ts s σ1 H1 → IsLV K H1 pl ts (l.map (List.map vs)))
    (hb : ∀ ts, BodyOkU K tu D j step l s0 (Rep ts)) (ho : ∀ ts, OutOk tz D step l s0 (Rep ts)) : tSeq (tFor (iList K tl') (gName j) tu) tz D σ H := by
  obtain ⟨ts, hA, hB⟩ := hS
  have hlen : ts.length = l.length := by
    rw [paired_len hB, List.length_map]
  refine q_forLn h (sq_of hA) (fun i σ1 H1 => ∃ s, runL step (l.take i) s0 = .go s ∧ Rep ts s σ1 H1) (fun H1 e => ⟨s0, rfl, h0 ts H1 e (IsLV.ex ⟨hA, hB⟩ e)⟩) (fun i σ1 H1 _ ⟨s, _, q⟩ => sq_of (hl ts s σ1 H1 q).1) (fun i x σ1 H1 hx q => ?_) (fun σ1 H1 q => loop_end (ho ts) (by rw [List.length_map]; exact hlen) q)
  obtain ⟨s, hr, hq⟩ := q
  obtain ⟨a, y, rfl, hy, ha⟩ := tup_at (ts := ts) (i := i) (hl ts s σ1 H1 hq).2 hx
  cases hy2 : l[i]? with
  | none =>
    rw [List.getElem?_map, hy2] at hy
    cases hy
  | some y2 =>
    rw [List.getElem?_map, hy2] at hy
    have e : y2.map vs = y := Option.some.inj hy
    subst e
    have hn := runL_next hr hy2
    exact hb ts _ _ i s y2 a σ1 H1 hy2 hr hq ha (fun s2 σ2 H2 e q => ⟨s2, hn.trans e, q⟩) (fun s2 σ2 H2 e q => ho ts s2 σ2 H2 (Or.inr (runL_out (hn.trans e) (fun _ z => by cases z))) q) (fun r e => runL_out (hn.trans e) (fun _ z => by cases z))
end
end Vf

/-! Own layer: sorted of a list of tuples of texts. -/
namespace Vf
open PySem PySem.Spec PyProof.Rows L2 TL Evl
def tkey (q : List Tx) : List (Int ⊕ List Nat) := q.map Sum.inr
theorem tkey_inj {p q : List Tx} (h : tkey p = tkey q) : p = q := by
  have e := congrArg (List.map fun x : Int ⊕ List Nat => match x with | .inr y => y | .inl _ => []) h
  unfold tkey at e
  rw [List.map_map, List.map_map] at e
  have i : ∀ l : List Tx, l.map ((fun x : Int ⊕ List Nat => match x with | .inr y => y | .inl _ => []) ∘ Sum.inr) = l := fun l => by
    conv => rhs; rw [← List.map_id l]
    exact List.map_congr_left fun _ _ => rfl
  rw [i, i] at e
  exact e
abbrev TO : KeyOrd := listOrd itemOrd
/-- a does not stand behind b -/
def ule (a b : List Tx) : Bool := !TO.blt (tkey b) (tkey a)
theorem ule_kle {a b : List Tx} : ule a b = true ↔ TO.kle (tkey a) (tkey b) := by
  unfold ule KeyOrd.kle
  rw [Bool.not_eq_true']
theorem ule_trans (a b c : List Tx) (h1 : ule a b = true) (h2 : ule b c = true) : ule a c = true := ule_kle.mpr (KeyOrd.kle_trans (ule_kle.mp h1) (ule_kle.mp h2))
theorem ule_anti {a b : List Tx} (h1 : ule a b = true) (h2 : ule b a = true) : a = b := tkey_inj (KeyOrd.kle_antisymm (ule_kle.mp h1) (ule_kle.mp h2))
theorem ule_total (a b : List Tx) : (ule a b || ule b a) = true := by
  cases h : ule a b with
  | true => rfl
  | false =>
    have h2 : TO.blt (tkey b) (tkey a) = true := by
      unfold ule at h
      rw [Bool.not_eq_false'] at h
      exact h
    rw [Bool.false_or]
    exact ule_kle.mpr (KeyOrd.klt_asymm h2)
/-- the rows in order -/
def srtU (l : List (List Tx)) : List (List Tx) := l.mergeSort ule
theorem srtU_perm (l : List (List Tx)) : (srtU l).Perm l := List.mergeSort_perm _ _
theorem mem_srtU {l : List (List Tx)} {p : List Tx} : p ∈ srtU l ↔ p ∈ l := (srtU_perm l).mem_iff
theorem srtU_len (l : List (List Tx)) : (srtU l).length = l.length := (srtU_perm l).length_eq
theorem srtU_pw (l : List (List Tx)) : (srtU l).Pairwise (fun a b => ule a b = true) := List.pairwise_mergeSort ule_trans ule_total l
theorem srtU_uniq {l m : List (List Tx)} (h : m.Perm l) (hs : m.Pairwise (fun a b => ule a b = true)) : m = srtU l :=
  List.Perm.eq_of_pairwise (le := fun a b => ule a b = true) (fun a b _ _ h1 h2 => ule_anti h1 h2) hs (srtU_pw l) (h.trans (srtU_perm l).symm)
theorem srtU_congr {l m : List (List Tx)} (h : m.Perm l) : srtU m = srtU l := srtU_uniq ((srtU_perm m).trans h) (srtU_pw m)
/-- what is put in another order keeps its pairs -/
theorem paired_perm {α β : Type} {F : α → β → Prop} {l l2 : List α} (p : l2.Perm l) : ∀ {m : List β}, Paired F l m → ∃ m2, m2.Perm m ∧ Paired F l2 m2 := by
  induction p with
  | nil => intro m h; exact ⟨m, .refl m, h⟩
  | cons x _ ih =>
    intro m h
    cases h with
    | cons a b =>
      obtain ⟨m2, q, r⟩ := ih b
      exact ⟨_ :: m2, q.cons _, .cons a r⟩
  | swap x y l =>
    intro m h
    cases h with
    | cons a b =>
      cases b with
      | cons c d => exact ⟨_, List.Perm.swap _ _ _, .cons c (.cons a d)⟩
  | trans _ _ ih1 ih2 =>
    intro m h
    obtain ⟨m2, q, r⟩ := ih2 h
    obtain ⟨m3, q2, r2⟩ := ih1 r
    exact ⟨m3, q2.trans q, r2⟩
/-- the key of a tuple of texts -/
theorem items_key : ∀ {q : List Tx} {its : List Value} (n : Nat), Vals (q.map vs) its → tupItems (fun _ => true) n its = some (tkey q)
  | [], its, n, h => by
    cases h
    rfl
  | p :: q, its, n, h => by
    cases h with
    | cons a b =>
      obtain ⟨t, e⟩ := a
      subst e
      rw [tupItems, if_pos rfl, items_key (n + 1) b]
      rfl
theorem vals_refs : ∀ {ts : List Addr} {its : List Value}, Vals (ts.map V.ref) its → its = ts.map Value.ref
  | [], its, h => by
    cases h
    rfl
  | a :: ts, its, h => by
    cases h with
    | cons x y =>
      have e : _ = Value.ref a := x
      rw [e, vals_refs y]
      rfl
theorem refs_vals : ∀ (ts : List Addr), Vals (ts.map V.ref) (ts.map Value.ref)
  | [] => .nil
  | a :: ts => .cons rfl (refs_vals ts)
theorem paired_unmap {α β γ : Type} {F : α → γ → Prop} {f : β → γ} : ∀ {l : List α} {m : List β}, Paired F l (m.map f) → Paired (fun a b => F a (f b)) l m
  | [], [], _ => .nil
  | _ :: _, _ :: _, .cons a b => .cons a (paired_unmap b)
  | [], _ :: _, h => by cases h
  | _ :: _, [], h => by cases h
theorem paired_map {α β γ : Type} {F : α → γ → Prop} {f : β → γ} : ∀ {l : List α} {m : List β}, Paired (fun a b => F a (f b)) l m → Paired F l (m.map f)
  | _, _, .nil => .nil
  | _, _, .cons a b => .cons a (paired_map b)
theorem paired_get {α β : Type} {F : α → β → Prop} : ∀ {l : List α} {m : List β}, Paired F l m → ∀ {i : Nat} {a : α}, l[i]? = some a → ∃ b, m[i]? = some b ∧ F a b
  | _, _, .cons x y, 0, a, e => by
    have e2 := Option.some.inj e
    subst e2
    exact ⟨_, rfl, x⟩
  | _, _, .cons x y, i + 1, a, e => paired_get y (i := i) e
  | _, _, .nil, i, a, e => by cases e
def adr : Value → Addr
  | .ref a => a
  | _ => 0
/-- sorted(l) of a list of tuples of texts, each with one at least -/
def rSrtU (K : PySem.W.Frag) : List V → Hp → VK → Prop := fun xs H Q => ∃ (p : Addr) (ts : List Addr) (l : List (List Tx)), xs = [.ref p] ∧ SqL K H p (ts.map V.ref) ∧ TupsAt K H ts (l.map (List.map vs)) ∧ (∀ q ∈ l, q ≠ []) ∧ l.length ≤ 40000 ∧
  ∀ us r, TupsAt K H us ((srtU l).map (List.map vs)) → H r = none → Q (.ref r) (upd H r (.lst (us.map V.ref)))
section
variable {X : Cx}
theorem tup_keyC {pins : List (Addr × Obj)} {σ : L2.St} {H : Hp} {s : Shared} (I : Inv X pins σ H s) {t : Addr} {q : List Tx} (h : SqT X.K H t (q.map vs)) :
    G.tupKeyC s.heap (fun _ => true) (.ref t) = some (tkey q) ∧ (q ≠ [] → ∃ f, TupOf s.heap (fun _ => true) (.ref t) f) := by
  obtain ⟨its, rv, ⟨o, ho, hc, n, hd⟩, _⟩ := I.tuple h
  constructor
  · have h1 : G.isTupObj s.heap (.ref t) = true := by
      unfold G.isTupObj
      dsimp only
      rw [ho]
      dsimp only
      rw [hc]
      rfl
    unfold G.tupKeyC tupKey
    rw [if_pos h1]
    dsimp only
    rw [ho]
    dsimp only
    rw [hd]
    exact items_key 0 rv
  · intro hq
    cases q with
    | nil => exact absurd rfl hq
    | cons x r =>
      cases rv with
      | cons a b =>
        obtain ⟨tk, e⟩ := a
        subst e
        exact ⟨_, t, o, _, n, rfl, ho, hc, hd, rfl, (fun z => Bool.noConfusion z), (fun _ => ⟨_, _, rfl⟩)⟩
theorem tups_ofs {h : Heap} {sh : Nat → Bool} : ∀ {ts : List Addr}, (∀ t ∈ ts, ∃ f, TupOf h sh (.ref t) f) → ∃ fs, TupsOf h sh (ts.map Value.ref) fs
  | [], _ => ⟨[], .nil⟩
  | t :: ts, h => by
    obtain ⟨f, a⟩ := h t List.mem_cons_self
    obtain ⟨fs, b⟩ := tups_ofs fun u hu => h u (List.mem_cons_of_mem _ hu)
    exact ⟨f :: fs, .cons a b⟩
theorem call_srtU : CallR X (.builtin "sorted") (rSrtU X.K) := by
  intro pins s σ H xs us0 Q I r ⟨p, ts, l, ex, hs, ht, hne, hz, q⟩
  subst ex
  rw [Vals.ref1 r]
  obtain ⟨its, rv, ⟨⟨cls, dd, data, sl⟩, n, ho, hc, hdn, hd⟩, hlen⟩ := I.list hs
  simp only at hc hd
  subst hc hd
  have ei := vals_refs rv
  subst ei
  have hP := paired_unmap ht
  have hpl := hP.length
  have hL : s.heap.IsList p (ts.map Value.ref).toArray := ⟨_, ho, rfl, n, rfl⟩
  have hmem : ∀ t ∈ ts, ∃ q ∈ l, SqT X.K H t (q.map vs) := fun t h => by
    obtain ⟨i, hi⟩ := List.mem_iff_getElem?.mp h
    obtain ⟨b, hb, hF⟩ := paired_get hP hi
    exact ⟨b, List.mem_of_getElem? hb, hF⟩
  obtain ⟨fs, hfs⟩ := tups_ofs (h := s.heap) (sh := fun _ => true) (ts := ts) fun t h => by
    obtain ⟨b, hb, hF⟩ := hmem t h
    exact (tup_keyC I hF).2 (hne b hb)
  have hsz : (ts.map Value.ref).length ≤ sizeLine := by
    rw [List.length_map, hpl, sizeLine_eq]
    omega
  refine G.sorted_tups (shape := fun _ => true) hL hfs (fun v hv => ?_) hsz fun st2 hp hso _ => ?_
  · obtain ⟨t, h, rfl⟩ := List.mem_map.mp hv
    obtain ⟨b, hb, hF⟩ := hmem t h
    exact ⟨_, (tup_keyC I hF).1⟩
  · have hl2 : ((arrOf st2).map (·.2)).toList.Perm (ts.map Value.ref) := by
      rw [Array.toList_map]
      have h1 := (Array.perm_iff_toList_perm.mp hp).map (·.2)
      rw [pairsOf_toList] at h1
      refine h1.trans ?_
      rw [List.map_snd_zip (Nat.le_refl _)]
    have h12 : ∀ e ∈ (arrOf st2).toList, e.1 = e.2 := fun e he => by
      have h1 := (Array.perm_iff_toList_perm.mp hp).mem_iff.mp he
      rw [pairsOf_toList] at h1
      exact (mem_zip_self h1).1
    generalize hout : (arrOf st2).map (·.2) = out at hl2 ⊢
    have hus : out.toList = (out.toList.map adr).map Value.ref := by
      rw [List.map_map]
      conv => lhs; rw [← List.map_id out.toList]
      exact List.map_congr_left fun v hv => by
        obtain ⟨t, _, rfl⟩ := List.mem_map.mp (hl2.mem_iff.mp hv)
        rfl
    have hup : (out.toList.map adr).Perm ts := by
      have h1 := hl2.map adr
      rw [List.map_map] at h1
      have e : ts.map (adr ∘ Value.ref) = ts := by
        conv => rhs; rw [← List.map_id ts]
        exact List.map_congr_left fun _ _ => rfl
      rw [e] at h1
      exact h1
    generalize out.toList.map adr = us at hus hup
    obtain ⟨m, hm, hF⟩ := paired_perm hup hP
    have hpw : m.Pairwise (fun a b => ule a b = true) := by
      rw [List.pairwise_iff_getElem]
      intro i j hi hj hij
      have hul : us.length = m.length := hF.length
      have hsz2 : (arrOf st2).size = out.toList.length := by rw [← hout, Array.length_toList, Array.size_map]
      have hol : out.toList.length = us.length := by rw [hus, List.length_map]
      have hps : (pairsOf (ts.map Value.ref)).size = (arrOf st2).size := (Array.perm_iff_toList_perm.mp hp).length_eq.symm
      have key : ∀ k (hk : k < m.length), KK (G.tupKindC s.heap fun _ => true) (arrOf st2) k = tkey m[k] := fun k hk => by
        have hk2 : k < (arrOf st2).size := by omega
        have hus2 : k < us.length := by omega
        have e1 : (arrOf st2)[k]? = some (arrOf st2)[k] := Array.getElem?_eq_getElem hk2
        have e2 : (arrOf st2)[k].1 = (arrOf st2)[k].2 := h12 _ (by simp)
        have e3 : out.toList[k]? = some (arrOf st2)[k].2 := by
          rw [← hout, Array.getElem?_toList, Array.getElem?_map, e1]
          rfl
        have e4 : (arrOf st2)[k].2 = Value.ref us[k] := by
          rw [hus, List.getElem?_map, List.getElem?_eq_getElem hus2] at e3
          exact (Option.some.inj e3).symm
        obtain ⟨b, hb, hFb⟩ := paired_get hF (List.getElem?_eq_getElem hus2)
        have e5 : b = m[k] := by
          rw [List.getElem?_eq_getElem hk] at hb
          exact (Option.some.inj hb).symm
        unfold KK
        rw [e1]
        show (G.tupKeyC s.heap (fun _ => true) (arrOf st2)[k].1).getD [] = _
        rw [e2, e4, (tup_keyC I hFb).1, e5]
        rfl
      have h3 := hso i j (Nat.le_of_lt hij) (by omega)
      rw [key i hi, key j hj] at h3
      exact ule_kle.mpr h3
    have em := srtU_uniq hm hpw
    obtain ⟨e0, he0⟩ := sortedAll_at s.heap (ts.map Value.ref) out
    refine ⟨.ref (s.heap.objs.size + 1), upd H (s.heap.objs.size + 1) (.lst (us.map V.ref)), I.laid (t' := s.toks) (fun b u e => sortedAll_old e) (Nat.le_succ _)
      (show ObjOk X.prog X.w _ _ _ (.lst (us.map V.ref)) from ⟨by rw [List.length_map, hup.length_eq, hpl, sizeLine_eq]; omega, us.map Value.ref, e0, refs_vals us, by rw [← hus, Array.toArray_toList]; exact he0⟩), rfl,
      q us _ (paired_map (by rw [← em]; exact hF)) (I.hok.fresh (Nat.le_succ _))⟩
end
section
variable {σ : L2.St} {H : Hp} {ta : TE} {K : PySem.W.Frag} {l : List (List Tx)} {p : Addr}
theorem u_srt (h : EvU2 K ta σ H (l.map (List.map vs))) (hn : ∀ q ∈ l, q ≠ []) (hz : l.length ≤ 40000) : EvU2 K (tCB (rSrtU K) (tCons ta tNil)) σ H ((srtU l).map (List.map vs)) := fun H1 e Q q =>
  h H1 e _ fun a H2 na e2 h2 => by
    obtain ⟨ts, x, y⟩ := h2
    exact ⟨a, ts, l, rfl, sq_of x, y, hn, hz, fun us r hu nr => q r _ (fresh_back e2 nr) (e2.trans (Ex.new nr)) ⟨us, upd_same, tups_mono (fun _ _ => ex_t (Ex.new nr)) hu⟩⟩
theorem u_srtR (h : Ev ta σ H (.ref p)) (hp : IsLUr K H p (l.map (List.map vs))) (hn : ∀ q ∈ l, q ≠ []) (hz : l.length ≤ 40000) : EvU2 K (tCB (rSrtU K) (tCons ta tNil)) σ H ((srtU l).map (List.map vs)) := fun H1 e Q q =>
  h H1 e _ fun H2 e2 => by
    obtain ⟨ts, x, y⟩ := hp.ex (e.trans e2)
    exact ⟨p, ts, l, rfl, x, y, hn, hz, fun us r hu nr => q r _ (fresh_back e2 nr) (e2.trans (Ex.new nr)) ⟨us, upd_same, tups_mono (fun _ _ => ex_t (Ex.new nr)) hu⟩⟩
end
end Vf

/-! Own layer: a comprehension over a new list of pairs, its names told from the pair. -/
namespace Vf
open PySem PySem.Spec PyProof.Rows L2 TL Evl
theorem two_of {q : List Tx} (h : q.length = 2) : q = [q.getD 0 [], q.getD 1 []] := by
  match q, h with
  | [a, b], _ => rfl
section
variable {K : PySem.W.Frag} {σ : L2.St} {H : Hp} {tl' te : TE} {t : TT} {ws : List Nat} {i j : Nat} {β : Type} {f2 : β → V}
theorem l_filP {l : List (List Tx)} (c : List Tx → Bool) (g : List Tx → β) (h : EvU2 K tl' σ H (l.map (List.map vs))) (h2 : ∀ q ∈ l, q.length = 2) (hz : l.length ≤ 40000)
    (ht : ∀ q ∈ l, EvT t (((wipe σ ws).set i (some (vs (q.getD 0 [])))).set j (some (vs (q.getD 1 [])))) H (c q))
    (he : ∀ q ∈ l, c q = true → Ev te (((wipe σ ws).set i (some (vs (q.getD 0 [])))).set j (some (vs (q.getD 1 [])))) H (f2 (g q)))
    (hw : ∀ v w, wipe (((wipe σ ws).set i (some v)).set j (some w)) ws = wipe σ ws := by exact fun _ _ => rfl) :
    EvL (tLc (iList K tl') (gTup K 2 (gCons (gName i) (gCons (gName j) gNil))) t te ws) σ H (((l.filter c).map g).map f2) := fun H0 e0 Q q => h H0 e0 _ fun pl H1 npl e1 hU => by
  obtain ⟨ts, h1, h3⟩ := hU
  refine ⟨pl, rfl, ⟨_, sq_of h1⟩, fun Dl hD => ?_⟩
  have hlen : ts.length = l.length := by rw [paired_len h3, List.length_map]
  refine lc_list (xs := ts.map V.ref) (fun k H5 => k ≤ l.length ∧ H1 Dl = none ∧ Ex H1 H5 ∧ H5 Dl = some (.lst ((((l.take k).filter c).map g).map f2))) ⟨Nat.zero_le _, hD, Ex.new hD, upd_same⟩ (fun k H5 _ hI => sq_of (hI.2.2.1 pl _ h1)) (fun k x H5 hx hI => ?_) (fun H5 hI => ?_)
  · obtain ⟨hk, _, e2, hu⟩ := hI
    obtain ⟨a, y, rfl, hy, ha⟩ := tup_at (ts := ts) (i := k) h3 hx
    rw [List.getElem?_map] at hy
    cases hy2 : l[k]? with
    | none =>
      rw [hy2] at hy
      cases hy
    | some y2 =>
      rw [hy2] at hy
      have ey : y2.map vs = y := Option.some.inj hy
      subst ey
      have hlt := (List.getElem?_eq_some_iff.mp hy2).1
      have hm := List.mem_of_getElem? hy2
      have hst : (l.take (k + 1)).filter c = (l.take k).filter c ++ (if c y2 = true then [y2] else []) := by
        rw [List.take_add_one, hy2, List.filter_append]
        congr 1
        show [y2].filter c = _
        rw [List.filter_cons]
        rfl
      have e25 : y2.map vs = [vs (y2.getD 0 []), vs (y2.getD 1 [])] := by
        conv => lhs; rw [two_of (h2 y2 hm)]
        rfl
      have eH : Ex H H5 := (e0.trans e1).trans e2
      refine ⟨a, _, rfl, ex_t e2 ha, by rw [List.length_map]; exact h2 y2 hm, ?_⟩
      rw [e25]
      refine ⟨_, _, rfl, _, _, rfl, rfl, hw _ _, ht y2 hm H5 eH _ fun H3 e3 => ?_⟩
      cases hc : c y2 with
      | false =>
        rw [if_neg Bool.false_ne_true]
        rw [hc, if_neg Bool.false_ne_true, List.append_nil] at hst
        exact ⟨hlt, hD, e2.trans e3, by rw [hst]; exact e3 Dl _ hu⟩
      | true =>
        rw [if_pos rfl]
        rw [hc, if_pos rfl] at hst
        refine he y2 hm hc H3 (eH.trans e3) _ fun H4 e4 => ⟨_, e4 Dl _ (e3 Dl _ hu), sz_lt ?_, hlt, hD, Ex.mut ((e2.trans e3).trans e4) hD, ?_⟩
        · rw [List.length_map, List.length_map]
          have h5 := List.length_filter_le c (l.take k)
          rw [List.length_take] at h5
          omega
        · rw [hst, List.map_append, List.map_append, upd_same]
          rfl
  · obtain ⟨_, _, e2, hu⟩ := hI
    rw [List.length_map, hlen, List.take_length] at hu
    exact q Dl H5 (fresh_back e1 hD) (e1.trans e2) hu
end
end Vf

/-! Own layer: a for over a new list of pairs, with two names. -/
namespace Vf
open PySem PySem.Spec PyProof.Rows L2 TL Evl
section
variable {K : PySem.W.Frag} {σ : L2.St} {H : Hp} {te : TE} {D : Ends} {tz tu : TS} {i j : Nat}
theorem IsLV.mu {p r : Addr} {ts : List Addr} {l : List (List V)} {H1 : Hp} {o X : HO} (h : IsLV K H p ts l) (m : Mu H r X H1) (hne : p ≠ r) (hr : H r = some o) (nt : NT o) : IsLV K H1 p ts l := ⟨m.keep hne h.1, tups_mono (fun _ _ => m.tup hr nt) h.2⟩
theorem IsLV.ne {p r : Addr} {ts : List Addr} {l : List (List V)} (h : IsLV K H p ts l) (n : H r = none) : p ≠ r := ne_of_none h.1 n
/-- the body, the two names of a pair told -/
def BodyOkP {S R : Type} (tu : TS) (D : Ends) (i j : Nat) (step : S → List Tx → Stp S R) (l : List (List Tx)) (s0 : S) (Rep : S → L2.St → Hp → Prop) : Prop :=
  ∀ (Nx Bk : L2.St → Hp → Prop) (n : Nat) (s : S) (y : List Tx) (σ1 : L2.St) (H1 : Hp), l[n]? = some y → runL step (l.take n) s0 = .go s → Rep s σ1 H1 → (∀ s2 σ2 H2, step s y = .go s2 → Rep s2 σ2 H2 → Nx σ2 H2) → (∀ s2 σ2 H2, step s y = .brk s2 → Rep s2 σ2 H2 → Bk σ2 H2) →
    (∀ r, step s y = .ret r → runL step l s0 = .ret r) → tu { D with nx := Nx, ct := Nx, bk := Bk } ((σ1.set i (some (vs (y.getD 0 [])))).set j (some (vs (y.getD 1 [])))) H1
theorem q_loopP {S R : Type} {l : List (List Tx)} (step : S → List Tx → Stp S R) (s0 : S) (Rep : Addr → List Addr → S → L2.St → Hp → Prop) (h : EvU2 K te σ H (l.map (List.map vs))) (h2 : ∀ q ∈ l, q.length = 2)
    (h0 : ∀ p ts H1, H p = none → Ex H H1 → IsLV K H1 p ts (l.map (List.map vs)) → Rep p ts s0 σ H1) (hl : ∀ p ts s σ1 H1, Rep p ts s σ1 H1 → IsLV K H1 p ts (l.map (List.map vs)))
    (hb : ∀ p ts, H p = none → BodyOkP tu D i j step l s0 (Rep p ts)) (ho : ∀ p ts, H p = none → OutOk tz D step l s0 (Rep p ts)) : tSeq (tFor (iList K te) (gTup K 2 (gCons (gName i) (gCons (gName j) gNil))) tu) tz D σ H := by
  refine h H (Ex.refl H) _ fun p H1 np e1 hU => ?_
  obtain ⟨ts, h1, h3⟩ := hU
  have hlen : ts.length = l.length := by rw [paired_len h3, List.length_map]
  refine ⟨p, rfl, ⟨_, sq_of h1⟩, ?_⟩
  refine for_list (xs := ts.map V.ref) (D := { D with nx := tz D }) (fun n σ1 H2 => ∃ s, runL step (l.take n) s0 = .go s ∧ Rep p ts s σ1 H2) ⟨s0, rfl, h0 p ts H1 np e1 ⟨h1, h3⟩⟩ (fun n σ1 H2 _ hq => ?_) (fun n x σ1 H2 hx hq => ?_) (fun σ1 H2 hq => loop_end (ho p ts np) (by rw [List.length_map]; exact hlen) hq)
  · obtain ⟨s, _, q⟩ := hq
    exact sq_of (hl p ts s σ1 H2 q).1
  · obtain ⟨s, hr, q⟩ := hq
    obtain ⟨a, y, rfl, hy, ha⟩ := tup_at (ts := ts) (i := n) (hl p ts s σ1 H2 q).2 hx
    cases hy2 : l[n]? with
    | none =>
      rw [List.getElem?_map, hy2] at hy
      cases hy
    | some y2 =>
      rw [List.getElem?_map, hy2] at hy
      have ey : y2.map vs = y := Option.some.inj hy
      subst ey
      have hm := List.mem_of_getElem? hy2
      have hn := runL_next hr hy2
      have e25 : y2.map vs = [vs (y2.getD 0 []), vs (y2.getD 1 [])] := by
        conv => lhs; rw [two_of (h2 y2 hm)]
        rfl
      refine ⟨a, _, rfl, ha, by rw [List.length_map]; exact h2 y2 hm, ?_⟩
      rw [e25]
      refine ⟨_, _, rfl, _, _, rfl, rfl, ?_⟩
      exact hb p ts np _ _ n s y2 σ1 H2 hy2 hr q (fun s2 σ2 H3 e q => ⟨s2, hn.trans e, q⟩) (fun s2 σ2 H3 e q => ho p ts np s2 σ2 H3 (Or.inr (runL_out (hn.trans e) (fun _ z => by cases z))) q) (fun r e => runL_out (hn.trans e) (fun _ z => by cases z))
end
/-! ## a def that changes the dict that is handed in -/
/-- what it answers: None, the dict at d holding kvs then -/
def RetM (d : Addr) (kvs : List (Key × V)) (H : Hp) (Q : VK) : Prop := ∀ H1, Mu H d (.dK kvs) H1 → Q .non H1
section
variable {σ : L2.St} {H : Hp} {D : Ends} {tz : TS} {t : TA} {d : Addr} {kvs : List (Key × V)}
def spM (R : List V → Hp → Addr → List (Key × V) → Prop) : Sp := fun ws H Q _ => ∃ d kvs, R ws H d kvs ∧ RetM d kvs H Q
theorem q_callM {R : List V → Hp → Addr → List (Key × V) → Prop} {E : XK} {ws : List V} (h : EvA t σ H ws) (hR : ∀ H1, Ex H H1 → R ws H1 d kvs) (q : ∀ H1, Mu H d (.dK kvs) H1 → tz D σ H1) : tSeq (tDrop (tCall (spM R) [] E t)) tz D σ H :=
  h H (Ex.refl H) _ fun H1 e1 => ⟨d, kvs, by rw [List.append_nil]; exact hR H1 e1, fun H2 m => q H2 (by
    obtain ⟨H3, e3, rfl⟩ := m
    exact ⟨H3, e1.trans e3, rfl⟩)⟩
theorem s_callM {R : List V → Hp → Addr → List (Key × V) → Prop} {E : XK} {ws : List V} (h : EvA t σ H ws) (hR : ∀ H1, Ex H H1 → R ws H1 d kvs) (q : ∀ H1, Mu H d (.dK kvs) H1 → D.nx σ H1) : tDrop (tCall (spM R) [] E t) D σ H :=
  h H (Ex.refl H) _ fun H1 e1 => ⟨d, kvs, by rw [List.append_nil]; exact hR H1 e1, fun H2 m => q H2 (by
    obtain ⟨H3, e3, rfl⟩ := m
    exact ⟨H3, e1.trans e3, rfl⟩)⟩
end
theorem ddel_none {α : Type} {l : List (Tx × α)} {k : Tx} (h : dget l k = none) : ddel l k = l := by
  unfold ddel
  refine List.filter_eq_self.mpr fun q hq => ?_
  unfold dget at h
  have h2 := List.find?_eq_none.mp (Option.map_eq_none_iff.mp h) q hq
  exact decide_eq_true fun e => h2 (decide_eq_true e)
section
variable {α : Type} {f : α → V} {σ : L2.St} {H : Hp} {D : Ends} {tz : TS} {td tk tx : TE} {d : Addr} {l : List (Tx × α)} {k : Tx}
/-- d.pop(k, None) alone -/
theorem s_pop2D (hd : Ev td σ H (.ref d)) (hk : Ev tk σ H (vs k)) (hx : Ev tx σ H .non) (h : H d = some (.dK (kd f l))) (q : ∀ H1, Mu H d (.dK (kd f (ddel l k))) H1 → D.nx σ H1) : tDrop (tDPop2 td tk tx) D σ H :=
  hd H (Ex.refl H) _ fun H1 e1 => ⟨d, rfl, Or.inl ⟨_, Or.inl (e1 d _ h)⟩, hk H1 e1 _ fun H2 e2 => hx H2 (e1.trans e2) _ fun H3 e3 => ⟨kd f l, ky k, ((e1.trans e2).trans e3) d _ h, rfl, fun v _ => by
    rw [kd_del]
    exact q _ ⟨H3, (e1.trans e2).trans e3, rfl⟩, fun hv => by
    rw [kd_get] at hv
    have hn : dget l k = none := Option.map_eq_none_iff.mp hv
    refine q H3 ⟨H3, (e1.trans e2).trans e3, ?_⟩
    rw [ddel_none hn]
    exact (upd_self (((e1.trans e2).trans e3) d _ h)).symm⟩⟩
theorem q_pop2D (hd : Ev td σ H (.ref d)) (hk : Ev tk σ H (vs k)) (hx : Ev tx σ H .non) (h : H d = some (.dK (kd f l))) (q : ∀ H1, Mu H d (.dK (kd f (ddel l k))) H1 → tz D σ H1) : tSeq (tDrop (tDPop2 td tk tx)) tz D σ H :=
  s_pop2D (D := { D with nx := tz D }) hd hk hx h q
end
section
variable {K : PySem.W.Frag} {σ : L2.St} {H : Hp} {tl' te : TE} {ws : List Nat} {jx : Nat}
/-- a tuple for each of a new list -/
theorem u_mapN {γ : Type} {f : γ → V} {m : List γ} (g : γ → List V) (dv : γ) (h : EvL tl' σ H (m.map f)) (hz : m.length ≤ 40000)
    (he : ∀ y ∈ m, EvU te ((wipe σ ws).set jx (some (f y))) H (g y)) (hw : ∀ w, wipe ((wipe σ ws).set jx (some w)) ws = wipe σ ws := by exact fun _ => rfl) :
    EvU2 K (tLc (iList K tl') (gName jx) tYes te ws) σ H (m.map g) := by
  have q := u_filN (K := K) (t := tYes) (fun _ => true) g dv h hz (fun _ _ => et_yes) (fun y hy _ => he y hy) hw
  rw [filt_yes] at q
  exact q
end
section
variable {K : PySem.W.Frag} {σ : L2.St} {H : Hp} {t : TA}
/-- a told list of tuples, some of the arguments new -/
theorem u_callA {P : List V → Hp → Prop} {R : List V → Hp → List (List V) → Prop} {E : XK} {xs : List (List V)} (h : EvAx t σ H P) (hR : ∀ ws H1, Ex H H1 → P ws H1 → R ws H1 xs) : EvU2 K (tCall (spU2 K R) [] E t) σ H xs := fun H1 e Q q =>
  h H1 e _ fun ws H2 e2 hp => ⟨xs, by rw [List.append_nil]; exact hR ws H2 (e.trans e2) hp, fun p H3 np e3 h3 => q p H3 (fresh_back e2 np) (e2.trans e3) h3⟩
end
section
variable {K : PySem.W.Frag} {σ : L2.St} {H : Hp} {a1 a2 te : TE} {D : Ends} {tz tu : TS} {i : Nat} {l1 l2 : List (List V)}
/-- behind the first turn, the one name told anew -/
def M1 (K : PySem.W.Frag) (p f : Addr) (xs : List V) (i : Nat) (tu tz : TS) (D : Ends) : L2.St → Hp → Prop := fun σ2 H2 =>
  SqL K H2 p xs ∧ tu { D with nx := Nz K p xs tz D, ct := Nz K p xs tz D, bk := tz D } (σ2.set i (some (.ref f))) H2
/-- for a in [new list of tuples, new list of tuples] -/
theorem q_twoS (ha1 : EvU2 K a1 σ H l1) (ha2 : EvU2 K a2 σ H l2)
    (q : ∀ f1 f2 p H1, H f1 = none → H f2 = none → H p = none → f1 ≠ f2 → f1 ≠ p → f2 ≠ p → Ex H H1 → IsLU K H1 f1 l1 → IsLU K H1 f2 l2 → H1 p = some (.lst [.ref f1, .ref f2]) →
      tu { D with nx := M1 K p f2 [.ref f1, .ref f2] i tu tz D, ct := M1 K p f2 [.ref f1, .ref f2] i tu tz D, bk := tz D } (σ.set i (some (.ref f1))) H1) :
    tSeq (tFor (iList K (tLst (tCons a1 (tCons a2 tNil)))) (gName i) tu) tz D σ H :=
  ha1 H (Ex.refl H) _ fun f1 H1 n1 e1 h1 => ha2 H1 e1 _ fun f2 H2 n2 e2 h2 => ⟨sz_of (by simp), fun p np => by
    have e3 : Ex H2 (upd H2 p (.lst [.ref f1, .ref f2])) := Ex.new np
    have w1 := (h1.ex e2).ex e3
    have w2 := h2.ex e3
    have hp : (upd H2 p (.lst [.ref f1, .ref f2])) p = some (.lst [.ref f1, .ref f2]) := upd_same
    refine ⟨p, rfl, ⟨_, sq_of hp⟩, ?_⟩
    exact two_list (x1 := .ref f1) (x2 := .ref f2) (g := gName i) tu { D with nx := tz D } (M1 K p f2 [.ref f1, .ref f2] i tu tz D) (fun σ2 H5 z => z.1) (sq_of hp)
      (q f1 f2 p _ n1 (fresh_back e1 n2) (fresh_back (e1.trans e2) np) (h1.ne n2) ((h1.ex e2).ne np) (h2.ne np) ((e1.trans e2).trans e3) w1 w2 hp) fun σ2 H5 z => z.2⟩
end
/-! ## {a: b, c: d, e: f}.get(x, z) of numbers -/
def pick3 (a1 b1 a2 b2 a3 b3 x z : Int) : Int := if x = a1 then b1 else if x = a2 then b2 else if x = a3 then b3 else z
theorem pick3_val {a1 b1 a2 b2 a3 b3 x z : Int} (h : a1 ≠ a2 ∧ a1 ≠ a3 ∧ a2 ≠ a3) :
    (valV (mergeK [] [((Sum.inl a1 : Key), V.int b1), (Sum.inl a2, V.int b2), (Sum.inl a3, V.int b3)]) (Sum.inl x)).getD (V.int z) = V.int (pick3 a1 b1 a2 b2 a3 b3 x z) := by
  obtain ⟨n1, n2, n3⟩ := h
  have i1 : ¬ (Sum.inl a1 : Key) = Sum.inl a2 := fun e => n1 (Sum.inl.inj e)
  have i2 : ¬ (Sum.inl a1 : Key) = Sum.inl a3 := fun e => n2 (Sum.inl.inj e)
  have i3 : ¬ (Sum.inl a2 : Key) = Sum.inl a3 := fun e => n3 (Sum.inl.inj e)
  have hm : mergeK [] [((Sum.inl a1 : Key), V.int b1), (Sum.inl a2, V.int b2), (Sum.inl a3, V.int b3)] = [((Sum.inl a1 : Key), V.int b1), (Sum.inl a2, V.int b2), (Sum.inl a3, V.int b3)] := by
    simp [mergeK, putK, n1, n2, n3]
  rw [hm]
  unfold pick3
  by_cases c1 : x = a1
  · rw [if_pos c1, valV_pos (congrArg Sum.inl c1.symm)]
    rfl
  · rw [if_neg c1, valV_neg (fun e => c1 (Sum.inl.inj e).symm)]
    by_cases c2 : x = a2
    · rw [if_pos c2, valV_pos (congrArg Sum.inl c2.symm)]
      rfl
    · rw [if_neg c2, valV_neg (fun e => c2 (Sum.inl.inj e).symm)]
      by_cases c3 : x = a3
      · rw [if_pos c3, valV_pos (congrArg Sum.inl c3.symm)]
        rfl
      · rw [if_neg c3, valV_neg (fun e => c3 (Sum.inl.inj e).symm)]
        rfl
section
variable {σ : L2.St} {H : Hp} {k1 k2 k3 u1 u2 u3 tx tz : TE} {a1 b1 a2 b2 a3 b3 x z : Int}
theorem e_pick3 (c1 : ∀ H, Ev k1 σ H (.int a1)) (d1 : ∀ H, Ev u1 σ H (.int b1)) (c2 : ∀ H, Ev k2 σ H (.int a2)) (d2 : ∀ H, Ev u2 σ H (.int b2)) (c3 : ∀ H, Ev k3 σ H (.int a3)) (d3 : ∀ H, Ev u3 σ H (.int b3))
    (hx : Ev tx σ H (.int x)) (hz : Ev tz σ H (.int z)) (hn : a1 ≠ a2 ∧ a1 ≠ a3 ∧ a2 ≠ a3) : Ev (tDGet2 (tDisp [(k1, u1), (k2, u2), (k3, u3)]) tx tz) σ H (.int (pick3 a1 b1 a2 b2 a3 b3 x z)) := fun H0 e0 Q q p np =>
  have en : Ex H0 (upd H0 p (.dK [])) := Ex.new np
  c1 _ _ (Ex.refl _) _ fun H1 e1 => d1 _ _ (Ex.refl _) _ fun H2 e2 => c2 _ _ (Ex.refl _) _ fun H3 e3 => d2 _ _ (Ex.refl _) _ fun H4 e4 => c3 _ _ (Ex.refl _) _ fun H5 e5 => d3 _ _ (Ex.refl _) _ fun H6 e6 => by
    have e16 := ((((e1.trans e2).trans e3).trans e4).trans e5).trans e6
    have hp : H6 p = some (.dK []) := e16 p _ upd_same
    have eM : Ex H0 (upd H6 p (.dK (mergeK [] [((Sum.inl a1 : Key), V.int b1), (Sum.inl a2, V.int b2), (Sum.inl a3, V.int b3)]))) := Ex.mut (en.trans e16) np
    refine ⟨hp, [((Sum.inl a1 : Key), V.int b1), (Sum.inl a2, V.int b2), (Sum.inl a3, V.int b3)], rfl, by simp, p, rfl, Or.inl ⟨_, Or.inl upd_same⟩, ?_⟩
    refine hx _ (e0.trans eM) _ fun H7 e7 => hz H7 ((e0.trans eM).trans e7) _ fun H8 e8 => ⟨_, DGet.k (k := Sum.inl x) ((e7.trans e8) p _ upd_same), ?_⟩
    rw [pick3_val hn]
    exact q H8 ((eM.trans e7).trans e8)
end
/-! ## a number in a new list of numbers -/
theorem inV_int (n : Int) (l : List Int) : inV (.int n) (l.map V.int) = decide (n ∈ l) := by
  unfold inV
  rw [List.any_map]
  induction l with
  | nil => rfl
  | cons y r ih =>
    rw [List.any_cons, ih]
    show ((y == n) || _) = _
    by_cases h : y = n
    · subst h
      simp
    · have h2 : ¬ n = y := fun e => h e.symm
      simp [h, h2]
theorem flat_int (l : List Int) : (l.map V.int).all flatV = true := by
  rw [List.all_map]
  exact List.all_eq_true.mpr fun _ _ => rfl
theorem op_niK {X : Cx} (K : PySem.W.Frag) (h : X.K = K := by rfl) : OpR X (compareOp .NotIn) (rIn K true) := h ▸ op_notIn_seq
section
variable {K : PySem.W.Frag} {σ : L2.St} {H : Hp} {ta tb : TE} {n : Int} {l : List Int}
theorem e_inNI (ha : Ev ta σ H (.int n)) (hb : EvL tb σ H (l.map V.int)) : Ev (tOp (rIn K false) ta tb) σ H (.bl (decide (n ∈ l))) := inV_int n l ▸ ev_opL ha hb fun _ _ h _ => rv_isL (sq_of h) rfl (flat_int l)
theorem e_niNI (ha : Ev ta σ H (.int n)) (hb : EvL tb σ H (l.map V.int)) : Ev (tOp (rIn K true) ta tb) σ H (.bl (!decide (n ∈ l))) := inV_int n l ▸ ev_opL ha hb fun _ _ h _ => rv_niL (sq_of h) rfl (flat_int l)
end
/-! ## for x in a tuple that stands -/
section
variable {K : PySem.W.Frag} {σ : L2.St} {H : Hp} {tl' : TE} {D : Ends} {tz tu : TS}
theorem q_loopT {α S R : Type} {f : α → V} {l : List α} (step : S → α → Stp S R) (s0 : S) (Rep : S → L2.St → Hp → Prop) {j : Nat} {pl : Addr} (h : Ev tl' σ H (.ref pl)) (hS : SqT K H pl (l.map f)) (h0 : ∀ H1, Ex H H1 → Rep s0 σ H1)
    (hl : ∀ s σ1 H1, Rep s σ1 H1 → SqT K H1 pl (l.map f)) (hb : BodyOk tu D j f step l s0 Rep) (ho : OutOk tz D step l s0 Rep) : tSeq (tFor (iTup K tl') (gName j) tu) tz D σ H :=
  q_forT h hS (fun i σ1 H1 => ∃ s, runL step (l.take i) s0 = .go s ∧ Rep s σ1 H1) (fun H1 e => ⟨s0, rfl, h0 H1 e⟩) (fun i σ1 H1 _ ⟨s, _, p⟩ => hl s σ1 H1 p) (fun i x σ1 H1 hx p => by
    rw [List.getElem?_map] at hx
    cases hy : l[i]? with
    | none =>
      rw [hy] at hx
      cases hx
    | some y =>
      rw [hy] at hx
      have ex : f y = x := Option.some.inj hx
      subst ex
      exact loop_core hb ho hy p) (fun σ1 H1 p => loop_end ho (List.length_map _) p)
end
/-! ## what fits of a range -/
theorem given_range {α : Type} (n : Nat) (c : Nat → Bool) (g : Nat → α) (f : α → V) : given n c (fun k => f (g k)) = (((List.range n).filter c).map g).map f := by
  unfold given
  rw [List.map_map]
  rfl
section
variable {σ : L2.St} {H : Hp} {te : TE} {t : TT}
theorem l_filR {α : Type} {f : α → V} {ta' : TA} {jx : Nat} {ws : List Nat} {n : Int} (c : Nat → Bool) (g : Nat → α) (h : EvA ta' σ H [.int n]) (hn : 0 ≤ n ∧ n ≤ 40000) (ht : ∀ k : Nat, (k : Int) < n → EvT t ((wipe σ ws).set jx (some (.int (k : Int)))) H (c k))
    (he : ∀ k : Nat, (k : Int) < n → c k = true → Ev te ((wipe σ ws).set jx (some (.int (k : Int)))) H (f (g k)))
    (hw : ∀ w, wipe ((wipe σ ws).set jx (some w)) ws = wipe σ ws := by exact fun _ => rfl) : EvL (tLc (iRng1 ta') (gName jx) t te ws) σ H ((((List.range n.toNat).filter c).map g).map f) := by
  have q := el_lcR1 (t := t) (te := te) c (fun k => f (g k)) h hn hw (fun k H1 e hk => (ht k hk).mono e) (fun k H1 e hk hc => (he k hk hc).mono e)
  rw [given_range] at q
  exact q
end
end Vf

/-! Own layer: != of lists whose items are equal by a way of their own. -/
namespace PySem.SeqAt
open AutoSeq1 (wpAny_loadPart')
open MeetsSeq MeetsSeq2 MeetsSeq3 SeqRoads2
section
variable {P : Program} {w : World}
theorem vf_ne_loopIn (a b : Addr) (xs ys : Array Value) (m m2 : Nat) (d1 d2 : Option Addr) (z1 z2 : Array (Option Value)) (hsz : xs.size = ys.size) : ∀ (k i : Nat), xs.size - i = k →
    MeetsIn P w (Builtin.«list.__eq__.loop» ⟨[.ref a, .ref b, rawInt i, rawInt 3], []⟩)
      (fun A R s => s.heap.get? a = some { cls := .type "list", dict := d1, data := .seq xs m, slots := z1 } ∧ s.heap.get? b = some { cls := .type "list", dict := d2, data := .seq ys m2, slots := z2 } ∧
        (∀ j (h1 : j < xs.size) (h2 : j < ys.size), EqP P w A.in1 s xs[j] ys[j] true) ∧ R (.ok (.ret (.bool false))) s)
  | 0, i, hk => by
    intro A R s h
    obtain ⟨hp, g, d, tk, os⟩ := s
    obtain ⟨ha, hb, he, hR⟩ := h
    have f2 := AutoSeq1.sub_list_list
    have h1 : ¬ i < xs.size := by omega
    have h2 : ¬ i < ys.size := by omega
    wp_walk using wpAny_loadPart' ha, wpAny_loadPart' hb
    have g1 : xs[((i : Int)).toNat]? = none := by
      rw [Int.toNat_natCast]
      exact Array.getElem?_eq_none (by omega)
    rw [g1]
    wp_walk using wpAny_loadPart' ha, wpAny_loadPart' hb
    rw [hsz]
    show R (Except.ok (Flow.ret (Value.bool (ys.size != ys.size)))) _
    simpa using hR
  | k + 1, i, hk => by
    intro A R s h
    obtain ⟨hp, g, d, tk, os⟩ := s
    obtain ⟨ha, hb, he, hR⟩ := h
    have f2 := AutoSeq1.sub_list_list
    have h1 : i < xs.size := by omega
    have h2 : i < ys.size := by omega
    wp_walk using wpAny_loadPart' ha, wpAny_loadPart' hb
    have g1 : xs[((i : Int)).toNat]? = some xs[i] := by
      rw [Int.toNat_natCast]
      exact Array.getElem?_eq_getElem h1
    have g2 : ys[((i : Int)).toNat]? = some ys[i] := by
      rw [Int.toNat_natCast]
      exact Array.getElem?_eq_getElem h2
    rw [g1, g2]
    refine wpAny_bind (he i h1 h2 _ _ ?_)
    wp_walk
    refine ⟨Code.quiet_builtin _ (by decide +kernel), codeAny_builtin (by rfl) ?_⟩
    have e : rawInt ((i : Int) + 1) = rawInt ((i + 1 : Nat) : Int) := rfl
    rw [e]
    exact vf_ne_loopIn a b xs ys m m2 d1 d2 z1 z2 hsz k (i + 1) (by omega) A R _ ⟨ha, hb, he, hR⟩
theorem vf_list_neIn (a b : Addr) (xs ys : Array Value) (m m2 : Nat) (d1 d2 : Option Addr) (z1 z2 : Array (Option Value)) (hsz : xs.size = ys.size) :
    MeetsIn P w (Builtin.«list.__ne__» ⟨[.ref a, .ref b], []⟩)
      (fun A R s => s.heap.get? a = some { cls := .type "list", dict := d1, data := .seq xs m, slots := z1 } ∧ s.heap.get? b = some { cls := .type "list", dict := d2, data := .seq ys m2, slots := z2 } ∧
        (∀ j (h1 : j < xs.size) (h2 : j < ys.size), EqP P w A.in1 s xs[j] ys[j] true) ∧ R (.ok (.ret (.bool false))) s) := by
  intro A R s h
  obtain ⟨hp, g, d, tk, os⟩ := s
  obtain ⟨ha, hb, he, hR⟩ := h
  have f2 := AutoSeq1.sub_list_list
  wp_walk using wpAny_loadPart' ha, wpAny_loadPart' hb
  refine ⟨Code.quiet_builtin _ (by decide +kernel), codeAny_builtin (by rfl) ?_⟩
  exact vf_ne_loopIn a b xs ys m m2 d1 d2 z1 z2 hsz xs.size 0 (by omega) A R _ ⟨ha, hb, he, hR⟩
theorem vf_rcP_lists_ne {A : Around} {s : Shared} {a b : Addr} {xs ys : Array Value} (ha : s.heap.IsList a xs) (hb : s.heap.IsList b ys) (hsz : xs.size = ys.size) (hu : A.units < cLine)
    (he : ∀ j (h1 : j < xs.size) (h2 : j < ys.size), EqP P w A.in1 s xs[j] ys[j] true) (E Q : Value → Shared → Prop) (h : Q (.bool false) s) : wpAny (model P w) A (richCompare .NotEq (.ref a) (.ref b)) Q E s := by
  obtain ⟨⟨c1, e1, f1, z1⟩, ho, hc, m, hd⟩ := id ha
  obtain ⟨⟨c2, e2, f2, z2⟩, ho2, hc2, m2, hd2⟩ := id hb
  simp only at hc hd hc2 hd2
  subst hc hd hc2 hd2
  have ta : s.TypeIs (.ref a) "list" := ⟨_, ho, rfl⟩
  have tb : s.TypeIs (.ref b) "list" := ⟨_, ho2, rfl⟩
  exact wpAny_richCompare_same_room (op := .NotEq) ta tb F.slot_list_ne (call_meetsIn F.slot_list_ne ta F.entry_list_ne (F.args_list_ne_2 _ _) (vf_list_neIn a b xs ys m m2 e1 e2 z1 z2 hsz)
    ⟨ho, ho2, he, show Value.bool false ≠ Value.notImplemented ∧ Q (.bool false) s from ⟨(fun x => nomatch x), h⟩⟩) hu
end
end PySem.SeqAt
namespace Vf
open PySem PySem.Spec PyProof.Rows L2 TL Evl
section
variable {X : Cx} {pins : List (Addr × Obj)} {σ : L2.St} {H : Hp} {s : Shared}
theorem lists_in {A : Around} {F : V → V → Prop} (I : Inv X pins σ H s) (ih : ∀ x y v u, F x y → RelV x v → RelV y u → SeqAt.EqP X.prog X.w A.in1 s v u true) {a b : Addr} {xs ys : List V} (ha : SqL X.K H a xs) (hb : SqL X.K H b ys) (hp : Paired F xs ys) :
    ∃ us ws : Array Value, s.heap.IsList a us ∧ s.heap.IsList b ws ∧ us.size = ws.size ∧ ∀ j (h1 : j < us.size) (h2 : j < ws.size), SeqAt.EqP X.prog X.w A.in1 s us[j] ws[j] true := by
  obtain ⟨us, r1, p1, _⟩ := I.list ha
  obtain ⟨ws, r2, p2, _⟩ := I.list hb
  have g : ∀ {c : Addr} {vs : Array Value}, PlainL s.heap c vs → s.heap.IsList c vs := fun z => by
    obtain ⟨o, n, ho, hc, _, hd⟩ := z
    exact ⟨o, ho, hc, n, hd⟩
  refine ⟨us.toArray, ws.toArray, g p1, g p2, ?_, fun j h1 h2 => ?_⟩
  · rw [List.size_toArray, List.size_toArray, ← r1.length, ← r2.length]
    exact paired_len hp
  · have k := items_run ih hp r1 r2 j (by simpa using h1) (by simpa using h2)
    simpa using k
/-- not unequal: two lists -/
def rQNeL (K : PySem.W.Frag) : R2 := fun x y H Q => ∃ n, n ≤ 60 ∧ (∃ a b xs ys, x = .ref a ∧ y = .ref b ∧ SqL K H a xs ∧ SqL K H b ys ∧ Paired (QV K H n) xs ys) ∧ Q (.bl false) H
theorem op_qNeLK (K : PySem.W.Frag) (hu : X.A.units + 64 < cLine) (h : X.K = K := by rfl) : OpR X (compareOp .NotEq) (rQNeL K) := by
  subst h
  intro pins s σ H x y v u Q I rx ry ⟨n, hn, ⟨a, b, xs, ys, e1, e2, ha, hb, hp⟩, q⟩
  subst e1 e2
  cases (show v = Value.ref a from rx)
  cases (show u = Value.ref b from ry)
  obtain ⟨us, ws, p1, p2, hsz, hj⟩ := lists_in (A := X.A) I (qV_run I n X.A.in1 (by show X.A.units + 1 + n < cLine; omega)) ha hb hp
  exact SeqAt.vf_rcP_lists_ne p1 p2 hsz (by omega) hj _ _ ⟨.bl false, H, I, rfl, q⟩
end
section
variable {K : PySem.W.Frag} {σ : L2.St} {H H1 H2 : Hp} {ta tb tc te td tl' tq : TE} {p pl a b c d : Addr} {i j jx jy : Nat} {ws ws1 : List Nat} {D : Ends} {tz tu : TS} {k1 k2 k3 k4 : List (Key × V)}
theorem e_neLs {xs ys : List V} (h : EvL ta σ H xs) (hb : Ev tb σ H (.ref p)) (hp : H p = some (.lst ys)) (hq : ∀ H1, Ex H H1 → Paired (QV K H1 2) xs ys) : Ev (tOp (rQNeL K) ta tb) σ H (.bl false) := fun H1 e1 Q q =>
  h H1 e1 _ fun r H2 _ e2 hr => hb H2 (e1.trans e2) _ fun H3 e3 => ⟨2, by decide, ⟨r, p, xs, ys, rfl, rfl, sq_of (e3 r _ hr), sq_of (((e1.trans e2).trans e3) p _ hp), hq H3 ((e1.trans e2).trans e3)⟩, q H3 (e2.trans e3)⟩
theorem e_eqLs {xs ys : List V} (h : EvL ta σ H xs) (hb : Ev tb σ H (.ref p)) (hp : H p = some (.lst ys)) (hq : ∀ H1, Ex H H1 → Paired (QV K H1 2) xs ys) : Ev (tOp (rQEq K) ta tb) σ H (.bl true) := fun H1 e1 Q q =>
  h H1 e1 _ fun r H2 _ e2 hr => hb H2 (e1.trans e2) _ fun H3 e3 => ⟨2, by decide, Or.inl (Or.inl ⟨r, p, xs, ys, rfl, rfl, sq_of (e3 r _ hr), sq_of (((e1.trans e2).trans e3) p _ hp), hq H3 ((e1.trans e2).trans e3)⟩), q H3 (e2.trans e3)⟩
/-- a dict of texts or nothing and its copy -/
theorem flat_vo (x : Option Tx) : flatB (vo x) = true := by cases x <;> rfl
theorem qv_dictO {l : List (Tx × Option Tx)} (hn : (dkeys l).Nodup) (h1 : H a = some (.dK (kd vo l))) (h2 : H b = some (.dK (kd vo l))) : QV K H 2 (.ref a) (.ref b) := by
  refine Or.inr (Or.inr (Or.inl (Or.inr ⟨a, b, _, _, rfl, rfl, h1, h2, rfl, fun q hq => ?_⟩)))
  unfold kd at hq
  obtain ⟨x, hx, rfl⟩ := List.mem_map.mp hq
  refine ⟨vo x.2, ?_, Or.inl ⟨rfl, flat_vo _⟩⟩
  show valV (kd vo l) (ky x.1) = some (vo x.2)
  rw [kd_get, get_of hn hx]
  rfl
theorem q_asgL4 (ha : EvK ta σ H k1) (hb : EvK tb σ H k2) (hc : EvK tc σ H k3) (hd : EvK td σ H k4)
    (q : ∀ p a b c d H1, H p = none → H a = none → H b = none → H c = none → H d = none → a ≠ b → a ≠ c → a ≠ d → b ≠ c → b ≠ d → c ≠ d → Ex H H1 → H1 p = some (.lst [.ref a, .ref b, .ref c, .ref d]) → H1 a = some (.dK k1) → H1 b = some (.dK k2) → H1 c = some (.dK k3) → H1 d = some (.dK k4) → tz D (σ.set i (some (.ref p))) H1) :
    tSeq (tAsg (tLst (tCons ta (tCons tb (tCons tc (tCons td tNil))))) (gName i)) tz D σ H :=
  ha H (Ex.refl H) _ fun a H1 na e1 h1 => hb H1 e1 _ fun b H2 nb e2 h2 => hc H2 (e1.trans e2) _ fun c H3 nc e3 h3 => hd H3 ((e1.trans e2).trans e3) _ fun d H4 nd e4 h4 => ⟨sz_of (by simp), fun p np =>
    q p a b c d _ (fresh_back (((e1.trans e2).trans e3).trans e4) np) na (fresh_back e1 nb) (fresh_back (e1.trans e2) nc) (fresh_back ((e1.trans e2).trans e3) nd) (ne_of_none h1 nb) (ne_of_none (e2 a _ h1) nc) (ne_of_none (e3 a _ (e2 a _ h1)) nd) (ne_of_none h2 nc) (ne_of_none (e3 b _ h2) nd) (ne_of_none h3 nd)
      ((((e1.trans e2).trans e3).trans e4).trans (Ex.new np)) upd_same (Ex.new np a _ (e4 a _ (e3 a _ (e2 a _ h1)))) (Ex.new np b _ (e4 b _ (e3 b _ h2))) (Ex.new np c _ (e4 c _ h3)) (Ex.new np d _ h4)⟩
theorem e_niR {l : List Tx} {p : Tx} (ha : Ev ta σ H (vs p)) (hb : Ev tb σ H (.ref pl)) (hS : SqL K H pl (l.map vs)) : Ev (tOp (rIn K true) ta tb) σ H (.bl (!decide (p ∈ l))) := fun H1 e Q q =>
  ha H1 e _ fun H2 e2 => hb H2 (e.trans e2) _ fun H3 e3 => ⟨pl, l.map vs, rfl, Or.inl (ex_l ((e.trans e2).trans e3) hS), rfl, flat_vs l, by
    rw [if_pos rfl, inV_vs p l]
    exact q H3 (e2.trans e3)⟩
/-- three dicts told as a list -/
theorem rd_three {a0 a1 a2 : Addr} {d0 d1 d2 : List (Tx × Tx)} {i : Int} (h0 : Rd H a0 (.dK (kd vs d0))) (h1 : Rd H a1 (.dK (kd vs d1))) (h2 : Rd H a2 (.dK (kd vs d2))) (hi : 0 ≤ i ∧ i ≤ 2) :
    Rd H ([a0, a1, a2].getD i.toNat 0) (.dK (kd vs ([d0, d1, d2].getD i.toNat []))) := by
  have h : i = 0 ∨ i = 1 ∨ i = 2 := by omega
  rcases h with e | e | e
  · rw [e]
    exact h0
  · rw [e]
    exact h1
  · rw [e]
    exact h2
/-- [x for q in new list of tuples for x in q] -/
theorem l_flatU {l : List (List Tx)} (h : EvU2 K tl' σ H (l.map (List.map vs))) (hz : l.flatten.length ≤ 90000)
    (hin : ∀ (a : Addr) H5, Ev tq ((wipe σ ws).set jx (some (.ref a))) H5 (.ref a))
    (he : ∀ (a : Addr) (p : Tx) H5, Ev te ((wipe ((wipe σ ws).set jx (some (.ref a))) ws1).set jy (some (vs p))) H5 (vs p))
    (hw : ∀ v, wipe ((wipe σ ws).set jx (some v)) ws = wipe σ ws := by exact fun _ => rfl)
    (hw1 : ∀ v v2, wipe ((wipe ((wipe σ ws).set jx (some v)) ws1).set jy (some v2)) ws1 = wipe ((wipe σ ws).set jx (some v)) ws1 := by exact fun _ _ => rfl) :
    EvL (tLc2 (iList K tl') (gName jx) tYes (iTup K tq) (gName jy) tYes te ws ws1) σ H (l.flatten.map vs) := fun H0 e0 Q q => h H0 e0 _ fun pl H1 npl e1 hU => by
  obtain ⟨ts, h1, h3⟩ := hU
  have hlen : ts.length = l.length := by rw [paired_len h3, List.length_map]
  refine ⟨pl, rfl, ⟨_, sq_of h1⟩, fun Dl hD => ?_⟩
  refine ⟨fun k m H5 => m = l.length - k ∧ k ≤ l.length ∧ Ex H1 H5 ∧ H5 Dl = some (.lst (((l.take k).flatten).map vs)), ⟨l.length, by simp, Nat.zero_le _, Ex.new hD, upd_same⟩, fun k m H5 hW => ?_⟩
  obtain ⟨rfl, hk, e2, hu⟩ := hW
  by_cases hlt : k < l.length
  · have hts : k < ts.length := by omega
    have hat : (ts.map V.ref)[k]? = some (.ref ts[k]) := by rw [List.getElem?_map, List.getElem?_eq_getElem hts]; rfl
    refine Or.inr ⟨⟨_, _, sq_of (e2 pl _ h1), hat⟩, fun H6 => Ex H1 H6 ∧ H6 Dl = some (.lst (((l.take (k + 1)).flatten).map vs)), fun H6 h6 => ⟨l.length - (k + 1), by omega, rfl, hlt, h6.1, h6.2⟩, fun x H6 hy => ?_⟩
    obtain ⟨rfl, hx⟩ := hy
    have hx2 := hx _ (sq_of (e2 pl _ h1))
    obtain ⟨a, y, rfl, hy2, ha⟩ := tup_at (ts := ts) (i := k) h3 hx2
    have hst : (l.take (k + 1)).flatten = (l.take k).flatten ++ l[k] := by
      rw [List.take_add_one, List.getElem?_eq_getElem hlt, List.flatten_append]
      simp
    have ey : l[k].map vs = y := by
      rw [List.getElem?_map, List.getElem?_eq_getElem hlt] at hy2
      exact Option.some.inj hy2
    subst ey
    have hfl : ((l.take k).flatten).length + l[k].length ≤ 90000 := by
      have h7 : ((l.take (k + 1)).flatten).length ≤ l.flatten.length := by
        conv => rhs; rw [← List.take_append_drop (k + 1) l, List.flatten_append, List.length_append]
        omega
      rw [hst, List.length_append] at h7
      omega
    refine ⟨hw _, ?_⟩
    refine @yes_go _ False ?_
    rw [if_pos rfl]
    refine hin a H6 H6 (Ex.refl H6) _ fun H7 e7 => ⟨a, rfl, ⟨_, ex_t (e2.trans e7) ha⟩, ?_⟩
    refine ⟨fun j m H8 => m = l[k].length - j ∧ j ≤ l[k].length ∧ Ex H1 H8 ∧ H8 Dl = some (.lst ((((l.take k).flatten) ++ l[k].take j).map vs)), ⟨l[k].length, by simp, Nat.zero_le _, e2.trans e7, by rw [List.take_zero, List.append_nil]; exact e7 Dl _ hu⟩, fun j m H8 hW8 => ?_⟩
    obtain ⟨rfl, hj, e8, hu8⟩ := hW8
    by_cases hlj : j < l[k].length
    · have hjat : (l[k].map vs)[j]? = some (vs l[k][j]) := by rw [List.getElem?_map, List.getElem?_eq_getElem hlj]; rfl
      refine Or.inr ⟨⟨_, _, ex_t e8 ha, hjat⟩, fun H9 => Ex H1 H9 ∧ H9 Dl = some (.lst ((((l.take k).flatten) ++ l[k].take (j + 1)).map vs)), fun H9 h9 => ⟨l[k].length - (j + 1), by omega, rfl, hlj, h9.1, h9.2⟩, fun x2 H9 hy9 => ?_⟩
      obtain ⟨rfl, hx9⟩ := hy9
      have hx10 := hx9 _ (ex_t e8 ha)
      rw [hjat] at hx10
      obtain rfl := Option.some.inj hx10
      refine ⟨hw1 _ _, ?_⟩
      refine @yes_go _ False ?_
      rw [if_pos rfl]
      refine he a _ H9 H9 (Ex.refl H9) _ fun H10 e10 => ⟨_, e10 Dl _ hu8, sz_lt ?_, Ex.mut (e8.trans e10) hD, ?_⟩
      · rw [List.length_map, List.length_append, List.length_take]
        omega
      · have e11 : (l.take k).flatten ++ l[k].take (j + 1) = ((l.take k).flatten ++ l[k].take j) ++ [l[k][j]] := by
          rw [List.take_add_one, List.getElem?_eq_getElem hlj, List.append_assoc]
          rfl
        rw [upd_same, e11, List.map_append (l₂ := [l[k][j]])]
        rfl
    · have ej : j = l[k].length := by omega
      subst ej
      rw [List.take_length] at hu8
      refine Or.inl ⟨⟨_, ex_t e8 ha, by rw [List.length_map]; exact Nat.le_refl _⟩, e8, ?_⟩
      rw [hst]
      exact hu8
  · have ek : k = l.length := by omega
    subst ek
    rw [List.take_length] at hu
    exact Or.inl ⟨⟨_, sq_of (e2 pl _ h1), by rw [List.length_map, hlen]; exact Nat.le_refl _⟩, q Dl H5 (fresh_back e1 hD) (e1.trans e2) hu⟩

/-! ## for a, b in d.items() -/
/-- of a loop over the pairs of a dict: the body at a pair -/
def BodyOkI {S R α : Type} (tu : TS) (D : Ends) (i j : Nat) (f : α → V) (step : S → Tx × α → Stp S R) (l : List (Tx × α)) (s0 : S) (Rep : S → L2.St → Hp → Prop) : Prop :=
  ∀ (Nx Bk : L2.St → Hp → Prop) (n : Nat) (s : S) (y : Tx × α) (σ1 : L2.St) (H1 : Hp), l[n]? = some y → runL step (l.take n) s0 = .go s → Rep s σ1 H1 → (∀ s2 σ2 H2, step s y = .go s2 → Rep s2 σ2 H2 → Nx σ2 H2) → (∀ s2 σ2 H2, step s y = .brk s2 → Rep s2 σ2 H2 → Bk σ2 H2) →
    (∀ r, step s y = .ret r → runL step l s0 = .ret r) → tu { D with nx := Nx, ct := Nx, bk := Bk } ((σ1.set i (some (vs y.1))).set j (some (f y.2))) H1
theorem items_walk {S R α : Type} {f : α → V} {l : List (Tx × α)} {step : S → Tx × α → Stp S R} {s0 : S} {Rep : S → L2.St → Hp → Prop} {n : Nat} {o : Obj} {D' : Ends} (hσ : σ[n]? = some (some (.ref d))) (hd : H d = some (.frz o (.dK (kd f l)))) (h0 : Rep s0 σ H)
    (hk : ∀ s σ1 H1, Rep s σ1 H1 → H1 d = some (.frz o (.dK (kd f l)))) (hg : ∀ s σ1 H1 H2, Rep s σ1 H1 → Ex H1 H2 → Rep s σ1 H2) (hb : BodyOkI tu D' i j f step l s0 Rep)
    (ho : ∀ s σ1 H1, (runL step l s0 = .go s ∨ runL step l s0 = .brk s) → Rep s σ1 H1 → D'.nx σ1 H1) : tFor (iItems (tVar n)) (gTup K 2 (gCons (gName i) (gCons (gName j) gNil))) tu D' σ H := by
  refine ⟨.ref d, hσ, d, o, kd f l, rfl, hd, ?_⟩
  refine ⟨fun n m σ1 H2 => m = l.length - n ∧ n ≤ l.length ∧ ∃ s, runL step (l.take n) s0 = .go s ∧ Rep s σ1 H2, ⟨l.length, by simp, Nat.zero_le _, s0, rfl, h0⟩, fun n m σ1 H2 hW => ?_⟩
  obtain ⟨rfl, hn, s, hr, hp⟩ := hW
  by_cases hlt : n < l.length
  · refine Or.inr ⟨⟨hk s σ1 H2 hp, by rw [kd_len]; exact hlt⟩, fun σ2 H3 => ∃ s, runL step (l.take (n + 1)) s0 = .go s ∧ Rep s σ2 H3, fun σ2 H3 h3 => ⟨l.length - (n + 1), by omega, rfl, hlt, h3⟩, fun w H3 hy => ?_⟩
    obtain ⟨T, kk, vv, hkv, rfl, nT, rfl⟩ := hy
    have hy2 : l[n]? = some l[n] := List.getElem?_eq_getElem hlt
    have ekv : kV kk = vs l[n].1 ∧ vv = f l[n].2 := by
      unfold kd at hkv
      rw [List.getElem?_map, hy2] at hkv
      have e1 : ky l[n].1 = kk := congrArg Prod.fst (Option.some.inj hkv)
      have e2 : f l[n].2 = vv := congrArg Prod.snd (Option.some.inj hkv)
      rw [← e1, ← e2]
      exact ⟨rfl, rfl⟩
    rw [ekv.1, ekv.2]
    have hnx := runL_next hr hy2
    refine ⟨T, _, rfl, st_of upd_same, rfl, _, _, rfl, _, _, rfl, rfl, ?_⟩
    exact hb _ _ n s _ σ1 _ hy2 hr (hg s σ1 H2 _ hp (Ex.new nT)) (fun s2 σ2 H2 e q => ⟨s2, hnx.trans e, q⟩) (fun s2 σ2 H2 e q => ho s2 σ2 H2 (Or.inr (runL_out (hnx.trans e) (fun _ z => by cases z))) q) (fun r e => runL_out (hnx.trans e) (fun _ z => by cases z))
  · have en : n = l.length := by omega
    subst en
    rw [List.take_length] at hr
    exact Or.inl ⟨⟨hk s σ1 H2 hp, by rw [kd_len]; exact Nat.le_refl _⟩, ho s σ1 H2 (Or.inl hr) hp⟩
theorem q_loopI {S R α : Type} {f : α → V} {l : List (Tx × α)} (step : S → Tx × α → Stp S R) (s0 : S) (Rep : HO → Obj → S → L2.St → Hp → Prop) {n : Nat} (hσ : σ[n]? = some (some (.ref d))) (hd : Rd H d (.dK (kd f l)))
    (h0 : ∀ U o, H d = some U → (U = .dK (kd f l) ∨ U = .frz o (.dK (kd f l))) → Rep U o s0 σ (upd H d (.frz o (.dK (kd f l)))))
    (hk : ∀ U o s σ1 H1, Rep U o s σ1 H1 → H1 d = some (.frz o (.dK (kd f l))))
    (hg : ∀ U o s σ1 H1 H2, Rep U o s σ1 H1 → Ex H1 H2 → Rep U o s σ1 H2)
    (hb : ∀ U o (Rt : VK), H d = some U → (U = .dK (kd f l) ∨ U = .frz o (.dK (kd f l))) → (∀ v H1, H1 d = some (.frz o (.dK (kd f l))) → D.rt v (upd H1 d U) → Rt v H1) → BodyOkI tu { D with rt := Rt } i j f step l s0 (Rep U o))
    (ho : ∀ U o s σ1 H1, H d = some U → (U = .dK (kd f l) ∨ U = .frz o (.dK (kd f l))) → (runL step l s0 = .go s ∨ runL step l s0 = .brk s) → Rep U o s σ1 H1 → tz D σ1 (upd H1 d U)) :
    tSeq (tMay (tFor (iItems (tVar n)) (gTup K 2 (gCons (gName i) (gCons (gName j) gNil))) tu)) tz D σ H := by
  rcases hd with h | ⟨o, h⟩
  · refine Or.inr ⟨d, .dK (kd f l), h, trivial, fun od => ?_⟩
    have hb2 := hb (.dK (kd f l)) od (fun v H1 => H1 d = some (.frz od (.dK (kd f l))) ∧ D.rt v (upd H1 d (.dK (kd f l)))) h (Or.inl rfl) (fun v H1 a b => ⟨a, b⟩)
    exact items_walk (K := K) (Rep := Rep (.dK (kd f l)) od) hσ upd_same (h0 _ od h (Or.inl rfl)) (hk _ od) (hg _ od) hb2 (fun s σ1 H1 hr hp => ⟨hk _ od s σ1 H1 hp, ho _ od s σ1 H1 h (Or.inl rfl) hr hp⟩)
  · have hb2 := hb (.frz o (.dK (kd f l))) o D.rt h (Or.inr rfl) (fun v H1 a b => by rw [upd_self a] at b; exact b)
    have h02 := h0 _ o h (Or.inr rfl)
    rw [upd_self h] at h02
    exact Or.inl (items_walk (K := K) (Rep := Rep (.frz o (.dK (kd f l))) o) hσ h h02 (hk _ o) (hg _ o) hb2 (fun s σ1 H1 hr hp => by
      have q := ho _ o s σ1 H1 h (Or.inr rfl) hr hp
      rw [upd_self (hk _ o s σ1 H1 hp)] at q
      exact q))
/-! ## for a, b in [(x, y), (z, w)], all known -/
theorem q_twoR {tx1 ty1 tx2 ty2 : TE} {x1 y1 x2 y2 : V} (hx1 : ∀ H, Ev tx1 σ H x1) (hy1 : ∀ H, Ev ty1 σ H y1) (hx2 : ∀ H, Ev tx2 σ H x2) (hy2 : ∀ H, Ev ty2 σ H y2)
    (q : ∀ u1 u2 p H1, H p = none → Ex H H1 → H1 p = some (.lst [.ref u1, .ref u2]) → SqT K H1 u2 [x2, y2] →
      tu { D with nx := N1 K p u2 [.ref u1, .ref u2] x2 y2 i j tu tz D, ct := N1 K p u2 [.ref u1, .ref u2] x2 y2 i j tu tz D, bk := tz D } ((σ.set i (some x1)).set j (some y1)) H1) :
    tSeq (tFor (iList K (tLst (tCons (tTup (tCons tx1 (tCons ty1 tNil))) (tCons (tTup (tCons tx2 (tCons ty2 tNil))) tNil)))) (gTup K 2 (gCons (gName i) (gCons (gName j) gNil))) tu) tz D σ H :=
  q_two fun Q k => hx1 H H (Ex.refl H) _ fun H1 e1 => hy1 H1 H1 (Ex.refl H1) _ fun H2 e2 => ⟨sz_of (by simp), fun u1 m1 =>
    have e3 : Ex H (upd H2 u1 (.tup [x1, y1])) := (e1.trans e2).trans (Ex.new m1)
    hx2 _ _ (Ex.refl _) _ fun H4 e4 => hy2 H4 H4 (Ex.refl H4) _ fun H5 e5 => ⟨sz_of (by simp), fun u2 m2 =>
      have e6 : Ex H5 (upd H5 u2 (.tup [x2, y2])) := Ex.new m2
      ⟨sz_of (by simp), fun p np => by
        have e7 : Ex (upd H5 u2 (.tup [x2, y2])) (upd (upd H5 u2 (.tup [x2, y2])) p (.lst [.ref u1, .ref u2])) := Ex.new np
        have s1 : SqT K (upd H2 u1 (.tup [x1, y1])) u1 [x1, y1] := st_of upd_same
        have s2 : SqT K (upd H5 u2 (.tup [x2, y2])) u2 [x2, y2] := st_of upd_same
        have eall : Ex H (upd (upd H5 u2 (.tup [x2, y2])) p (.lst [.ref u1, .ref u2])) := (((e3.trans e4).trans e5).trans e6).trans e7
        have npH : H p = none := fresh_back (((e3.trans e4).trans e5).trans e6) np
        exact k p x1 x2 y1 y2 u1 u2 _ eall npH upd_same (ex_t (((e4.trans e5).trans e6).trans e7) s1) (ex_t e7 s2) (q u1 u2 p _ npH eall upd_same (ex_t e7 s2))⟩⟩⟩
end
/-! ## a dict or None -/
def optM {α β : Type} (r : Option α) (g : α → β) (x : β) : β := match r with
  | some a => g a
  | none => x
def RetNd (r : Option (List (Tx × Tx))) (H : Hp) (Q : VK) : Prop := match r with
  | none => RetV .non H Q
  | some l => RetK (kd vs l) H Q
def spNd (R : List V → Hp → Option (List (Tx × Tx)) → Prop) : Sp := fun ws H Q _ => ∃ r, R ws H r ∧ RetNd r H Q
section
variable {α : Type} {K : PySem.W.Frag} {σ : L2.St} {H : Hp} {D : Ends} {tz : TS} {i : Nat} {r : Option (List (Tx × Tx))} {Q : VK} {S : Type}
theorem retNd_T {b : Bool} {x y : Option (List (Tx × Tx))} (k : RetNd (if b = true then x else y) H Q) (hb : b = true) : RetNd x H Q := by
  rw [if_pos hb] at k
  exact k
theorem retNd_F {b : Bool} {x y : Option (List (Tx × Tx))} (k : RetNd (if b = true then x else y) H Q) (hb : b = false) : RetNd y H Q := by
  rw [hb, if_neg Bool.false_ne_true] at k
  exact k
theorem retNd_run {o : Stp S (Option (List (Tx × Tx)))} {g : S → Option (List (Tx × Tx))} {r : Option (List (Tx × Tx))} (k : RetNd (aftL o g) H Q) (h : o = .ret r) : RetNd r H Q := by
  rw [h] at k
  exact k
theorem retNd_go {o : Stp S (Option (List (Tx × Tx)))} {g : S → Option (List (Tx × Tx))} {s : S} (k : RetNd (aftL o g) H Q) (h : o = .go s ∨ o = .brk s) : RetNd (g s) H Q := by
  rcases h with h | h
  · rw [h] at k
    exact k
  · rw [h] at k
    exact k
theorem q_asgN {R : List V → Hp → Option (List (Tx × Tx)) → Prop} {t : TA} {E : XK} {ws : List V} (h : EvA t σ H ws) (hR : ∀ H1, Ex H H1 → R ws H1 r)
    (ho : ∀ l, r = some l → ∀ p H1, H p = none → Ex H H1 → H1 p = some (.dK (kd vs l)) → tz D (σ.set i (some (.ref p))) H1) (hn : r = none → ∀ H1, Ex H H1 → tz D (σ.set i (some .non)) H1) :
    tSeq (tAsg (tCall (spNd R) [] E t) (gName i)) tz D σ H :=
  h H (Ex.refl H) _ fun H1 e1 => ⟨r, by rw [List.append_nil]; exact hR H1 e1, by
    cases hr : r with
    | none => exact fun H2 e2 => hn hr H2 (e1.trans e2)
    | some l => exact fun p H2 np e2 hp => ho l hr p H2 (fresh_back e1 np) (e1.trans e2) hp⟩
theorem ret_some {β : Type} {f : β → V} {r : Option α} {g : α → β} {x : β} {a : α} (k : RetV (f (optM r g x)) H Q) (h : r = some a) : RetV (f (g a)) H Q := by
  rw [h] at k
  exact k
theorem ret_none {β : Type} {f : β → V} {r : Option α} {g : α → β} {x : β} (k : RetV (f (optM r g x)) H Q) (h : r = none) : RetV (f x) H Q := by
  rw [h] at k
  exact k
/-- x is None, of a thing -/
theorem e_isNR {ta tb : TE} {p : Addr} (ha : Ev ta σ H (.ref p)) (hb : Ev tb σ H .non) : Ev (tOp rIsN ta tb) σ H (.bl false) := ev_op ha hb (fun H1 e1 Q q => ⟨rfl, by
  rw [decide_eq_false (fun z => nomatch z)]
  exact q H1 (Ex.refl H1)⟩)
theorem e_isNN {ta tb : TE} (ha : Ev ta σ H .non) (hb : Ev tb σ H .non) : Ev (tOp rIsN ta tb) σ H (.bl true) := ev_op ha hb (fun H1 e1 Q q => ⟨rfl, by
  rw [decide_eq_true rfl]
  exact q H1 (Ex.refl H1)⟩)
end
section
variable {K : PySem.W.Frag} {σ : L2.St} {H : Hp} {te ta tb : TE} {t tr : TA} {P : List V → Hp → Prop}
theorem e_notBl {a b : Bool} (ha : Ev ta σ H (.bl a)) (hb : Ev tb σ H (.bl b)) : Ev (tOp rNotB ta tb) σ H (.bl (!decide (a = b))) := ev_op ha hb (fun H1 e1 Q q => ⟨a, b, rfl, rfl, q H1 (Ex.refl H1)⟩)
theorem ax_l {xs : List V} (h : EvL te σ H xs) (hr : EvAx tr σ H P) : EvAx (tCons te tr) σ H (fun ws H2 => ∃ p w2, ws = .ref p :: w2 ∧ H2 p = some (.lst xs) ∧ P w2 H2) := fun H1 e Q q => h H1 e _ fun p H2 _ e2 h2 => hr H2 (e.trans e2) _ fun ws H3 e3 hp => q (.ref p :: ws) H3 (e2.trans e3) ⟨p, ws, rfl, e3 p _ h2, hp⟩
theorem k_callA {R : List V → Hp → List (Key × V) → Prop} {E : XK} {kvs : List (Key × V)} (h : EvAx t σ H P) (hR : ∀ ws H1, Ex H H1 → P ws H1 → R ws H1 kvs) : EvK (tCall (spK R) [] E t) σ H kvs := fun H1 e Q q =>
  h H1 e _ fun ws H2 e2 hp => ⟨kvs, by rw [List.append_nil]; exact hR ws H2 (e.trans e2) hp, fun p H3 np e3 h3 => q p H3 (fresh_back e2 np) (e2.trans e3) h3⟩
end
/-! ## a raise out of a walk over a dict -/
theorem takes_un {X : Cx} {W : Value → Option Addr → L2N.St → Hp → Prop} (h : L2N.Takes X W) : L2N.Takes X fun cls d σ H => W cls d σ H ∨ ∃ dd od u, H dd = some (.frz od u) ∧ (∀ o' u', X.H_0 dd ≠ some (.frz o' u')) ∧ W cls d σ (upd H dd u) := by
  intro u s' hx
  obtain ⟨a, B, sI, pins, σ, H, cls, d, e1, I, h1, h2, h3, h4, h5, h6, h7⟩ := hx
  rcases h7 with h7 | ⟨dd, od, v, hd, h0, h7⟩
  · exact h u s' ⟨a, B, sI, pins, σ, H, cls, d, e1, I, h1, h2, h3, h4, h5, h6, h7⟩
  · refine h u s' ⟨a, B, sI, pins, σ, upd H dd v, cls, d, e1, I.unlock hd h0, h1, h2, h3, ?_, h5, h6, h7⟩
    have ne : a ≠ dd := fun z => by
      rw [z, hd] at h4
      cases h4
    show (if a = dd then some v else H a) = none
    rw [if_neg ne]
    exact h4
theorem exc_may {H H1 HX : Hp} {d : Addr} {U : HO} {o : Obj} {kvs : List (Key × V)} {B : Hp → Prop} (e1 : Ex H H1) (hU : H1 d = some U) (hUd : U = .dK kvs ∨ U = .frz o (.dK kvs)) (h : HX d = some (.frz o (.dK kvs))) (e : Ex H (unl [(d, U)] HX))
    (k : ∀ H2, Ex H H2 → B H2) : B HX ∨ ∃ dd od u, HX dd = some (.frz od u) ∧ (∀ o' u', H dd ≠ some (.frz o' u')) ∧ B (upd HX dd u) := by
  have e2 : Ex H (upd HX d U) := e
  rcases hUd with z | z
  · subst z
    refine Or.inr ⟨d, o, .dK kvs, h, fun o' u' z => ?_, k _ e2⟩
    have := e1 d _ z
    rw [hU] at this
    cases this
  · subst z
    rw [upd_self h] at e2
    exact Or.inl (k _ e2)
end Vf

/-! Own layer: sets of numbers. -/
namespace Vf
open PySem PySem.Spec PyProof.Rows L2 TL Evl
theorem kds_of_code {K : PySem.W.Frag} {cd : Value} {q : Str} (h : PySem.W.codeIn K cd q = true) : PySem.W.kdsCode K cd = true := by
  unfold PySem.W.codeIn at h
  unfold PySem.W.kdsCode
  cases cd with
  | ref c =>
    dsimp only at h ⊢
    split at h
    · rename_i heq
      rw [heq]
    · cases h
  | _ => cases h
section
variable {P : Program} {w : World} {K : PySem.W.Frag} {mg : Str → Option Value} {base : Heap}
theorem okC {CX : CXT} {x qual : Str} {st : Stmt} {f : Addr} {fd : FuncData} {N ps : List Str} {k : Nat} {sp : Sp} (F : Fun K x qual st f fd) (S : FnScope N ps (defScope st)) (len : ∀ vs H Q E, sp vs H Q E → vs.length = ps.length)
    (hb : ∀ (cdv : Value), PySem.W.kdsCode K cdv = true → ∀ (A : Around) (outer : List Env) (s : Shared) (H : Hp) (vs : List V) (Q : VK) (E : XK), Room k (A.deeper (envOfC qual (defScope st) s.heap.objs.size f cdv)) → sp vs H Q E →
      ∃ t, PSs (cxOf CX P w K mg base N qual (defScope st) f cdv A outer s H E) (defBody st) t ∧ t { nx := fun _ H' => Q .non H', rt := Q } (start N vs) H) : FnOk P w K mg base CX (k + 1) f fd ps sp := by
  obtain ⟨oc, od, kV, doc, pm, an, cdv, ct, osl, rfl, lk, hcd⟩ := F.ex
  exact fn_of lk hcd S len fun A outer s H vs Q E hr hsp => hb cdv (kds_of_code hcd) A outer s H vs Q E hr hsp
end
section
variable {X : Cx} {pins : List (Addr × Obj)} {σ : L2.St} {H : Hp} {s : Shared}
theorem scan_pos : 1 < scanBound := by decide
/-- a set that takes one key more -/
theorem ks_add {a : Addr} {l l2 : List Key} {h2 : Heap} {t' : Nat} (I : Inv X pins σ H s) (hs : H a = some (KS X.w a l)) (sb : Heap.SameBut a s.heap h2) (R : SetM X.w h2 a l2) :
    Inv X pins σ (upd H a (KS X.w a l2)) { s with heap := h2, toks := t' } := by
  refine I.write (x := a) (e := a) (by rw [hs]; trivial) (Or.inl rfl) (fun b u hb e => (sb.2 b hb).trans e) ?_ (ks_new R)
  obtain ⟨o, _, _, _, ho, _⟩ := R
  exact ⟨o, ho⟩
theorem setAdd_at {P : Program} {w : World} {A : Around} {E : Value → Shared → Prop} {s : Shared} {a : Addr} {l : List Key} {kk : Key} {v : Value} {Q : Bool → Shared → Prop} (hk : keyIs kk v = true) (R : SetM w s.heap a l) (hl : l.length + 1 < scanBound)
    (h : ∀ h2 b, Heap.SameBut a s.heap h2 → SetM w h2 a (addK l kk) → Q b { s with heap := h2, toks := s.toks + 1 }) : wpAny (model P w) A (setAdd a v) Q E s := by
  unfold setAdd
  refine wpAny_holding (wpAny_bind ((mixKind P w).pyHash (k := kk) hk ?_))
  exact setM_add (s := { s with toks := s.toks + 1 }) hk R hl h
/-- {e}, of a number -/
def tSet1 (w : World) (te : TE) : TE := fun σ H Q => ∀ p, H p = none → te σ (upd H p (KS w p [])) fun v H1 => ∃ k : Int, v = .int k ∧ H1 p = some (KS w p []) ∧ Q (.ref p) (upd H1 p (KS w p [Sum.inl k]))
theorem pe_set1 {e : Expr} {te : TE} {pos : Pos} (hcd : PySem.W.kdsCode X.K X.env.code = true) (he : PE X e te) (hs : starEach [e] X.env = [(false, eval e X.env)] := by rfl) : PE X (.Set [e] 0 pos) (tSet1 X.w te) := by
  refine ⟨fun pins s σ H Q I h => ?_⟩
  rw [arm_eval_Set, hs]
  refine wpAny_bind (wpAny_standAt ?_)
  refine wpAny_bind (PySem.W.kds_main I.kIn hcd fun b => ?_)
  show wpAny _ _ (setDisplay .oneByOne b [(false, do let v ← eval e X.env; standAt pos; pure v)]) _ _ _
  unfold setDisplay
  refine wp_if_neg (by decide) ?_
  refine wpAny_bind (newSet_at ?_)
  dsimp only
  refine wpAny_bind (wpAny_holding ?_)
  simp only [List.length_cons, List.length_nil, Nat.zero_add, List.findIdx?_cons, List.findIdx?_nil, Option.map_none, Option.getD_none, Nat.reduceGT, if_false, List.take_succ_cons, List.take_zero, List.drop_succ_cons, List.drop_zero, List.map_cons, List.map_nil, Bool.false_eq_true]
  unfold evalAll
  have hp : H s.heap.objs.size = none := I.hok.fresh (Nat.le_refl _)
  have I1 : Inv X pins σ (upd H s.heap.objs.size (KS X.w s.heap.objs.size [])) { s with heap := s.heap.push (set0 X.w) } :=
    I.laid (t' := s.toks) (fun b u e => Heap.get?_push_of_some _ e) (Nat.le_refl _) (ks_new (setM_new (Heap.get?_push_size _ rfl)))
  refine wpAny_bind (wpAny_bind (wpAny_bind ?_))
  refine wpAny_mono (he.run pins _ σ _ _ I1 (h _ hp)) (fun u s2 hu => ?_) (fun _ _ z => z)
  obtain ⟨v, H1, I2, rv, k, rfl, hk, q⟩ := hu
  obtain ⟨t, rfl⟩ := rv
  refine wpAny_bind (wpAny_standAt (wpAny_pure ?_))
  refine wpAny_bind (wpAny_holding ?_)
  unfold evalAll
  refine wpAny_pure (wpAny_pure ?_)
  refine wpAny_bind (wpAny_holding ?_)
  refine wpAny_bind ?_
  rw [List.forIn_cons]
  refine wpAny_bind (wpAny_bind ?_)
  refine setAdd_at (kk := Sum.inl k) (mixKind_int X.prog X.w k t) (ks_get I2 hk) scan_pos fun h3 b3 sb R3 => ?_
  refine wpAny_pure ?_
  dsimp only
  rw [List.forIn_nil]
  refine wpAny_pure ?_
  refine wp_if_neg (by decide) (wpAny_pure ?_)
  refine wpAny_bind ?_
  rw [List.forIn_nil]
  refine wpAny_pure (wpAny_pure ?_)
  have e : addK [] (Sum.inl k : Key) = [Sum.inl k] := if_neg List.not_mem_nil
  rw [e] at R3
  have I3 := ks_add (t' := s2.toks + 1) I2 hk sb R3
  exact wpAny_pure ⟨V.ref s.heap.objs.size, _, I3, rfl, q⟩
/-- a number in a set -/
def rInM (w : World) : V → V → Hp → VK → Prop := fun x y H Q => ∃ (k : Int) (a : Addr) (l : List Key), x = .int k ∧ y = .ref a ∧ H a = some (KS w a l) ∧ Q (.bl (decide (Sum.inl k ∈ l))) H
theorem op_inM : OpR X (compareOp .In) (rInM X.w) := by
  intro pins s σ H x y v u Q I rx ry ⟨k, a, l, ex, ey, ha, q⟩
  subst ex ey
  obtain ⟨t, rfl⟩ := rx
  cases (show u = Value.ref a from ry)
  exact wpAny_inSet_of (knd := mixKind X.prog X.w) (k := Sum.inl k) (mixKind_int X.prog X.w k t) (by rfl) (ks_get I ha).setOf ⟨.bl (decide (Sum.inl k ∈ l)), H, I.tok _, rfl, q⟩
/-- found.add(k) -/
def tAddM (w : World) (to : TE) (t : TA) : TE := fun σ H Q => to σ H fun x H1 => ∃ a l, x = .ref a ∧ H1 a = some (KS w a l) ∧ t σ H1 fun ys H2 => ∃ (k : Int) (l2 : List Key), ys = [.int k] ∧ H2 a = some (KS w a l2) ∧ l2.length + 1 < scanBound ∧ Q .non (upd H2 a (KS w a (addK l2 (Sum.inl k))))
theorem call_addM {a : Addr} {l : List Key} {k : Int} {t : Tok} {Q : VK} (I : Inv X pins σ H s) (ha : H a = some (KS X.w a l)) (hl : l.length + 1 < scanBound) (q : Q .non (upd H a (KS X.w a (addK l (Sum.inl k))))) :
    wpAny (model X.prog X.w) X.A (call (.builtin "set.add") [.ref a, .int k t]) (EP X pins σ Q) X.xe s := by
  have R := ks_get I ha
  refine wpAny_call_entry F.slot_set_add R.typeIs F.entry_set_add ?_ (F.args_set_add_2 _ _)
  unfold Builtin.«set.add»
  unfold Builtin.Frozenset.oneOther
  dsimp only [List.isEmpty]
  refine wpAny_bind (wpAny_bind (m := Builtin.Frozenset.addrOf _) (wpAny_pure (wpAny_pure ?_)))
  dsimp only
  refine wpAny_bind (setAdd_at (kk := Sum.inl k) (mixKind_int X.prog X.w k t) R hl fun h3 b3 sb R3 => ?_)
  have I3 := ks_add (t' := s.toks + 1) I ha sb R3
  exact wpAny_pure ⟨_, rfl, V.non, _, I3, rfl, q⟩
theorem pe_addM {o e : Expr} {to : TE} {t : TA} {apos pos : Pos} {pl : Sem Bool} (ho : PE X o to) (hA : PA X [e] t)
    (hs : starEach [e] X.env = [(false, eval e X.env)] := by rfl)
    (hE : eval (.Call (.Attribute o "add" apos) [e] [] pos) X.env = (do
      let ov ← eval o X.env
      standAt apos.atName
      let (f, first) ← holding [ov] (getMethod ov "add" pl)
      callWith pos f first (backTo pos (starEach [e] X.env)) (backToKw pos (keywordEach [] X.env))) := by rfl) : PE X (.Call (.Attribute o "add" apos) [e] [] pos) (tAddM X.w to t) := by
  refine ⟨fun pins s σ H Q I h => ?_⟩
  rw [hE, hs]
  refine wpAny_bind (wpAny_mono (ho.run pins s σ H _ I h) (fun u s1 hu => ?_) (fun _ _ z => z))
  obtain ⟨x, H1, I1, rx, a, l, rfl, ha, h2⟩ := hu
  cases (show u = Value.ref a from rx)
  refine wpAny_bind (wpAny_standAt ?_)
  refine wpAny_bind (wpAny_holding (getMethod_set_add (ks_get I1 ha).setOf ?_))
  dsimp only
  rw [← hs]
  refine Calls.callWith_builtin (by rw [hs]; rfl) ?_
  have h3 := hA.run pos pins s1 σ H1 _ I1 h2
  rw [hs] at h3 ⊢
  refine Calls.evalArgs_plain (wpAny_mono h3 (fun us s2 hu => ?_) (fun _ _ z => z))
  obtain ⟨ys, H2, I2, ry, k, l2, rfl, ha2, hl2, q⟩ := hu
  cases ry with
  | cons x y =>
    cases y
    obtain ⟨t, rfl⟩ := x
    exact call_addM I2 ha2 hl2 q
/-- set(l) of a list of numbers -/
def rSetLi (w : World) (K : PySem.W.Frag) : List V → Hp → VK → Prop := fun xs H Q => ∃ (p : Addr) (ks : List Int), xs = [.ref p] ∧ SqL K H p (ks.map V.int) ∧ ks.length < scanBound ∧ ∀ q, H q = none → Q (.ref q) (upd H q (KS w q (uniK [] (ks.map Sum.inl))))
theorem IntsAre.at {us : List Value} {ns : List Int} (h : IntsAre us ns) : ∀ {i : Nat} {n : Int}, ns[i]? = some n → ∃ t, us[i]? = some (.int n t) := by
  induction h with
  | nil => intro i n e; cases e
  | cons m t _ ih =>
    intro i n e
    cases i with
    | zero =>
      obtain rfl : m = n := Option.some.inj e
      exact ⟨t, rfl⟩
    | succ i => exact ih (i := i) e
theorem intsAre_len {us : List Value} {ns : List Int} (h : IntsAre us ns) : us.length = ns.length := by
  induction h with
  | nil => rfl
  | cons _ _ _ ih => rw [List.length_cons, List.length_cons, ih]
theorem call_setLi (hcalm : X.calm = true) : CallR X (.type "set") (rSetLi X.w X.K) := by
  intro pins s σ H xs us Q I r ⟨p, ks, ex, hs, hn, q⟩
  subst ex
  rw [Vals.ref1 r]
  obtain ⟨its, rv, ⟨⟨cls, dd, data, sl⟩, n, ho, hc, hdn, hd⟩, hlen⟩ := I.list hs
  simp only at hc hd
  subst hc hd
  have hS : IntsAre its ks := L2.intsAre_of rv
  have hL : (s.heap.push (set0 X.w)).IsList p its.toArray := ⟨_, Heap.get?_push_of_some _ ho, rfl, n, rfl⟩
  have hil : its.length = ks.length := intsAre_len hS
  refine call_setX (K := fun s2 => ∃ h2 tk, s2 = { s with heap := h2, toks := tk } ∧ (∀ b u, s.heap.get? b = some u → h2.get? b = some u) ∧ SetM X.w h2 s.heap.objs.size (uniK [] (ks.map Sum.inl))) (fun A2 hA => ?_) ?_
  · refine upd_list (s := { s with heap := s.heap.push (set0 X.w) }) (l0 := []) (ks := ks.map Sum.inl) (hA.trans (I.ok.hd hcalm)) (setM_new (Heap.get?_push_size _ rfl)) hL (by rw [List.size_toArray, List.length_map]; exact hil) (by rw [List.length_map, List.length_nil, Nat.zero_add]; exact hn) (fun i v e => ?_) fun h2 tk k2 R2 => ⟨h2, tk, rfl, fun b u e => k2 b u (Nat.ne_of_lt (Heap.lt_size e)) (Heap.get?_push_of_some _ e), R2⟩
    rw [List.getElem?_toArray] at e
    have hi : i < ks.length := hil ▸ (List.getElem?_eq_some_iff.mp e).1
    have e1 : ks[i]? = some ks[i] := List.getElem?_eq_getElem hi
    obtain ⟨t, e2⟩ := IntsAre.at hS e1
    rw [e] at e2
    have e3 : v = Value.int ks[i] t := Option.some.inj e2
    exact ⟨Sum.inl ks[i], by rw [List.getElem?_map, e1]; rfl, by rw [e3]; exact mixKind_int X.prog X.w ks[i] t⟩
  · rintro s2 ⟨h2, tk, rfl, k2, R2⟩
    exact ⟨.ref s.heap.objs.size, upd H s.heap.objs.size (KS X.w s.heap.objs.size (uniK [] (ks.map Sum.inl))), I.laid (t' := tk) k2 (Nat.le_refl _) (ks_new R2), rfl, q _ (I.hok.fresh (Nat.le_refl _))⟩
/-! ## sorted of a set of numbers -/
theorem ints_out : ∀ {out : List Value}, (∀ v ∈ out, ∃ x t, v = Value.int x t) → ∃ ks, IntsAre out ks ∧ out.map (fun v => kf (0, v)) = ks.map Sum.inl
  | [], _ => ⟨[], .nil, rfl⟩
  | v :: out, h => by
    obtain ⟨ks, a, b⟩ := ints_out (out := out) fun u hu => h u (List.mem_cons_of_mem _ hu)
    obtain ⟨x, t, rfl⟩ := h v List.mem_cons_self
    exact ⟨x :: ks, .cons x t a, by rw [List.map_cons, List.map_cons, b]; rfl⟩
theorem perm_inl {ks ms : List Int} (h : (ks.map Sum.inl : List Key).Perm (ms.map Sum.inl)) : ks.Perm ms := by
  have e : ∀ l : List Int, (l.map (Sum.inl : Int → Key)).map (fun k => match k with | .inl i => i | .inr _ => 0) = l := fun l => by
    rw [List.map_map]
    conv => rhs; rw [← List.map_id l]
    exact List.map_congr_left fun _ _ => rfl
  have q := h.map (fun k => match k with | .inl i => i | .inr _ => 0)
  have e1 := e ks
  have e2 := e ms
  simp only [List.map_map] at q e1 e2
  exact (show ks.Perm ms from by
    have q2 := q
    rw [show List.map ((fun k : Key => match k with | .inl i => i | .inr _ => 0) ∘ Sum.inl) ks = ks from e1, show List.map ((fun k : Key => match k with | .inl i => i | .inr _ => 0) ∘ Sum.inl) ms = ms from e2] at q2
    exact q2)
theorem sorted_setI {P : Program} {w : World} {A : Around} {E : Value → Shared → Prop} {s : Shared} {a : Addr} {ks : List Int} {Q : Value → Shared → Prop} (R : SetM w s.heap a (ks.map Sum.inl)) (hh : A.handled = none)
    (hQ : ∀ s2 p (out : Array Value) (c : Nat) (ys : List Int), (∀ b o, s.heap.get? b = some o → s2.heap.get? b = some o) → s2.gens = s.gens → s2.os = s.os → s.heap.objs.size ≤ p →
      s2.heap.get? p = some (seqObj "list" out c) → IntsAre out.toList ys → ys.Perm ks → ys.Pairwise (· ≤ ·) → Q (.ref p) s2) :
    wpAny (model P w) A (call (.builtin "sorted") [.ref a]) Q E s := by
  obtain ⟨o, es, ep, t, ho, hex, hd, g, pm0, nd, hb, hf, hr, hl, _⟩ := R
  refine Calls.call_function_entry PyProof.Rows.kind_sorted PyProof.Rows.plain_sorted PyProof.Rows.entry_sorted (PyProof.Rows.args_sorted1 _) ?_
  unfold Builtin.«sorted»
  refine wpAny_bind (m := checkCount "sorted" 1 1 _) (wpAny_pure ?_)
  refine wpAny_bind (collect_set (A := A.in1) hh ⟨o, ho, hex.1, hd⟩ hf hb hr hl fun s1 out k1 hz g1 o1 pm => ?_)
  have hmem : ∀ v ∈ out, ∃ x t, v = Value.int x t := fun v hv => by
    obtain ⟨e, he, ev⟩ := List.mem_map.mp (pm.mem_iff.mp hv)
    have hk : kf e ∈ ks.map Sum.inl := pm0.mem_iff.mp (List.mem_map_of_mem he)
    obtain ⟨x, hx, ex⟩ := List.mem_map.mp hk
    have q := (g e he).1
    rw [← ex] at q
    obtain ⟨t, et⟩ := Value.isInt_shape (k := x) (v := e.2) q
    exact ⟨x, t, ev.symm.trans et⟩
  obtain ⟨ms, hS, em⟩ := ints_out hmem
  have pk : ms.Perm ks := by
    refine perm_inl ?_
    rw [← em]
    refine (pm.map _).trans ?_
    rw [List.map_map]
    exact pm0
  have hal : out.length ≤ sizeLine := by
    rw [pm.length_eq, List.length_map, Array.length_toList]
    exact fits_of_scanBound hb
  refine wpAny_bind (wpAny_newList ?_ hal)
  have hoL : (s1.heap.push (seqObj "list" out.toArray 0)).get? s1.heap.objs.size = some (seqObj "list" out.toArray 0) := Heap.get?_push_size _ rfl
  refine wpAny_bind (wpAny_holding (wpAny_call_entry PyProof.Rows.slot_list_sort ⟨_, hoL, rfl⟩ PyProof.Rows.entry_list_sort
    (PyProof.Rows.list_sort_treeAny (s := { s1 with heap := s1.heap.push (seqObj "list" out.toArray 0) }) hoL hS hal fun out2 ys q1 q2 q3 => ⟨_, rfl, ?_⟩)
    (PyProof.Rows.args_list_sort _)))
  obtain ⟨e2, he2⟩ := PyProof.Rows.sortedHeap_at (vs := out) (out := out2) hoL
  refine wpAny_pure ⟨_, rfl, hQ _ s1.heap.objs.size _ e2 ys (fun b u e => ?_) g1 o1 hz he2 q1 (q2.trans pk) q3⟩
  have q := k1 b u e
  have hlt := Heap.lt_size q
  show (sortedHeap (s1.heap.push (seqObj "list" out.toArray 0)) s1.heap.objs.size out _).get? b = some u
  rw [PyProof.Rows.sortedHeap_old (Nat.ne_of_lt hlt) (by rw [size_push']; exact Nat.lt_succ_of_lt hlt)]
  exact Heap.get?_push_of_some _ q
/-- numbers, rising -/
def srtZ (l : List Int) : List Int := l.mergeSort (fun a b => decide (a ≤ b))
theorem srtZ_perm (l : List Int) : (srtZ l).Perm l := List.mergeSort_perm _ _
theorem srtZ_pw (l : List Int) : (srtZ l).Pairwise (· ≤ ·) := by
  have h := List.pairwise_mergeSort (le := fun a b : Int => decide (a ≤ b)) (fun a b c h1 h2 => decide_eq_true (Int.le_trans (of_decide_eq_true h1) (of_decide_eq_true h2)))
    (fun a b => by
      rcases Int.le_total a b with h | h
      · rw [decide_eq_true h]; rfl
      · rw [decide_eq_true h, Bool.or_true]) l
  exact h.imp fun h => of_decide_eq_true h
theorem srtZ_uniq {l m : List Int} (h : m.Perm l) (hs : m.Pairwise (· ≤ ·)) : m = srtZ l :=
  List.Perm.eq_of_pairwise (le := fun a b : Int => a ≤ b) (fun a b _ _ h1 h2 => Int.le_antisymm h1 h2) hs (srtZ_pw l) (h.trans (srtZ_perm l).symm)
theorem mem_srtZ {l : List Int} {k : Int} : k ∈ srtZ l ↔ k ∈ l := (srtZ_perm l).mem_iff
theorem srtZ_len (l : List Int) : (srtZ l).length = l.length := (srtZ_perm l).length_eq
def rSrtI (w : World) : List V → Hp → VK → Prop := fun xs H Q => ∃ (a : Addr) (ks : List Int), xs = [.ref a] ∧ H a = some (KS w a (ks.map Sum.inl)) ∧ ∀ p, H p = none → Q (.ref p) (upd H p (.lst ((srtZ ks).map V.int)))
theorem call_srtI (hcalm : X.calm = true) : CallR X (.builtin "sorted") (rSrtI X.w) := by
  intro pins s σ H xs us Q I r ⟨a, ks, ex, ha, q⟩
  subst ex
  have R := ks_get I ha
  have hsz : ks.length < scanBound := by
    have e := R.len
    rw [List.length_map] at e
    exact e
  rw [Vals.ref1 r]
  refine sorted_setI R (I.ok.hd hcalm) fun s2 p out c ys k g o hp hg hi hpm hs => ?_
  have hlen : (ys.map V.int).length ≤ sizeLine := by
    rw [List.length_map, hpm.length_eq]
    exact fits_of_scanBound hsz
  have hn : H p = none := I.hok.fresh hp
  have J : Inv X pins σ (upd H p (.lst (ys.map V.int))) { s with heap := s2.heap, gens := s2.gens, drawn := s2.drawn, toks := s2.toks } :=
    I.call (ch := []) (Un.laid k hp hn) (I.hok.laid k hp ⟨hlen, out.toList, c, vals_of_ints hi, by rw [Array.toArray_toList]; exact hg⟩) (by rw [g]; exact I.bare) (fun _ z => nomatch z)
  have e : s2 = { s with heap := s2.heap, gens := s2.gens, drawn := s2.drawn, toks := s2.toks } := by
    cases s2
    cases s
    cases o
    rfl
  rw [e]
  obtain rfl := srtZ_uniq hpm hs
  exact ⟨.ref p, _, J, rfl, q p hn⟩
end
section
variable {P : Program} {w : World} {A : Around} {E : Value → Shared → Prop} {s : Shared} {a b : Addr} {l m : List Key}
theorem inter_one {id : String} {c d r : Addr} {n : Nat} {F : (Int × Value) → PUnit → Sem (ForInStep PUnit)} {Q : PUnit → Shared → Prop} {es : List (Int × Value)} {h0 : Heap} {ld : List Key}
    (hF : ∀ h x u, F (h, x) u = (do
      holding [x] (do
        let f ← setFind d x h
        if f.isSome = true then do
          let _ ← setAddHashed r x h
          pure ()
        else pure ())
      Builtin.Frozenset.unchanged id c n
      pure (ForInStep.yield PUnit.unit)))
    (hcr : c ≠ r) (hdr : d ≠ r) {ob : Obj} {eb : Array (Int × Value)} {tb : SetTable} (hob : h0.get? c = some ob) (db : ob.data = .set eb n tb) (fb : tb.fits eb.size = true)
    (Rd' : SetM w h0 d ld) (R : SetM w h0 r []) (g : ∀ e ∈ es, GoodM w e) (hn : es.length < scanBound)
    (hQ : ∀ h2 x, Heap.SameBut r h0 h2 → x.Nodup → (∀ k, k ∈ x ↔ k ∈ es.map kf ∧ k ∈ ld) → SetM w h2 r x → Q ⟨⟩ { s with heap := h2 }) : wpAny (model P w) A (forIn es ⟨⟩ F) Q E { s with heap := h0 } := by
  refine wpAny_forIn_list F (fun rest _ s1 => ∃ h2 x, s1 = { s with heap := h2 } ∧ Heap.SameBut r h0 h2 ∧ SetM w h2 r x ∧ (∀ e ∈ rest, GoodM w e) ∧ (∀ k, (k ∈ x ∨ (k ∈ rest.map kf ∧ k ∈ ld)) ↔ k ∈ es.map kf ∧ k ∈ ld) ∧ x.length + rest.length < scanBound) _ ?_ ?_ _ _
    ⟨h0, [], rfl, Heap.SameBut.refl r h0, R, g, fun k => by simp, by rw [List.length_nil, Nat.zero_add]; exact hn⟩
  · rintro ⟨h, x⟩ rest u s1 ⟨h2, l1, rfl, sb, R1, g1, q1, n1⟩
    rw [hF]
    obtain ⟨g2, g3⟩ := g1 (h, x) List.mem_cons_self
    have g3' : h = keyH w (kf (h, x)) := g3
    rw [List.length_cons] at n1
    have hd2 : SetM w h2 d ld := Rd'.keep fun o e => (sb.2 d hdr).trans e
    have hc2 : h2.get? c = some ob := (sb.2 c hcr).trans hob
    have ends : ∀ (h3 : Heap) (K : ForInStep PUnit → Shared → Prop), Heap.SameBut r h0 h3 → K (ForInStep.yield ⟨⟩) { s with heap := h3 } →
        wpAny (model P w) A (do Builtin.Frozenset.unchanged id c n; pure (ForInStep.yield PUnit.unit) : Sem (ForInStep PUnit)) K E { s with heap := h3 } := fun h3 K sb3 hK => by
      have hc3 : h3.get? c = some ob := (sb3.2 c hcr).trans hob
      unfold Builtin.Frozenset.unchanged setEpoch
      refine wpAny_bind (wpAny_bind (wpAny_bind (wpAny_setState_of (s := { s with heap := h3 }) hc3 db fb (wpAny_pure ?_))))
      refine wp_if_neg (by simp) (wpAny_pure ?_)
      exact wpAny_pure hK
    have main : wpAny (model P w) A (setFind d x (keyH w (kf (h, x)))) (fun f s2 => s2 = { s with heap := h2 } ∧ f.isSome = decide (kf (h, x) ∈ ld)) E { s with heap := h2 } :=
      wpAny_setFind_of (knd := mixKind P w) (k := kf (h, x)) (s := { s with heap := h2 }) g2 (scan_of g2) hd2.setOf fun f hf => ⟨rfl, hf⟩
    rw [← g3'] at main
    refine wpAny_bind (wpAny_holding (wpAny_bind (wpAny_mono main (fun f s2 => ?_) fun _ _ z => z)))
    rintro ⟨rfl, hf⟩
    by_cases hin : kf (h, x) ∈ ld
    · refine wp_if_pos (by rw [hf]; exact decide_eq_true hin) ?_
      have add : wpAny (model P w) A (setAddHashed r x (keyH w (kf (h, x)))) (fun _ s2 => ∃ h3, s2 = { s with heap := h3 } ∧ Heap.SameBut r h2 h3 ∧ SetM w h3 r (addK l1 (kf (h, x)))) E { s with heap := h2 } :=
        setM_add (s := { s with heap := h2 }) g2 R1 (by omega) fun h3 _ sb3 R3 => ⟨h3, rfl, sb3, R3⟩
      rw [← g3'] at add
      refine wpAny_bind (wpAny_mono add (fun _ s2 => ?_) fun _ _ z => z)
      rintro ⟨h3, rfl, sb3, R3⟩
      refine wpAny_pure (ends h3 _ (sb.trans sb3) ⟨h3, _, rfl, sb.trans sb3, R3, fun e he => g1 e (List.mem_cons_of_mem _ he), fun k => ?_, ?_⟩)
      · rw [← q1 k, mem_addK, List.map_cons, List.mem_cons]
        constructor
        · rintro ((z | z) | z)
          · exact Or.inl z
          · exact Or.inr ⟨Or.inl z, z ▸ hin⟩
          · exact Or.inr ⟨Or.inr z.1, z.2⟩
        · rintro (z | ⟨z | z, z2⟩)
          · exact Or.inl (Or.inl z)
          · exact Or.inl (Or.inr z)
          · exact Or.inr ⟨z, z2⟩
      · have := addK_len l1 (kf (h, x))
        omega
    · refine wp_if_neg (by rw [hf, decide_eq_false hin]; exact Bool.false_ne_true) (wpAny_pure (ends h2 _ sb ⟨h2, l1, rfl, sb, R1, fun e he => g1 e (List.mem_cons_of_mem _ he), fun k => ?_, by omega⟩))
      rw [← q1 k, List.map_cons, List.mem_cons]
      constructor
      · rintro (z | z)
        · exact Or.inl z
        · exact Or.inr ⟨Or.inr z.1, z.2⟩
      · rintro (z | ⟨z | z, z2⟩)
        · exact Or.inl z
        · exact absurd (z ▸ z2) hin
        · exact Or.inr ⟨z, z2⟩
  · rintro u s1 ⟨h2, x, rfl, sb, R1, _, q1, _⟩
    refine hQ h2 x sb R1.nodup (fun k => ?_) R1
    have q := q1 k
    simpa using q
theorem inter_walk {id : String} {c d r : Addr} {lc ld : List Key} {Q : Unit → Shared → Prop} (Rc : SetM w s.heap c lc) (Rd' : SetM w s.heap d ld) (R : SetM w s.heap r []) (hcr : c ≠ r) (hdr : d ≠ r)
    (hQ : ∀ h2 x, Heap.SameBut r s.heap h2 → x.Nodup → (∀ k, k ∈ x ↔ k ∈ lc ∧ k ∈ ld) → SetM w h2 r x → Q () { s with heap := h2 }) :
    wpAny (model P w) A (do
      let was ← setEpoch c
      let es ← setWalkUnseen c [d, r] (some r)
      forIn es PUnit.unit fun x _ => match x with
        | (h, x) => do
          holding [x] (do
            let f ← setFind d x h
            if f.isSome = true then do
              let _ ← setAddHashed r x h
              pure ()
            else pure ())
          Builtin.Frozenset.unchanged id c was
          pure (ForInStep.yield PUnit.unit)
      pure ()) Q E s := by
  have Rc' := Rc
  obtain ⟨o1, es1, ep1, t1, ho1, x1, d1, g1, p1, n1, b1, f1, _⟩ := Rc'
  unfold setEpoch
  refine wpAny_bind (wpAny_bind (wpAny_setState_of ho1 d1 f1 (wpAny_pure ?_)))
  refine wpAny_bind (walk_unseen Rc R hcr (fun e he => ?_) fun h2 es sb R2 g2 p2 => ?_)
  · rcases List.mem_cons.mp he with z | z
    · exact ⟨ld, z ▸ Rd'⟩
    · rw [List.mem_singleton.mp z]
      exact ⟨[], R⟩
  · refine wpAny_bind ?_
    rw [← Array.forIn_toList]
    have hlen := p2.length_eq
    rw [List.length_map] at hlen
    refine inter_one (s := s) (id := id) (c := c) (d := d) (r := r) (n := ep1) (ld := ld) (fun h x u => rfl) hcr hdr ((sb.2 c hcr).trans ho1) d1 f1 (Rd'.keep fun o e => (sb.2 d hdr).trans e) R2 g2 (by rw [hlen]; exact Rc.len) fun h3 x sb3 nx mx R3 => ?_
    exact wpAny_pure (hQ h3 x (sb.trans sb3) nx (fun k => by rw [mx k, p2.mem_iff]) R3)
theorem and_sets {Q : Value → Shared → Prop} (R : SetM w s.heap a l) (Rb : SetM w s.heap b m) (hab : a ≠ b)
    (h : ∀ h2 x, (∀ c u, s.heap.get? c = some u → h2.get? c = some u) → x.Nodup → (∀ k, k ∈ x ↔ k ∈ l ∧ k ∈ m) → SetM w h2 s.heap.objs.size x → Q (.ref s.heap.objs.size) { s with heap := h2 }) : wpAny (model P w) A (binaryOp .BitAnd (.ref a) (.ref b)) Q E s := by
  refine wpAny_binaryOp_same (op := .BitAnd) (T := "set") R.typeIs Rb.typeIs fills_set_and slot_set_and (wpAny_call_entry slot_set_and R.typeIs entry_set_and ?_ (args_set_and _ _))
  refine wpAny_bind (m := Builtin.Frozenset.slot1 "__and__" _) (wpAny_of_eq (a := (.ref a, .ref b)) (by rfl) ?_)
  dsimp only
  rw [if_neg Bool.false_ne_true]
  dsimp only
  refine wpAny_bind (wpAny_bind (anySet_yes R.typeIs ?_))
  refine anySet_yes Rb.typeIs ?_
  refine wp_if_neg (by decide) ?_
  refine wpAny_bind (m := Builtin.Frozenset.addrOf _) (wpAny_pure ?_)
  refine wpAny_bind ?_
  unfold Builtin.Frozenset.intersection
  refine wp_if_neg (by simp [Ne.symm hab]) ?_
  refine wpAny_bind (baseOf_at R.typeIs ?_)
  refine wpAny_bind (newSet_at ?_)
  refine wpAny_bind (m := Builtin.Frozenset.addrOf _) (wpAny_pure ?_)
  refine wpAny_bind (wpAny_holding ?_)
  have kp : ∀ c u, s.heap.get? c = some u → (s.heap.push (set0 w)).get? c = some u := fun c u e => Heap.get?_push_of_some _ e
  have R1 : SetM w (s.heap.push (set0 w)) a l := R.keep fun u e => kp a u e
  have Rb1 : SetM w (s.heap.push (set0 w)) b m := Rb.keep fun u e => kp b u e
  have Rr : SetM w (s.heap.push (set0 w)) s.heap.objs.size [] := setM_new (Heap.get?_push_size _ rfl)
  refine wpAny_bind (anySet_yes (s := { s with heap := s.heap.push (set0 w) }) Rb1.typeIs ?_)
  refine wp_if_pos rfl ?_
  refine wpAny_bind (m := Builtin.Frozenset.addrOf _) (wpAny_pure ?_)
  unfold Builtin.Frozenset.sizeOf setEntries
  have R1' := R1
  have Rb1' := Rb1
  obtain ⟨o1, es1, ep1, t1, ho1, x1, d1, g1, p1, n1, b1, f1, _⟩ := R1'
  obtain ⟨o2, es2, ep2, t2, ho2, x2, d2, g2, p2, n2, b2, f2, _⟩ := Rb1'
  refine wpAny_bind (wpAny_bind (wpAny_bind (wpAny_setState_of (s := { s with heap := s.heap.push (set0 w) }) ho2 d2 f2 (wpAny_pure (wpAny_pure ?_)))))
  refine wpAny_bind (wpAny_bind (wpAny_bind (wpAny_setState_of (s := { s with heap := s.heap.push (set0 w) }) ho1 d1 f1 (wpAny_pure (wpAny_pure ?_)))))
  have ha : a ≠ s.heap.objs.size := Nat.ne_of_lt R.lt
  have hb : b ≠ s.heap.objs.size := Nat.ne_of_lt Rb.lt
  have fin : ∀ h2 x, Heap.SameBut s.heap.objs.size (s.heap.push (set0 w)) h2 → x.Nodup → (∀ k, k ∈ x ↔ k ∈ l ∧ k ∈ m) → SetM w h2 s.heap.objs.size x →
      wpAny (model P w) A.in1 (pure (Value.ref s.heap.objs.size)) (fun a s' => wpAny (model P w) A.in1 (ret a) (fun fin s' => ∃ v, fin = PySem.Fin.done (Flow.ret v) ∧ v ≠ Value.notImplemented ∧ Q v s') E s') E { s with heap := h2 } := fun h2 x sb nx mx R2 =>
    wpAny_pure (wpAny_pure ⟨_, rfl, Value.noConfusion, h h2 x (fun c u e => (sb.2 c (Nat.ne_of_lt (Heap.lt_size e))).trans (kp c u e)) nx mx R2⟩)
  by_cases hz : es2.size > es1.size
  · have e : (if (es2, ep2, t2).fst.size > (es1, ep1, t1).fst.size then (b, a) else (a, b)) = (b, a) := if_pos hz
    rw [e]
    exact inter_walk (s := { s with heap := s.heap.push (set0 w) }) R1 Rb1 Rr ha hb fun h2 x sb nx mx R2 => fin h2 x sb nx mx R2
  · have e : (if (es2, ep2, t2).fst.size > (es1, ep1, t1).fst.size then (b, a) else (a, b)) = (a, b) := if_neg hz
    rw [e]
    exact inter_walk (s := { s with heap := s.heap.push (set0 w) }) Rb1 R1 Rr hb ha fun h2 x sb nx mx R2 => fin h2 x sb nx (fun k => by rw [mx k, and_comm]) R2
end
section
variable {X : Cx}
theorem inl_nodup {l : List Int} : (l.map (Sum.inl : Int → Key)).Nodup ↔ l.Nodup := by
  unfold List.Nodup
  rw [List.pairwise_map]
  exact ⟨fun h => h.imp fun n e => n (congrArg Sum.inl e), fun h => h.imp fun n e => n (Sum.inl.inj e)⟩
theorem mem_inl {l : List Int} {k : Int} : (Sum.inl k : Key) ∈ l.map Sum.inl ↔ k ∈ l := by
  constructor
  · intro h
    obtain ⟨x, hx, e⟩ := List.mem_map.mp h
    exact Sum.inl.inj e ▸ hx
  · exact fun h => List.mem_map_of_mem h
/-- a & b of two sets of numbers -/
def rAndM (w : World) : V → V → Hp → VK → Prop := fun x y H Q => ∃ (a b : Addr) (l m : List Int), x = .ref a ∧ y = .ref b ∧ H a = some (KS w a (l.map Sum.inl)) ∧ H b = some (KS w b (m.map Sum.inl)) ∧ a ≠ b ∧ ∀ p, H p = none → Q (.ref p) (upd H p (KS w p ((l.filter fun k => decide (k ∈ m)).map Sum.inl)))
theorem op_andM : OpR X (binaryOp .BitAnd) (rAndM X.w) := by
  intro pins s σ H x y v u Q I rx ry ⟨a, b, l, m, ex, ey, ha, hb, hab, q⟩
  subst ex ey
  cases (show v = Value.ref a from rx)
  cases (show u = Value.ref b from ry)
  have Ra := ks_get I ha
  have Rb := ks_get I hb
  refine and_sets Ra Rb hab fun h2 x kp nx mx R2 => ?_
  have hp : H s.heap.objs.size = none := I.hok.fresh (Nat.le_refl _)
  have pm : x.Perm ((l.filter fun k => decide (k ∈ m)).map Sum.inl) := by
    refine perm_of_mem nx (inl_nodup.mpr ((inl_nodup.mp Ra.nodup).filter _)) fun k => ?_
    rw [mx k]
    cases k with
    | inl i => rw [mem_inl, mem_inl, mem_inl, List.mem_filter, decide_eq_true_eq]
    | inr t =>
      constructor
      · rintro ⟨z, _⟩
        obtain ⟨_, _, e⟩ := List.mem_map.mp z
        cases e
      · intro z
        obtain ⟨_, _, e⟩ := List.mem_map.mp z
        cases e
  exact ⟨.ref s.heap.objs.size, _, I.laid (t' := s.toks) kp (Nat.le_refl _) (ks_new (R2.perm pm)), rfl, q _ hp⟩
end
/-! ## reading -/
def addZ (l : List Int) (k : Int) : List Int := if k ∈ l then l else l ++ [k]
def uniZ (l m : List Int) : List Int := m.foldl addZ l
theorem addK_inl (l : List Int) (k : Int) : addK (l.map Sum.inl) (Sum.inl k) = (addZ l k).map Sum.inl := by
  unfold addK addZ
  by_cases h : k ∈ l
  · rw [if_pos h, if_pos (mem_inl.mpr h)]
  · rw [if_neg h, if_neg fun z => h (mem_inl.mp z), List.map_append]
    rfl
theorem uniK_inl : ∀ (m l : List Int), uniK (l.map Sum.inl) (m.map Sum.inl) = (uniZ l m).map Sum.inl
  | [], l => rfl
  | k :: m, l => by
    show uniK (addK (l.map Sum.inl) (Sum.inl k)) (m.map Sum.inl) = (uniZ (addZ l k) m).map Sum.inl
    rw [addK_inl, uniK_inl m]
theorem mem_addZ {l : List Int} {k j : Int} : j ∈ addZ l k ↔ j ∈ l ∨ j = k := by
  unfold addZ
  by_cases h : k ∈ l
  · rw [if_pos h]
    exact ⟨Or.inl, fun z => z.elim id fun e => e ▸ h⟩
  · rw [if_neg h, List.mem_append, List.mem_singleton]
theorem addZ_len (l : List Int) (k : Int) : (addZ l k).length ≤ l.length + 1 := by
  unfold addZ
  split
  · omega
  · rw [List.length_append]; exact Nat.le_refl _
theorem mem_uniZ : ∀ {m l : List Int} {j : Int}, j ∈ uniZ l m ↔ j ∈ l ∨ j ∈ m
  | [], l, j => by simp [uniZ]
  | k :: m, l, j => by
    show j ∈ uniZ (addZ l k) m ↔ _
    rw [mem_uniZ, mem_addZ, List.mem_cons, or_assoc]
section
variable {w : World} {K : PySem.W.Frag} {σ : L2.St} {H : Hp} {ta tb te : TE} {a p : Addr} {l m : List Int} {k : Int} {D : Ends} {tz : TS} {i : Nat}
def EvZ (w : World) (te : TE) (σ : L2.St) (H : Hp) (l : List Int) : Prop := ∀ H1, Ex H H1 → ∀ Q : VK, (∀ p H2, H1 p = none → Ex H1 H2 → H2 p = some (KS w p (l.map Sum.inl)) → Q (.ref p) H2) → te σ H1 Q
theorem z_set1 (h : Ev te σ H (.int k)) : EvZ w (tSet1 w te) σ H [k] := fun H1 e Q q p np =>
  h _ (e.trans (Ex.new np)) _ fun H2 e2 => ⟨k, rfl, e2 p _ upd_same, q p _ np (Ex.mut ((Ex.new np).trans e2) np) upd_same⟩
theorem z_setL (h : EvL ta σ H (l.map V.int)) (hz : l.length < 4096) : EvZ w (tCB (rSetLi w K) (tCons ta tNil)) σ H (uniZ [] l) := fun H1 e Q q =>
  h H1 e _ fun pl H2 np e2 h2 => ⟨pl, l, rfl, sq_of h2, hz, fun r nr => q r _ (fresh_back e2 nr) (e2.trans (Ex.new nr)) (by rw [upd_same]; exact congrArg some (congrArg (KS w r) (uniK_inl l [])))⟩
theorem z_and (ha : EvZ w ta σ H l) (hb : EvZ w tb σ H m) : EvZ w (tOp (rAndM w) ta tb) σ H (l.filter fun k => decide (k ∈ m)) := fun H1 e Q q =>
  ha H1 e _ fun a H2 na e2 h2 => hb H2 (e.trans e2) _ fun b H3 nb e3 h3 => ⟨a, b, l, m, rfl, rfl, e3 a _ h2, h3, ne_of_none h2 nb, fun r nr => q r _ (fresh_back (e2.trans e3) nr) ((e2.trans e3).trans (Ex.new nr)) upd_same⟩
theorem l_srtZ (h : EvZ w ta σ H l) : EvL (tCB (rSrtI w) (tCons ta tNil)) σ H ((srtZ l).map V.int) := fun H1 e Q q =>
  h H1 e _ fun a H2 na e2 h2 => ⟨a, l, rfl, h2, fun r nr => q r _ (fresh_back e2 nr) (e2.trans (Ex.new nr)) upd_same⟩
theorem l_srtZr (h : Ev ta σ H (.ref a)) (hs : H a = some (KS w a (l.map Sum.inl))) : EvL (tCB (rSrtI w) (tCons ta tNil)) σ H ((srtZ l).map V.int) := fun H1 e Q q =>
  h H1 e _ fun H2 e2 => ⟨a, l, rfl, (e.trans e2) a _ hs, fun r nr => q r _ (fresh_back e2 nr) (e2.trans (Ex.new nr)) upd_same⟩
theorem e_inZ (hk : Ev ta σ H (.int k)) (h : Ev tb σ H (.ref a)) (hs : H a = some (KS w a (l.map Sum.inl))) : Ev (tOp (rInM w) ta tb) σ H (.bl (decide (k ∈ l))) := fun H1 e Q q =>
  hk H1 e _ fun H2 e2 => h H2 (e.trans e2) _ fun H3 e3 => ⟨k, a, _, rfl, rfl, ((e.trans e2).trans e3) a _ hs, by
    have e4 : decide ((Sum.inl k : Key) ∈ l.map Sum.inl) = decide (k ∈ l) := decide_eq_decide.mpr mem_inl
    rw [e4]
    exact q H3 (e2.trans e3)⟩
/-- found = new set -/
theorem q_asgZ (h : EvZ w te σ H l) (q : ∀ p H1, H p = none → Ex H H1 → H1 p = some (KS w p (l.map Sum.inl)) → tz D (σ.set i (some (.ref p))) H1) : tSeq (tAsg te (gName i)) tz D σ H := h H (Ex.refl H) _ fun p H1 np e h1 => q p H1 np e h1
/-- found.add(k) -/
theorem s_addZ (h : Ev ta σ H (.ref a)) (hk : Ev te σ H (.int k)) (hs : H a = some (KS w a (l.map Sum.inl))) (hz : l.length + 1 < 4096) (q : ∀ H1, Mu H a (KS w a ((addZ l k).map Sum.inl)) H1 → D.nx σ H1) : tDrop (tAddM w ta (tCons te tNil)) D σ H :=
  h H (Ex.refl H) _ fun H1 e1 => ⟨a, _, rfl, e1 a _ hs, hk H1 e1 _ fun H2 e2 => ⟨k, _, rfl, (e1.trans e2) a _ hs, by rw [List.length_map]; exact hz, by
    rw [addK_inl]
    exact q _ ⟨H2, e1.trans e2, rfl⟩⟩⟩
theorem q_addZ (h : Ev ta σ H (.ref a)) (hk : Ev te σ H (.int k)) (hs : H a = some (KS w a (l.map Sum.inl))) (hz : l.length + 1 < 4096) (q : ∀ H1, Mu H a (KS w a ((addZ l k).map Sum.inl)) H1 → tz D σ H1) : tSeq (tDrop (tAddM w ta (tCons te tNil))) tz D σ H :=
  s_addZ (D := { D with nx := tz D }) h hk hs hz q
end
end Vf

/-! Own layer: an object with a list of dicts that stay as they are and a list of tuples of numbers; its methods. -/
namespace Vf
open PySem PySem.Spec PyProof.Rows L2 TL Evl
/-! ## a dict that stays as it is from now on -/
def tFrz (t : TS) : TS := fun D σ H => ∃ d u, H d = some u ∧ Mut (some u) ∧ ∀ od, t D σ (upd H d (.frz od u))
theorem ps_freeze {X : Cx} {st : Stmt} {t : TS} (h : PS X st t) : PS X st (tFrz t) := by
  refine ⟨fun pins s σ H D I hw => ?_⟩
  obtain ⟨d, u, hd, hm, k⟩ := hw
  obtain ⟨od, I2⟩ := I.lock hd hm
  exact h.run pins s σ _ D I2 (k od)
section
variable {K : PySem.W.Frag} {H H1 H2 : Hp} {p d r : Addr} {T : List (List (Tx × Tx))} {ts : List Addr} {X o : HO}
/-- neither a tuple nor what stays as it is -/
def NF (o : HO) : Prop := match o with
  | .tup _ => False
  | .frz _ _ => False
  | _ => True
def Fz (H : Hp) (a : Addr) (l : List (Tx × Tx)) : Prop := ∃ o, H a = some (.frz o (.dK (kd vs l)))
theorem Fz.rd {a : Addr} {l : List (Tx × Tx)} (h : Fz H a l) : Rd H a (.dK (kd vs l)) := Or.inr h
theorem Fz.ex {a : Addr} {l : List (Tx × Tx)} (h : Fz H a l) (e : Ex H H2) : Fz H2 a l := by
  obtain ⟨o, h⟩ := h
  exact ⟨o, e a _ h⟩
theorem Fz.upd {a : Addr} {l : List (Tx × Tx)} (h : Fz H a l) (hr : H r = some o) (nf : NF o) : Fz (upd H r X) a l := by
  obtain ⟨u, h⟩ := h
  refine ⟨u, ?_⟩
  rw [upd_ne]
  · exact h
  · intro z
    rw [z, hr] at h
    cases h
    exact nf
def FzAt (H : Hp) (ts : List Addr) (T : List (List (Tx × Tx))) : Prop := Paired (Fz H) ts T
theorem FzAt.ex (h : FzAt H ts T) (e : Ex H H2) : FzAt H2 ts T := Paired.mapP h fun _ _ z => z.ex e
/-- a list of dicts that stay as they are -/
def IsLD (H : Hp) (p : Addr) (T : List (List (Tx × Tx))) : Prop := ∃ ts, H p = some (.lst (ts.map V.ref)) ∧ FzAt H ts T
theorem IsLD.ex (h : IsLD H p T) (e : Ex H H2) : IsLD H2 p T := by
  obtain ⟨ts, a, b⟩ := h
  exact ⟨ts, e p _ a, b.ex e⟩
theorem IsLD.upd (h : IsLD H p T) (hne : p ≠ r) (hr : H r = some o) (nf : NF o) : IsLD (upd H r X) p T := by
  obtain ⟨ts, a, b⟩ := h
  exact ⟨ts, by rw [upd_ne hne]; exact a, Paired.mapP b fun _ _ z => z.upd hr nf⟩
theorem IsLD.mu (h : IsLD H p T) (m : Mu H r X H1) (hne : p ≠ r) (hr : H r = some o) (nf : NF o) : IsLD H1 p T := by
  obtain ⟨H2, e, rfl⟩ := m
  exact (h.ex e).upd hne (e r _ hr) nf
theorem IsLD.ne (h : IsLD H p T) (n : H r = none) : p ≠ r := fun z => by
  obtain ⟨ts, a, _⟩ := h
  rw [z, n] at a
  cases a
/-! ## the object -/
abbrev Bkv := List (List (Tx × Tx)) × List (List Int)
def bkF (bt bp : Addr) : List (Str × V) := putF "_parents" (.ref bp) (putF "_trees" (.ref bt) [])
theorem bk_ne : ¬ (("_trees" : Str) = "_parents") := by decide +kernel
theorem bk_t (bt bp : Addr) : (bkF bt bp).lookup ("_trees" : Str) = some (.ref bt) := by
  unfold bkF
  rw [lookup_putF, if_neg bk_ne, lookup_putF, if_pos rfl]
theorem bk_p (bt bp : Addr) : (bkF bt bp).lookup ("_parents" : Str) = some (.ref bp) := by
  unfold bkF
  rw [lookup_putF, if_pos rfl]
theorem bk_no (bt bp : Addr) {m : Str} (h1 : ¬ m = "_parents") (h2 : ¬ m = "_trees") : (bkF bt bp).lookup m = none := by
  unfold bkF
  rw [lookup_putF, if_neg h1, lookup_putF, if_neg h2]
  rfl
/-- the object at b, with its two lists at bt and bp -/
def BkI (C : Addr) (H : Hp) (b bt bp : Addr) : Prop := (∃ dx, H b = some (.ins C dx (bkF bt bp))) ∧ bt ≠ bp
theorem BkI.ex {C b bt bp : Addr} (h : BkI C H b bt bp) (e : Ex H H2) : BkI C H2 b bt bp := by
  obtain ⟨⟨dx, a⟩, n⟩ := h
  exact ⟨⟨dx, e b _ a⟩, n⟩
def notIns (o : HO) : Prop := match o with
  | .ins _ _ _ => False
  | _ => True
theorem BkI.upd {C b bt bp : Addr} (h : BkI C H b bt bp) (hr : H r = some o) (ni : notIns o) : BkI C (upd H r X) b bt bp := by
  obtain ⟨⟨dx, a⟩, n⟩ := h
  refine ⟨⟨dx, ?_⟩, n⟩
  rw [upd_ne]
  · exact a
  · intro z
    rw [z, hr] at a
    cases a
    exact ni
theorem BkI.mu {C b bt bp : Addr} (h : BkI C H b bt bp) (m : Mu H r X H1) (hr : H r = some o) (ni : notIns o) : BkI C H1 b bt bp := by
  obtain ⟨H2, e, rfl⟩ := m
  exact (h.ex e).upd (e r _ hr) ni
/-- what the text of its class must be -/
structure BkT (K : PySem.W.Frag) (mg : Str → Option Value) (C : Addr) : Prop where
  cl : Cls K C
  nT : NoAttr K C "_trees"
  nP : NoAttr K C "_parents"
  g : mg "Book" = some (.ref C)
end
/-! ## reading -/
section
variable {K : PySem.W.Frag} {mg : Str → Option Value} {σ : L2.St} {H H0 : Hp} {ta tb td te tn : TE} {tr : TA} {C b bt bp : Addr} {T : List (List (Tx × Tx))} {Pl : List (List V)} {D : Ends} {tz : TS} {i : Nat} {n : Int} {P : List V → Hp → Prop}
theorem e_fldT (Tb : BkT K mg C) (h : Ev ta σ H (.ref b)) (hb : BkI C H b bt bp) : Ev (tFld K ta "_trees") σ H (.ref bt) := fun H1 e Q q =>
  h H1 e _ fun H2 e2 => by
    obtain ⟨⟨dx, a⟩, _⟩ := hb.ex (e.trans e2)
    exact ⟨b, C, dx, _, _, rfl, a, Tb.cl, Tb.nT, bk_t bt bp, q H2 e2⟩
theorem e_fldP (Tb : BkT K mg C) (h : Ev ta σ H (.ref b)) (hb : BkI C H b bt bp) : Ev (tFld K ta "_parents") σ H (.ref bp) := fun H1 e Q q =>
  h H1 e _ fun H2 e2 => by
    obtain ⟨⟨dx, a⟩, _⟩ := hb.ex (e.trans e2)
    exact ⟨b, C, dx, _, _, rfl, a, Tb.cl, Tb.nP, bk_p bt bp, q H2 e2⟩
/-- a dict that stands somewhere -/
def EvD (te : TE) (σ : L2.St) (H : Hp) (l : List (Tx × Tx)) : Prop := ∀ H1, Ex H H1 → ∀ Q : VK, (∀ a H2, Ex H1 H2 → Rd H2 a (.dK (kd vs l)) → Q (.ref a) H2) → te σ H1 Q
theorem d_is {l m : List (Tx × Tx)} (h : EvD te σ H l) (e : l = m) : EvD te σ H m := e ▸ h
theorem d_of {a : Addr} {l : List (Tx × Tx)} (h : Ev te σ H (.ref a)) (hd : Rd H a (.dK (kd vs l))) : EvD te σ H l := fun H1 e Q q => h H1 e Q fun H2 e2 => q a H2 e2 (ex_rd (e.trans e2) hd)
theorem d_new {l : List (Tx × Tx)} (h : EvK te σ H (kd vs l)) : EvD te σ H l := fun H1 e Q q => h H1 e Q fun a H2 _ e2 h2 => q a H2 e2 (Or.inl h2)
theorem fz_at {ts : List Addr} : ∀ {T : List (List (Tx × Tx))} {ts : List Addr} {i : Nat}, FzAt H ts T → i < T.length → ∃ a, (ts.map V.ref)[i]? = some (.ref a) ∧ Fz H a (T.getD i [])
  | [], ts, i, h, hi => by cases hi
  | t :: T, [], i, h, hi => by cases h
  | t :: T, a :: ts, 0, h, hi => by
    cases h with
    | cons x y => exact ⟨a, rfl, x⟩
  | t :: T, a :: ts, i + 1, h, hi => by
    cases h with
    | cons x y =>
      obtain ⟨c, e, f⟩ := fz_at (ts := ts) y (show i < T.length by simpa using hi)
      exact ⟨c, e, f⟩
theorem fz_len : ∀ {T : List (List (Tx × Tx))} {ts : List Addr}, FzAt H ts T → ts.length = T.length
  | _, _, .nil => rfl
  | _, _, .cons _ y => by rw [List.length_cons, List.length_cons, fz_len y]
/-- list of dicts[n] -/
theorem d_ix (h : Ev ta σ H (.ref bt)) (hT : IsLD H bt T) (hn : Ev tn σ H (.int n)) (hi : 0 ≤ n ∧ n < T.length) : EvD (tOp (rIxL K) ta tn) σ H (T.getD n.toNat []) := fun H1 e Q q =>
  h H1 e _ fun H2 e2 => hn H2 (e.trans e2) _ fun H3 e3 => by
    obtain ⟨ts, x, y⟩ := hT.ex ((e.trans e2).trans e3)
    obtain ⟨a, ea, fa⟩ := fz_at (ts := ts) y (i := n.toNat) (by omega)
    have hl := fz_len y
    exact rv_ixL (K := K) (sq_of x) (by
      have e4 := ixN_at (i := n) (j := n.toNat) (n := (ts.map V.ref).length) (by rw [List.length_map]; omega)
      unfold atI
      rw [e4]
      exact ea) H3 (Ex.refl H3) Q fun H4 e4 => q a H4 ((e2.trans e3).trans e4) (ex_rd e4 fa.rd)
/-- dict(d) -/
theorem k_copyD {l : List (Tx × Tx)} (h : EvD td σ H l) : EvK (tCB (fun xs H Q => ∃ a kvs, xs = [V.ref a] ∧ Rd H a (HO.dK kvs) ∧ ∀ (p : Addr), H p = none → Q (V.ref p) (upd H p (HO.dK kvs))) (tCons td tNil)) σ H (kd vs l) := fun H1 e Q q =>
  h H1 e _ fun a H2 e2 h2 => ⟨a, _, rfl, h2, fun p np => q p _ (fresh_back e2 np) (e2.trans (Ex.new np)) upd_same⟩
/-- d.get(k) -/
theorem e_getD1 {l : List (Tx × Tx)} {k : Tx} (hd : EvD td σ H l) (hk : Ev ta σ H (vs k)) : Ev (tDGet1 td ta) σ H (vo (dget l k)) := fun H1 e Q q =>
  hd H1 e _ fun d H2 e2 h2 => ⟨d, rfl, Or.inl ⟨_, h2⟩, hk H2 (e.trans e2) _ fun H3 e3 => ⟨_, dg_of (ex_rd e3 h2) k, by
    have : ((dget l k).map vs).getD .non = vo (dget l k) := by cases dget l k <;> rfl
    rw [this]
    exact q H3 (e2.trans e3)⟩⟩
theorem ax_d {l : List (Tx × Tx)} (h : EvD te σ H l) (hr : EvAx tr σ H P) : EvAx (tCons te tr) σ H (fun ws H2 => ∃ p w2, ws = .ref p :: w2 ∧ Rd H2 p (.dK (kd vs l)) ∧ P w2 H2) := fun H1 e Q q => h H1 e _ fun p H2 e2 h2 => hr H2 (e.trans e2) _ fun ws H3 e3 hp => q (.ref p :: ws) H3 (e2.trans e3) ⟨p, ws, rfl, ex_rd e3 h2, hp⟩
theorem ax_t {xs : List V} (h : EvTu K te σ H xs) (hr : EvAx tr σ H P) : EvAx (tCons te tr) σ H (fun ws H2 => ∃ p w2, ws = .ref p :: w2 ∧ SqT K H2 p xs ∧ P w2 H2) := fun H1 e Q q => h H1 e _ fun p H2 e2 h2 => hr H2 (e.trans e2) _ fun ws H3 e3 hp => q (.ref p :: ws) H3 (e2.trans e3) ⟨p, ws, rfl, ex_t e3 h2, hp⟩
end
/-! ## calls that may raise, but do not -/
def resD (r : Res (List (Tx × Tx))) : List (Tx × Tx) := match r with
  | .ok l => l
  | .exc _ => []
theorem resD_of {r : Res (List (Tx × Tx))} {l : List (Tx × Tx)} (h : r = .ok l) : r = .ok (resD r) := by rw [h]; rfl
theorem k_callX {Cs : Nat → Addr} {R : List V → Hp → Res (List (Tx × Tx)) → Prop} {E : L2.St → XK} {t : TA} {σ : L2.St} {H : Hp} {P : List V → Hp → Prop} {r : Res (List (Tx × Tx))} (h : EvAx t σ H P) (hR : ∀ ws H1, Ex H H1 → P ws H1 → R ws H1 r) (hr : r = .ok (resD r)) :
    EvK (tCallS (spX Cs (fun a H Q => RetK (kd vs a) H Q) R) E t) σ H (kd vs (resD r)) := fun H1 e Q q =>
  h H1 e _ fun ws H2 e2 hp => ⟨r, hR ws H2 (e.trans e2) hp, fun a ha => by
    have ea : resD r = a := by rw [ha]; rfl
    rw [ea] at q
    exact fun p H3 np e3 h3 => q p H3 (fresh_back e2 np) (e2.trans e3) h3, fun k hk => by
    rw [hk] at hr
    cases hr⟩
/-! ## methods -/
structure CalM (P : Program) (w : World) (K : PySem.W.Frag) (mg : Str → Option Value) (base : Heap) (k : Nat) (C : Addr) (m : Str) (ps : List Str) (sp : Sp) : Prop where
  ex : ∃ f fd, FnOk P w K mg base CX0 k f fd ps sp ∧ Meth K C m f ∧ Binds K fd ps []
  cl : Cls K C
theorem calM_of {P : Program} {w : World} {K : PySem.W.Frag} {mg : Str → Option Value} {base : Heap} {k : Nat} {C : Addr} {m : Str} {ps : List Str} {sp : Sp} {f : Addr} {fd : FuncData} (F : FnOk P w K mg base CX0 k f fd ps sp) (g : Meth K C m f) (b : Binds K fd ps []) (c : Cls K C) :
    CalM P w K mg base k C m ps sp := ⟨⟨f, fd, F, g, b⟩, c⟩
/-- o.m(..) -/
def tMet (C : Addr) (m : Str) (sp : Sp) (ta : TE) (t : TA) : TE := tMeth C m sp [] E0 ta t
theorem pe_calM {X : Cx} {k : Nat} {C : Addr} {m : Str} {ps : List Str} {sp : Sp} {o e : Expr} {es : List Expr} {ta : TE} {t : TA} {apos pos : Pos} {pl : Sem Bool} (c : CalM X.prog X.w X.K X.mg X.base k C m ps sp) (hr : Room k X.A) (ho : PE X o ta) (ha : PA X (e :: es) t)
    (h1 : starEach (e :: es) X.env = (false, eval e X.env) :: starEach es X.env := by rfl) (h2 : (backTo pos (starEach es X.env)).any (·.1) = false := by rfl)
    (h3 : eval (.Call (.Attribute o m apos) (e :: es) [] pos) X.env = (do
      let ov ← eval o X.env
      standAt apos.atName
      let (f, first) ← holding [ov] (getMethod ov m pl)
      callWith pos f first (backTo pos (starEach (e :: es) X.env)) (backToKw pos (keywordEach [] X.env))) := by rfl) : PE X (.Call (.Attribute o m apos) (e :: es) [] pos) (tMet C m sp ta t) := by
  obtain ⟨f, fd, F, g, b⟩ := c.ex
  exact pe_meth (CX := CX0) (E := E0) ho c.cl g F hr b .nil pass0 ha h1 h2 h3
theorem pe_calM0 {X : Cx} {k : Nat} {C : Addr} {m : Str} {ps : List Str} {sp : Sp} {o : Expr} {ta : TE} {apos pos : Pos} {pl : Sem Bool} (c : CalM X.prog X.w X.K X.mg X.base k C m ps sp) (hr : Room k X.A) (ho : PE X o ta)
    (h3 : eval (.Call (.Attribute o m apos) [] [] pos) X.env = (do
      let ov ← eval o X.env
      standAt apos.atName
      let (f, first) ← holding [ov] (getMethod ov m pl)
      callWith pos f first (backTo pos (starEach [] X.env)) (backToKw pos (keywordEach [] X.env))) := by rfl) : PE X (.Call (.Attribute o m apos) [] [] pos) (tMet C m sp ta tNil) := by
  obtain ⟨f, fd, F, g, b⟩ := c.ex
  exact pe_meth0 (CX := CX0) (E := E0) ho c.cl g F hr b .nil pass0 h3
end Vf

/-! Own layer: methods called and read, walks from the end. -/
namespace Vf
open PySem PySem.Spec PyProof.Rows L2 TL Evl
/-- what is read of the object at b -/
def BkR (K : PySem.W.Frag) (C : Addr) (H : Hp) (b bt bp : Addr) (T : List (List (Tx × Tx))) (Pl : List (List Int)) : Prop := BkI C H b bt bp ∧ IsLD H bt T ∧ IsLU K H bp (Pl.map (List.map V.int))
section
variable {K : PySem.W.Frag} {mg : Str → Option Value} {σ : L2.St} {H H2 : Hp} {ta tb te tn : TE} {t : TA} {C b bt bp : Addr} {T : List (List (Tx × Tx))} {Pl : List (List Int)} {D : Ends} {tz tu : TS} {i : Nat} {n : Int} {m : Str} {sp : Sp}
theorem BkR.ex (h : BkR K C H b bt bp T Pl) (e : Ex H H2) : BkR K C H2 b bt bp T Pl := ⟨h.1.ex e, h.2.1.ex e, h.2.2.ex e⟩
/-- what is known to be at b -/
def tK (b : Addr) : TE := fun _ H Q => Q (.ref b) H
theorem ev_k : Ev (tK b) σ H (.ref b) := fun H1 _ Q q => q H1 (Ex.refl H1)
theorem met_of (h : Ev ta σ H (.ref b)) (hb : BkI C H b bt bp) (n1 : ¬ m = "_parents") (n2 : ¬ m = "_trees") {H1 : Hp} (e : Ex H H1) {Q : VK} (q : ∀ H2, Ex H1 H2 → tCall sp [] E0 (tCons (tK b) t) σ H2 Q) : tMet C m sp ta t σ H1 Q :=
  h H1 e _ fun H2 e2 => by
    obtain ⟨⟨dx, a⟩, _⟩ := hb.ex (e.trans e2)
    exact ⟨b, dx, _, rfl, a, bk_no bt bp n1 n2, q H2 e2⟩
theorem ev_met {v : V} (h : Ev ta σ H (.ref b)) (hb : BkI C H b bt bp) (n1 : ¬ m = "_parents") (n2 : ¬ m = "_trees") (q : Ev (tCall sp [] E0 (tCons (tK b) t)) σ H v) : Ev (tMet C m sp ta t) σ H v := fun H1 e Q k =>
  met_of h hb n1 n2 e fun H2 e2 => q H2 (e.trans e2) Q fun H3 e3 => k H3 (e2.trans e3)
theorem el_met {xs : List V} (h : Ev ta σ H (.ref b)) (hb : BkI C H b bt bp) (n1 : ¬ m = "_parents") (n2 : ¬ m = "_trees") (q : EvL (tCall sp [] E0 (tCons (tK b) t)) σ H xs) : EvL (tMet C m sp ta t) σ H xs := fun H1 e Q k =>
  met_of h hb n1 n2 e fun H2 e2 => q H2 (e.trans e2) Q fun p H3 np e3 h3 => k p H3 (fresh_back e2 np) (e2.trans e3) h3
theorem ek_met {kvs : List (Key × V)} (h : Ev ta σ H (.ref b)) (hb : BkI C H b bt bp) (n1 : ¬ m = "_parents") (n2 : ¬ m = "_trees") (q : EvK (tCall sp [] E0 (tCons (tK b) t)) σ H kvs) : EvK (tMet C m sp ta t) σ H kvs := fun H1 e Q k =>
  met_of h hb n1 n2 e fun H2 e2 => q H2 (e.trans e2) Q fun p H3 np e3 h3 => k p H3 (fresh_back e2 np) (e2.trans e3) h3
theorem tu_met {xs : List V} (h : Ev ta σ H (.ref b)) (hb : BkI C H b bt bp) (n1 : ¬ m = "_parents") (n2 : ¬ m = "_trees") (q : EvTu K (tCall sp [] E0 (tCons (tK b) t)) σ H xs) : EvTu K (tMet C m sp ta t) σ H xs := fun H1 e Q k =>
  met_of h hb n1 n2 e fun H2 e2 => q H2 (e.trans e2) Q fun p H3 e3 h3 => k p H3 (e2.trans e3) h3
/-- a call for nothing -/
theorem q_none {v : V} (h : Ev te σ H v) (q : ∀ H1, Ex H H1 → tz D σ H1) : tSeq (tDrop te) tz D σ H := h H (Ex.refl H) _ q
/-! ## small things -/
theorem e_lenLD (h : Ev ta σ H (.ref bt)) (hT : IsLD H bt T) : Ev (tCB (rLenS K) (tCons ta tNil)) σ H (.int (T.length : Int)) := by
  obtain ⟨ts, x, y⟩ := hT
  rw [← fz_len y]
  exact e_lenL (f := V.ref) h (sq_of x)
theorem e_ixLastN {α : Type} {f : α → V} {l : List α} (d : α) (h : EvL ta σ H (l.map f)) (hb : Ev tb σ H (.int (-1))) (hi : 0 < l.length) : Ev (tOp (rIxL K) ta tb) σ H (f (l.getLastD d)) := fun H1 e Q q =>
  h H1 e _ fun p H2 np e2 hp => hb H2 (e.trans e2) _ fun H3 e3 => rv_ixL (sq_of (e3 p _ hp)) (by
    unfold atI
    rw [ixN_at (j := l.length - 1) (by rw [List.length_map]; omega)]
    show (l.map f)[l.length - 1]? = _
    rw [List.getElem?_map, List.getElem?_eq_getElem (by omega)]
    show some _ = some _
    congr 2
    rw [List.getLastD_eq_getLast?, List.getLast?_eq_getElem?, List.getElem?_eq_getElem (by omega)]
    rfl) H3 (Ex.refl H3) Q fun H4 e4 => q H4 ((e2.trans e3).trans e4)
/-- over a tuple of plain things -/
theorem l_mapT {β γ : Type} {f : γ → V} {f2 : β → V} {l : List γ} {tp : Addr} {tl' : TE} {jx : Nat} {ws : List Nat} (dv : γ) (g : γ → β) (h : Ev tl' σ H (.ref tp)) (hS : SqT K H tp (l.map f)) (hz : l.length ≤ 40000)
    (he : ∀ y ∈ l, Ev te ((wipe σ ws).set jx (some (f y))) H (f2 (g y))) (hw : ∀ w, wipe ((wipe σ ws).set jx (some w)) ws = wipe σ ws := by exact fun _ => rfl) :
    EvL (tLc (iTup K tl') (gName jx) tYes te ws) σ H ((l.map g).map f2) := by
  have q := l_filU (t := tYes) (te := te) (fun _ => true) g dv h hS hz (fun _ _ => fun H1 _ Q k => k H1 (Ex.refl H1)) (fun y hy _ => he y hy) hw
  rw [show l.filter (fun _ => true) = l from List.filter_eq_self.mpr fun _ _ => rfl] at q
  exact q
/-- for x in a tuple that is told -/
theorem q_loopW {α S R : Type} {f : α → V} {l : List α} {tl' : TE} (step : S → α → Stp S R) (s0 : S) (Rep : Addr → S → L2.St → Hp → Prop) {j : Nat} (h : EvTu K tl' σ H (l.map f)) (h0 : ∀ p H1, Ex H H1 → SqT K H1 p (l.map f) → Rep p s0 σ H1)
    (hl : ∀ p s σ1 H1, Rep p s σ1 H1 → SqT K H1 p (l.map f)) (hb : ∀ p, BodyOk tu D j f step l s0 (Rep p)) (ho : ∀ p, OutOk tz D step l s0 (Rep p)) : tSeq (tFor (iTup K tl') (gName j) tu) tz D σ H :=
  h H (Ex.refl H) _ fun p H1 e hp => by
    have q := q_loopT (K := K) (D := D) (tz := tz) (tu := tu) (tl' := tK p) (σ := σ) step s0 (Rep p) (j := j) ev_k hp (fun H2 e2 => h0 p H2 (e.trans e2) (ex_t e2 hp)) (hl p) (hb p) (ho p)
    exact q
/-- for k in reversed(range(n)) -/
theorem q_loopB {S R : Type} (step : S → Nat → Stp S R) (s0 : S) (Rep : S → L2.St → Hp → Prop) {j : Nat} (h : Ev ta σ H (.int n)) (hn : 0 ≤ n ∧ n ≤ 100000) (h0 : ∀ H1, Ex H H1 → Rep s0 σ H1)
    (hb : BodyOk tu D j (fun k : Nat => V.int (n - 1 - (k : Int))) step (List.range n.toNat) s0 Rep) (ho : OutOk tz D step (List.range n.toNat) s0 Rep) : tSeq (tFor (iRevR (tRg1 ta)) (gName j) tu) tz D σ H :=
  h H (Ex.refl H) _ fun H1 e => ⟨n, rfl, by omega, by omega, by omega, by omega, by
    have en : (n - 0).toNat = n.toNat := by rw [Int.sub_zero]
    rw [en]
    refine for_rangeC (fun i σ1 H1 => ∃ s, runL step ((List.range n.toNat).take i) s0 = .go s ∧ Rep s σ1 H1) ⟨s0, rfl, h0 H1 e⟩ (fun i σ1 H1 hi p => ?_) (fun σ1 H1 p => ?_)
    · have hy : (List.range n.toNat)[i]? = some i := by rw [List.getElem?_range (by omega)]
      have c := loop_core (f := fun k : Nat => V.int (n - 1 - (k : Int))) hb ho hy p
      have ev : (0 : Int) + ((n.toNat : Nat) : Int) - 1 + (i : Int) * (-1) = n - 1 - (i : Int) := by omega
      rw [ev]
      exact c
    · exact loop_end ho (by rw [List.length_range]) p⟩
end
end Vf

/-! Own layer: what is told of the object and stays good. -/
namespace Vf
open PySem PySem.Spec PyProof.Rows L2 TL Evl
/-- the trees and the parents of a book fit one another -/
structure OkB (T : List (List (Tx × Tx))) (Pl : List (List Int)) : Prop where
  len : Pl.length = T.length
  pos : 0 < T.length
  big : T.length ≤ 2000
  lt : ∀ i j, i < Pl.length → j ∈ Pl.getD i [] → 0 ≤ j ∧ j < (i : Int)
  few : ∀ i, (Pl.getD i []).length ≤ 2
  ne : ∀ i : Nat, 0 < i → i < Pl.length → Pl.getD i [] ≠ []
theorem OkB.at {T : List (List (Tx × Tx))} {Pl : List (List Int)} (h : OkB T Pl) {n : Int} (h1 : 0 ≤ n) (h2 : n < (T.length : Int)) {j : Int} (hj : j ∈ Pl.getD n.toNat []) : 0 ≤ j ∧ j < n := by
  have e := h.len
  have q := h.lt n.toNat j (by omega) hj
  omega
/-- None -/
def nonV (_ : Unit) : V := .non
section
variable {P : Program} {w : World} {K : PySem.W.Frag} {mg : Str → Option Value} {base : Heap}
theorem okZ {x qual : Str} {st : Stmt} {f : Addr} {fd : FuncData} {N ps : List Str} {k : Nat} {sp : Sp} (F : Fun K x qual st f fd) (S : FnScope N ps (defScope st)) (len : ∀ vs H Q E, sp vs H Q E → vs.length = ps.length)
    (hb : ∀ (cdv : Value), PySem.W.kdsCode K cdv = true → ∀ (A : Around) (outer : List Env) (s : Shared) (H : Hp) (vs : List V) (Q : VK) (E : XK), Room k (A.deeper (envOfC qual (defScope st) s.heap.objs.size f cdv)) → sp vs H Q E →
      ∃ t, PSs (cxOf CX0 P w K mg base N qual (defScope st) f cdv A outer s H E).nox (defBody st) t ∧ t { nx := fun _ H' => Q .non H', rt := Q } (start N vs) H) : FnOk P w K mg base CX0 (k + 1) f fd ps sp :=
  okC F S len fun cdv hc A outer s H vs Q E hr hsp => by
    obtain ⟨t, h, q⟩ := hb cdv hc A outer s H vs Q E hr hsp
    exact ⟨t, h.nox, q⟩
end
section
variable {X : Cx} {st : Stmt}
theorem pe_fldK {K : PySem.W.Frag} {e : Expr} {ta : TE} {f : Str} {pos : Pos} (he : PE X e ta) (hb : attributeBase e f X.env (eval e X.env) = eval e X.env := by rfl) (hK : X.K = K := by rfl) : PE X (.Attribute e f pos) (tFld K ta f) := hK ▸ pe_fld he hb
/-- what is never reached -/
theorem ps_dead : PS X st (fun _ _ _ => False) := ⟨fun _ _ _ _ _ _ h => h.elim⟩
end
section
variable {w : World} {K : PySem.W.Frag} {σ : L2.St} {H H1 : Hp} {te tl' : TE} {t : TT} {a p : Addr} {l m : List Int} {xs : List V} {X : HO}
theorem z_is (h : EvZ w te σ H l) (e : l = m) : EvZ w te σ H m := e ▸ h
theorem sqt_ne {o : HO} {r : Addr} {q : List V} (hr : H r = some o) (nt : ∀ x, o ≠ .tup x ∧ ∀ u, o ≠ .frz u (.tup x)) (h : SqT K H p q) : SqT K (upd H r X) p q := by
  rcases h with (h | ⟨u, h⟩) | h
  · refine Or.inl (Or.inl ?_)
    rw [upd_ne fun z => ?_]
    · exact h
    · rw [z, hr] at h
      exact (nt q).1 (Option.some.inj h)
  · refine Or.inl (Or.inr ⟨u, ?_⟩)
    rw [upd_ne fun z => ?_]
    · exact h
    · rw [z, hr] at h
      exact (nt q).2 u (Option.some.inj h)
  · exact Or.inr h
theorem Mu.tupZ {q : List V} (mu : Mu H a X H1) (hp : H a = some (KS w a (l.map Sum.inl))) (h : SqT K H p q) : SqT K H1 p q := by
  obtain ⟨H2, e, rfl⟩ := mu
  exact sqt_ne (e a _ hp) (fun x => ⟨fun z => (nomatch z), fun u z => (nomatch z)⟩) (ex_t e h)
/-- over a tuple that is told -/
theorem l_filW {β γ : Type} {f : γ → V} {f2 : β → V} {m : List γ} {jx : Nat} {ws : List Nat} (c : γ → Bool) (g : γ → β) (dv : γ) (h : EvTu K tl' σ H (m.map f)) (hz : m.length ≤ 40000)
    (ht : ∀ y ∈ m, EvT t ((wipe σ ws).set jx (some (f y))) H (c y)) (he : ∀ y ∈ m, c y = true → Ev te ((wipe σ ws).set jx (some (f y))) H (f2 (g y))) (hw : ∀ w, wipe ((wipe σ ws).set jx (some w)) ws = wipe σ ws := by exact fun _ => rfl) :
    EvL (tLc (iTup K tl') (gName jx) t te ws) σ H (((m.filter c).map g).map f2) := fun H0 e0 Q q => h H0 e0 _ fun p H1 e1 hp =>
  l_filU (tl' := tK p) (H := H1) c g dv ev_k hp hz (fun y hy H3 e3 => ht y hy H3 ((e0.trans e1).trans e3)) (fun y hy hc H3 e3 => he y hy hc H3 ((e0.trans e1).trans e3)) hw H1 (Ex.refl H1) Q fun r H2 nr e2 h2 => q r H2 (fresh_back e1 nr) (e1.trans e2) h2
end
end Vf

/-! Own layer: a book that grows. -/
namespace Vf
open PySem PySem.Spec PyProof.Rows L2 TL Evl
/-- the heap without the two lists -/
def ers (H : Hp) (bt bp : Addr) : Hp := fun a => if a = bt ∨ a = bp then none else H a
section
variable {K : PySem.W.Frag} {H H0 H1 H2 H3 : Hp} {a b bt bp p : Addr} {o : HO} {T : List (List (Tx × Tx))} {Pl : List (List Int)} {C : Addr}
theorem ers_bt : ers H bt bp bt = none := if_pos (Or.inl rfl)
theorem ers_bp : ers H bt bp bp = none := if_pos (Or.inr rfl)
theorem ers_at (h : H a = some o) (h1 : a ≠ bt) (h2 : a ≠ bp) : ers H bt bp a = some o := by
  unfold ers
  rw [if_neg fun z => z.elim h1 h2]
  exact h
theorem ers_ex : Ex (ers H bt bp) H := fun a o h => by
  unfold ers at h
  split at h
  · cases h
  · exact h
theorem ers_mono (e : Ex H H2) : Ex (ers H bt bp) (ers H2 bt bp) := fun a o h => by
  unfold ers at h ⊢
  split at h
  · cases h
  · rename_i n
    rw [if_neg n]
    exact e a o h
theorem ers_to (e : Ex H0 H) (n1 : H0 bt = none) (n2 : H0 bp = none) (eB : Ex (ers H bt bp) H3) : Ex H0 H3 := fun a o h =>
  eB a o (ers_at (e a o h) (fun z => by rw [z, n1] at h; cases h) (fun z => by rw [z, n2] at h; cases h))
theorem er_at (eB : Ex (ers H bt bp) H3) (h : H a = some o) (h1 : a ≠ bt) (h2 : a ≠ bp) : H3 a = some o := eB a o (ers_at h h1 h2)
theorem ld_lst (h : IsLD H bt T) : ∃ xs, H bt = some (.lst xs) := by
  obtain ⟨ts, x, _⟩ := h
  exact ⟨_, x⟩
theorem lu_lst {l : List (List V)} (h : IsLU K H bp l) : ∃ xs, H bp = some (.lst xs) := by
  obtain ⟨ts, x, _⟩ := h
  exact ⟨_, x⟩
theorem er_t {q : List V} (eB : Ex (ers H bt bp) H3) (hb : BkR K C H b bt bp T Pl) (h : SqT K H p q) : SqT K H3 p q := by
  obtain ⟨_, hT, hP⟩ := hb
  obtain ⟨x, hx⟩ := ld_lst hT
  obtain ⟨y, hy⟩ := lu_lst hP
  have ne : ∀ o, H p = some o → (∀ z, o ≠ .lst z) → H3 p = some o := fun o ho hn => er_at eB ho (fun z => hn x (by rw [z, hx] at ho; exact (Option.some.inj ho).symm)) (fun z => hn y (by rw [z, hy] at ho; exact (Option.some.inj ho).symm))
  rcases h with (h | ⟨u, h⟩) | h
  · exact Or.inl (Or.inl (ne _ h fun _ e => (nomatch e)))
  · exact Or.inl (Or.inr ⟨u, ne _ h fun _ e => (nomatch e)⟩)
  · exact Or.inr h
theorem er_i {c ct cp : Addr} (eB : Ex (ers H bt bp) H3) (hb : BkR K C H b bt bp T Pl) (h : BkI C H c ct cp) : BkI C H3 c ct cp := by
  obtain ⟨_, hT, hP⟩ := hb
  obtain ⟨x, hx⟩ := ld_lst hT
  obtain ⟨y, hy⟩ := lu_lst hP
  obtain ⟨⟨dx, h⟩, n⟩ := h
  exact ⟨⟨dx, er_at eB h (fun z => by rw [z, hx] at h; cases h) (fun z => by rw [z, hy] at h; cases h)⟩, n⟩
theorem er_lu {l : List (List V)} (eB : Ex (ers H bt bp) H3) (hb : BkR K C H b bt bp T Pl) (h : IsLU K H p l) (h1 : p ≠ bt) (h2 : p ≠ bp) : IsLU K H3 p l := by
  obtain ⟨ts, x, y⟩ := h
  exact ⟨ts, er_at eB x h1 h2, tups_mono (fun _ _ z => er_t eB hb z) y⟩
/-! ## what is promised of a call that makes the book grow -/
def RetB (K : PySem.W.Frag) (v : V) (bt bp : Addr) (B : Bkv) (H : Hp) (Q : VK) : Prop := ∀ H2, Ex (ers H bt bp) H2 → IsLD H2 bt B.1 → IsLU K H2 bp (B.2.map (List.map V.int)) → Q v H2
def spB (K : PySem.W.Frag) (R : List V → Hp → Addr → Addr → V → Bkv → Prop) : Sp := fun ws H Q _ => ∃ bt bp v B, R ws H bt bp v B ∧ RetB K v bt bp B H Q
end
section
variable {K : PySem.W.Frag} {σ : L2.St} {H : Hp} {ta te : TE} {t : TA} {b bt bp C : Addr} {D : Ends} {tz : TS} {i : Nat} {m : Str} {R : List V → Hp → Addr → Addr → V → Bkv → Prop} {P : List V → Hp → Prop} {v : V} {B : Bkv} {Q : VK}
theorem b_met (h : Ev ta σ H (.ref b)) (hb : BkI C H b bt bp) (n1 : ¬ m = "_parents") (n2 : ¬ m = "_trees") (ha : EvAx t σ H P) (hR : ∀ ws H1, Ex H H1 → P ws H1 → R (.ref b :: ws) H1 bt bp v B)
    (q : ∀ H3, Ex (ers H bt bp) H3 → IsLD H3 bt B.1 → IsLU K H3 bp (B.2.map (List.map V.int)) → Q v H3) : tMet C m (spB K R) ta t σ H Q :=
  h H (Ex.refl H) _ fun H1 e1 => by
    obtain ⟨⟨dx, a⟩, _⟩ := hb.ex e1
    refine ⟨b, dx, _, rfl, a, bk_no bt bp n1 n2, ha H1 e1 _ fun ws H2 e2 hp => ⟨bt, bp, v, B, ?_, fun H3 eB x y => q H3 ((ers_mono (e1.trans e2)).trans eB) x y⟩⟩
    rw [List.append_nil]
    exact hR ws H2 (e1.trans e2) hp
theorem b_call (ha : EvAx t σ H P) (hR : ∀ ws H1, Ex H H1 → P ws H1 → R ws H1 bt bp v B) (q : ∀ H3, Ex (ers H bt bp) H3 → IsLD H3 bt B.1 → IsLU K H3 bp (B.2.map (List.map V.int)) → Q v H3) : tCall (spB K R) [] E0 t σ H Q :=
  ha H (Ex.refl H) _ fun ws H2 e2 hp => ⟨bt, bp, v, B, by
    rw [List.append_nil]
    exact hR ws H2 e2 hp, fun H3 eB x y => q H3 ((ers_mono e2).trans eB) x y⟩
theorem q_b (h : te σ H fun _ H1 => tz D σ H1) : tSeq (tDrop te) tz D σ H := h
theorem s_b (h : te σ H fun _ H1 => D.nx σ H1) : tDrop te D σ H := h
theorem r_b (h : te σ H D.rt) : tRet te D σ H := h
theorem a_b (h : te σ H fun v H1 => tz D (σ.set i (some v)) H1) : tSeq (tAsg te (gName i)) tz D σ H := h
theorem ax_kn {tr : TA} {kvs : List (Key × V)} (h : EvK te σ H kvs) (hr : EvAx tr σ H P) : EvAx (tCons te tr) σ H (fun ws H2 => ∃ p w2, ws = .ref p :: w2 ∧ (H p = none ∧ H2 p = some (.dK kvs)) ∧ P w2 H2) := fun H1 e Q q =>
  h H1 e _ fun p H2 np e2 h2 => hr H2 (e.trans e2) _ fun ws H3 e3 hp => q (.ref p :: ws) H3 (e2.trans e3) ⟨p, ws, rfl, ⟨fresh_back e np, e3 p _ h2⟩, hp⟩
end
/-! ## a tree and its parents kept -/
def spKeep (K : PySem.W.Frag) (C : Addr) : Sp := fun ws H Q _ => ∃ (b bt bp pa d : Addr) (T : List (List (Tx × Tx))) (Pl : List (List Int)) (ps : List Int) (l : List (Tx × Tx)), ws = [.ref b, .ref pa, .ref d] ∧ BkR K C H b bt bp T Pl ∧ SqT K H pa (ps.map V.int) ∧ H d = some (.dK (kd vs l)) ∧ (T.length < 100000 ∧ Pl.length < 100000) ∧
  ∀ H2, (∀ a o, a ≠ bt → a ≠ bp → a ≠ d → H a = some o → H2 a = some o) → IsLD H2 bt (T ++ [l]) → IsLU K H2 bp ((Pl ++ [ps]).map (List.map V.int)) → Q (.int (T.length : Int)) H2
section
variable {K : PySem.W.Frag} {mg : Str → Option Value} {σ : L2.St} {H H2 : Hp} {tb tp td : TE} {C b bt bp pa d : Addr} {T : List (List (Tx × Tx))} {Pl : List (List Int)} {ps : List Int} {l : List (Tx × Tx)} {D : Ends}
theorem fz_new {ts : List Addr} (h : FzAt H ts T) (hd : Fz H d l) : FzAt H (ts ++ [d]) (T ++ [l]) := by
  induction h with
  | nil => exact .cons hd .nil
  | cons x _ ih => exact .cons x ih
theorem keep_read (Tb : BkT K mg C) (h1 : σ[0]? = some (some (.ref b))) (h2 : σ[1]? = some (some (.ref pa))) (h3 : σ[2]? = some (some (.ref d))) (hb : BkR K C H b bt bp T Pl) (hp : SqT K H pa (ps.map V.int)) (hd : H d = some (.dK (kd vs l))) (hz : T.length < 100000 ∧ Pl.length < 100000)
    (k : ∀ H2, (∀ a o, a ≠ bt → a ≠ bp → a ≠ d → H a = some o → H2 a = some o) → IsLD H2 bt (T ++ [l]) → IsLU K H2 bp ((Pl ++ [ps]).map (List.map V.int)) → D.rt (.int (T.length : Int)) H2) :
    tSeq (tFrz (tDrop (tBM K "list" rAppend (tFld K (tVar 0) "_trees") (tCons (tVar 2) tNil)))) (tSeq (tDrop (tBM K "list" rAppend (tFld K (tVar 0) "_parents") (tCons (tVar 1) tNil))) (tRet (tOp (rI0 fun i j => .int (i - j)) (tCB (rLenS K) (tCons (tFld K (tVar 0) "_trees") tNil)) (tC (.int 1))))) D σ H := by
  obtain ⟨hI, ⟨ts, hts, hfz⟩, hP⟩ := hb
  have ndt : d ≠ bt := fun z => by rw [z, hts] at hd; cases hd
  obtain ⟨yp, hyp⟩ := lu_lst hP
  have ndp : d ≠ bp := fun z => by rw [z, hyp] at hd; cases hd
  have nb : b ≠ bt := fun z => by
    obtain ⟨⟨dx, q⟩, _⟩ := hI
    rw [z, hts] at q
    cases q
  refine ⟨d, _, hd, trivial, fun od => ?_⟩
  -- behind the lock
  have Iz : BkI C (upd H d (.frz od (.dK (kd vs l)))) b bt bp := hI.upd hd trivial
  have tz : upd H d (.frz od (.dK (kd vs l))) bt = some (.lst (ts.map V.ref)) := by rw [upd_ne ndt.symm]; exact hts
  have fz : FzAt (upd H d (.frz od (.dK (kd vs l)))) ts T := Paired.mapP hfz fun _ _ z => z.upd hd trivial
  have pz : IsLU K (upd H d (.frz od (.dK (kd vs l)))) bp (Pl.map (List.map V.int)) := hP.upd ndp.symm hd trivial
  have az : SqT K (upd H d (.frz od (.dK (kd vs l)))) pa (ps.map V.int) := sqt_upd hd trivial hp
  refine q_app tz (e_fldT Tb (ev_var h1) Iz) (ev_var h3) (by rw [List.length_map, fz_len hfz]; exact hz.1) fun H1 e1 => ?_
  have t1 : H1 bt = some (.lst (ts.map V.ref)) := e1 _ _ tz
  have d1 : Fz H1 d l := ⟨od, e1 _ _ upd_same⟩
  have I1 : BkI C (upd H1 bt (.lst (ts.map V.ref ++ [.ref d]))) b bt bp := (Iz.ex e1).upd t1 trivial
  have T1 : IsLD (upd H1 bt (.lst (ts.map V.ref ++ [.ref d]))) bt (T ++ [l]) := ⟨ts ++ [d], by rw [upd_same, List.map_append]; rfl, fz_new (Paired.mapP (Paired.mapP fz fun _ _ z => z.ex e1) fun _ _ z => z.upd t1 trivial) (d1.upd t1 trivial)⟩
  have P1 : IsLU K (upd H1 bt (.lst (ts.map V.ref ++ [.ref d]))) bp (Pl.map (List.map V.int)) := (pz.ex e1).upd hI.2.symm t1 trivial
  have A1 : SqT K (upd H1 bt (.lst (ts.map V.ref ++ [.ref d]))) pa (ps.map V.int) := sqt_upd t1 trivial (ex_t e1 az)
  refine q_appLU (K := K) P1 (e_fldP Tb (ev_var h1) I1) (tu_of (ev_var h2) A1) (by rw [List.length_map]; exact hz.2) fun us H2 m2 hN2 => ?_
  obtain ⟨zp, hzp⟩ := lu_lst P1
  have T2 : IsLD H2 bt (T ++ [l]) := T1.mu m2 hI.2 hzp trivial
  have I2 : BkI C H2 b bt bp := I1.mu m2 hzp trivial
  have P2 : IsLU K H2 bp ((Pl ++ [ps]).map (List.map V.int)) := by rw [List.map_append]; exact hN2
  refine s_ret (v := .int (T.length : Int)) (ev_is (e_sub (e_lenLD (e_fldT Tb (ev_var h1) I2) T2) ev_c) ?_) fun H3 e3 => ?_
  · rw [List.length_append]
    show V.int _ = _
    congr 1
    show ((T.length + 1 : Nat) : Int) - 1 = _
    omega
  · refine k H3 (fun a o n1 n2 n3 ha => e3 a o ?_) (T2.ex e3) (P2.ex e3)
    refine m2.keep n2 ?_
    rw [upd_ne n1]
    exact e1 a o (by rw [upd_ne n3]; exact ha)
end
end Vf

/-! Own layer: a new book, and what makes it grow. -/
namespace Vf
open PySem PySem.Spec PyProof.Rows L2 TL Evl
section
variable {K : PySem.W.Frag} {mg : Str → Option Value} {σ : L2.St} {H H0 H1 : Hp} {ta te : TE} {t : TA} {b bt bp C : Addr} {D : Ends} {tz : TS} {i : Nat} {P : List V → Hp → Prop} {v : V} {B : Bkv} {Q : VK} {T : List (List (Tx × Tx))} {Pl : List (List Int)} {ps : List Int} {l : List (Tx × Tx)}
theorem RetB.mono (k : RetB K v bt bp B H0 Q) (e : Ex H0 H) : RetB K v bt bp B H Q := fun H2 e2 => k H2 ((ers_mono e).trans e2)
/-- nothing was changed -/
theorem RetB.stay (k : RetB K v bt bp (T, Pl) H0 Q) (e : Ex H0 H) (h : BkR K C H b bt bp T Pl) : Q v H := k H (Ex.trans ers_ex e) h.2.1 h.2.2
theorem k_met (e0 : Ex H0 H) (h : Ev ta σ H (.ref b)) (hb : BkR K C H b bt bp T Pl) (hz : T.length < 100000 ∧ Pl.length < 100000) (ha : EvAx t σ H P)
    (hP : ∀ ws H1, Ex H H1 → P ws H1 → ∃ pa d, ws = [.ref pa, .ref d] ∧ SqT K H1 pa (ps.map V.int) ∧ H0 d = none ∧ H1 d = some (.dK (kd vs l))) (q : RetB K (.int (T.length : Int)) bt bp (T ++ [l], Pl ++ [ps]) H0 Q) : tMet C "_keep" (spKeep K C) ta t σ H Q :=
  h H (Ex.refl H) _ fun H1 e1 => by
    obtain ⟨⟨dx, a⟩, _⟩ := hb.1.ex e1
    refine ⟨b, dx, _, rfl, a, bk_no bt bp (by decide +kernel) (by decide +kernel), ha H1 e1 _ fun ws H2 e2 hp => ?_⟩
    obtain ⟨pa, d, rfl, hpa, nd, hd⟩ := hP ws H2 (e1.trans e2) hp
    refine ⟨b, bt, bp, pa, d, T, Pl, ps, l, rfl, hb.ex (e1.trans e2), hpa, hd, hz, fun H3 f x y => q H3 (fun a o ha => ?_) x y⟩
    unfold ers at ha
    split at ha
    · cases ha
    · rename_i n
      exact f a o (fun z => n (Or.inl z)) (fun z => n (Or.inr z)) (fun z => by rw [z, nd] at ha; cases ha) (((e0.trans e1).trans e2) a o ha)
theorem retB_T {c : Bool} {x y : Bkv} (k : RetB K v bt bp (if c = true then x else y) H Q) (hb : c = true) : RetB K v bt bp x H Q := by
  rw [if_pos hb] at k
  exact k
theorem retB_F {c : Bool} {x y : Bkv} (k : RetB K v bt bp (if c = true then x else y) H Q) (hb : c = false) : RetB K v bt bp y H Q := by
  rw [hb, if_neg Bool.false_ne_true] at k
  exact k
theorem retB_ok {α : Type} {r : Res α} {g : α → Bkv} {x : Nat → Bkv} {a : α} (k : RetB K v bt bp (resM r g x) H Q) (h : r = .ok a) : RetB K v bt bp (g a) H Q := by
  rw [h] at k
  exact k
theorem retB_exc {α : Type} {r : Res α} {g : α → Bkv} {x : Nat → Bkv} {n : Nat} (k : RetB K v bt bp (resM r g x) H Q) (h : r = .exc n) : RetB K v bt bp (x n) H Q := by
  rw [h] at k
  exact k
end
/-! ## Book() -/
def spInit (K : PySem.W.Frag) (C : Addr) : Sp := fun ws H Q _ => ∃ (p dx : Addr), ws = [.ref p] ∧ H p = some (.ins C dx []) ∧
  ∀ (H2 : Hp) (bt bp : Addr), (∀ a o, a ≠ p → H a = some o → H2 a = some o) → H bt = none → H bp = none → BkR K C H2 p bt bp [[]] [[]] → Q .non H2
section
variable {K : PySem.W.Frag} {mg : Str → Option Value} {σ : L2.St} {H : Hp} {C p dx : Addr} {D : Ends} {tz : TS} {i : Nat}
theorem init_read (Tb : BkT K mg C) (h1 : σ[0]? = some (some (.ref p))) (hp : H p = some (.ins C dx []))
    (k : ∀ (H2 : Hp) (bt bp : Addr), (∀ a o, a ≠ p → H a = some o → H2 a = some o) → H bt = none → H bp = none → BkR K C H2 p bt bp [[]] [[]] → D.nx σ H2) :
    tSeq (sFld K (tVar 0) (tLst (tCons tDNewK tNil)) "_trees") (tFrz (sFld K (tVar 0) (tLst (tCons (tTup tNil) tNil)) "_parents")) D σ H := by
  intro d hd
  refine ⟨sz_of (by show 1 ≤ 100000; decide), fun bt hbt => ⟨_, h1, p, C, dx, [], rfl, ?_, Tb.cl, Tb.nT, (by show 0 < 1000; decide), ?_⟩⟩
  · have n1 : p ≠ d := ne_of_none hp hd
    have n2 : p ≠ bt := fun z => by
      rw [← z, upd_ne n1, hp] at hbt
      cases hbt
    rw [upd_ne n2, upd_ne n1]
    exact hp
  · have pd : p ≠ d := ne_of_none hp hd
    have bd : bt ≠ d := fun z => by
      rw [z, upd_same] at hbt
      cases hbt
    have hbt0 : H bt = none := by
      rw [upd_ne bd] at hbt
      exact hbt
    have pb : p ≠ bt := ne_of_none hp hbt0
    refine ⟨d, .dK [], by rw [upd_ne pd.symm, upd_ne bd.symm, upd_same], trivial, fun od => ?_⟩
    refine ⟨by show 0 ≤ _; exact Nat.zero_le _, fun pt hpt => ⟨sz_of (by show 1 ≤ 100000; decide), fun bp hbp => ⟨_, h1, p, C, dx, putF "_trees" (.ref bt) [], rfl, ?_, Tb.cl, Tb.nP, (by show 1 < 1000; decide), ?_⟩⟩⟩
    all_goals
      have td : pt ≠ d := fun z => by
        rw [z, upd_same] at hpt
        cases hpt
      have tp : pt ≠ p := fun z => by
        rw [z, upd_ne pd, upd_same] at hpt
        cases hpt
      have tb : pt ≠ bt := fun z => by
        rw [z, upd_ne bd, upd_ne pb.symm, upd_same] at hpt
        cases hpt
      have bt' : bp ≠ pt := fun z => by
        rw [z, upd_same] at hbp
        cases hbp
      rw [upd_ne bt'] at hbp
      have bd' : bp ≠ d := fun z => by
        rw [z, upd_same] at hbp
        cases hbp
      have bp' : bp ≠ p := fun z => by
        rw [z, upd_ne pd, upd_same] at hbp
        cases hbp
      have bb : bp ≠ bt := fun z => by
        rw [z, upd_ne bd, upd_ne pb.symm, upd_same] at hbp
        cases hbp
      have hbp0 : H bp = none := by
        rw [upd_ne bd', upd_ne bp', upd_ne bb, upd_ne bd'] at hbp
        exact hbp
      have hpt0 : H pt = none := by
        rw [upd_ne td, upd_ne tp, upd_ne tb, upd_ne td] at hpt
        exact hpt
    · rw [upd_ne bp'.symm, upd_ne tp.symm, upd_ne pd, upd_same]
    · refine k _ bt bp (fun a o na ha => ?_) hbt0 hbp0 ⟨⟨⟨dx, upd_same⟩, bb.symm⟩, ⟨[d], ?_, .cons ⟨od, ?_⟩ .nil⟩, ⟨[pt], ?_, .cons (Or.inl (Or.inl ?_)) .nil⟩⟩
      · rw [upd_ne na, upd_ne (ne_of_none ha hbp0), upd_ne (ne_of_none ha hpt0), upd_ne (ne_of_none ha hd), upd_ne na, upd_ne (ne_of_none ha hbt0), upd_ne (ne_of_none ha hd)]
        exact ha
      · rw [upd_ne pb.symm, upd_ne bb.symm, upd_ne tb.symm, upd_ne bd, upd_ne pb.symm, upd_same]
        rfl
      · rw [upd_ne pd.symm, upd_ne bd'.symm, upd_ne td.symm, upd_same]
        rfl
      · rw [upd_ne bp', upd_same]
        rfl
      · rw [upd_ne tp, upd_ne bt'.symm, upd_same]
        rfl
/-- Book() of the text -/
structure CalMk (P : Program) (w : World) (K : PySem.W.Frag) (mg : Str → Option Value) (base : Heap) (k : Nat) (C : Addr) : Prop where
  ex : ∃ f fd, Mk K C f ∧ FnOk P w K mg base CX0 k f fd ["self"] (spInit K C) ∧ Binds K fd ["self"] []
def tNewB (K : PySem.W.Frag) (C : Addr) : TE := tMake C (spInit K C) [] E0 tNil
theorem pe_newB {X : Cx} {k : Nat} {C : Addr} {p pos : Pos} (c : CalMk X.prog X.w X.K X.mg X.base k C) (hr : Room (k + 1) X.A) (hg : Gl X "Book") (hm : X.mg "Book" = some (.ref C)) : PE X (.Call (.Name "Book" p) [] [] pos) (tNewB X.K C) := by
  obtain ⟨f, fd, M, F, b⟩ := c.ex
  exact pe_make0 (CX := CX0) (E := E0) M F hr hg hm b .nil pass0
theorem q_newB (q : ∀ (p bt bp : Addr) (H1 : Hp), H p = none → H bt = none → H bp = none → Ex H H1 → BkR K C H1 p bt bp [[]] [[]] → tz D (σ.set i (some (.ref p))) H1) : tSeq (tAsg (tNewB K C) (gName i)) tz D σ H := by
  intro x dx nx ndx nex
  refine ⟨x, dx, rfl, upd_same, fun H2 bt bp f nbt nbp hb => ⟨rfl, ?_⟩⟩
  have nbt0 : H bt = none := by
    have : bt ≠ x := fun z => by rw [z, upd_same] at nbt; cases nbt
    rw [upd_ne this] at nbt
    have : bt ≠ dx := fun z => by rw [z, upd_same] at nbt; cases nbt
    rw [upd_ne this] at nbt
    exact nbt
  have nbp0 : H bp = none := by
    have : bp ≠ x := fun z => by rw [z, upd_same] at nbp; cases nbp
    rw [upd_ne this] at nbp
    have : bp ≠ dx := fun z => by rw [z, upd_same] at nbp; cases nbp
    rw [upd_ne this] at nbp
    exact nbp
  exact q x bt bp H2 nx nbt0 nbp0 (fun a o ha => f a o (ne_of_none ha nx) (by rw [upd_ne (ne_of_none ha nx), upd_ne (ne_of_none ha ndx)]; exact ha)) hb
end
end Vf
namespace Vf
open PySem PySem.Spec PyProof.Rows L2 TL Evl
theorem ps_fldK {X : Cx} {K : PySem.W.Frag} {o value : Expr} {f : Str} {pos pos' : Pos} {ta tv : TE} (ha : PE X o ta) (hv : PE X value tv) (hs : swapsWith value (some (.Attribute o f pos')) pos.line X.env = pure false := by rfl) (hK : X.K = K := by rfl) : PS X (.Assign [.Attribute o f pos'] value pos) (sFld K ta tv f) := hK ▸ ps_fld ha hv hs
section
variable {σ : L2.St} {H : Hp} {ta te : TE} {l : List (Tx × Tx)} {k : Tx}
theorem e_inDd (hk : Ev ta σ H (vs k)) (hd : EvD te σ H l) : Ev (tDIn ta te) σ H (.bl (dhas l k)) := fun H1 e Q q =>
  hk H1 e _ fun H2 e2 => hd H2 (e.trans e2) _ fun d H3 e3 h => ⟨d, _, rfl, dg_of h k, by
    have : ((dget l k).map vs).isSome = dhas l k := Option.isSome_map
    rw [this]
    exact q H3 (e2.trans e3)⟩
variable {K : PySem.W.Frag} {D : Ends} {tz tu : TS}
/-- for t in a new list of tuples -/
theorem q_loopX {S R : Type} {l : List (List Tx)} (step : S → List Tx → Stp S R) (s0 : S) (Rep : Addr → List Addr → S → L2.St → Hp → Prop) {j : Nat} (h : EvU2 K te σ H (l.map (List.map vs)))
    (h0 : ∀ p ts H1, H p = none → Ex H H1 → IsLV K H1 p ts (l.map (List.map vs)) → Rep p ts s0 σ H1) (hl : ∀ p ts s σ1 H1, Rep p ts s σ1 H1 → IsLV K H1 p ts (l.map (List.map vs)))
    (hb : ∀ p ts, H p = none → BodyOkU K tu D j step l s0 (Rep p ts)) (ho : ∀ p ts, H p = none → OutOk tz D step l s0 (Rep p ts)) : tSeq (tFor (iList K te) (gName j) tu) tz D σ H :=
  h H (Ex.refl H) _ fun p H1 np e1 hU => by
    have q := q_loopV (K := K) (D := D) (tz := tz) (tu := tu) (tl' := tK p) (H := H1) (σ := σ) step s0 (Rep p) (j := j) ev_k hU (fun ts H2 e2 hv => h0 p ts H2 np (e1.trans e2) hv) (hl p) (fun ts => hb p ts np) (fun ts => ho p ts np)
    exact q
end
end Vf

/-! Own layer: a thing many times; lists of lists. -/
namespace Vf
open PySem PySem.Spec PyProof.Rows L2 TL Evl
section
variable {K : PySem.W.Frag} {σ : L2.St} {H : Hp} {ta tb : TE} {k : Int}
/-- [x] * k -/
theorem l_rep1 {α : Type} {f : α → V} {x : α} (h : EvL ta σ H ([x].map f)) (hb : Ev tb σ H (.int k)) (hk : 0 ≤ k ∧ k ≤ 100000) : EvL (tOp rRep ta tb) σ H ((List.replicate k.toNat x).map f) := fun H1 e Q q =>
  h H1 e _ fun l H2 nl e2 h2 => hb H2 (e.trans e2) _ fun H3 e3 => ⟨l, k, [f x], rfl, rfl, e3 _ _ h2, by omega, by omega, sz_of (by rw [List.length_singleton]; omega), fun p np => q p _ (fresh_back (e2.trans e3) np) ((e2.trans e3).trans (Ex.new np)) (by
    rw [upd_same, List.map_replicate]
    congr 2
    exact List.flatten_replicate_singleton)⟩
end
/-! ## lists of lists of numbers -/
/-- a number and a text -/
def qI (q : Int × Tx) : List V := [V.int q.1, vs q.2]
abbrev AllL (H : Hp) : List Addr → List (List Int) → Prop := Paired fun a l => H a = some (.lst (l.map V.int))
section
variable {H H2 : Hp} {ts : List Addr} {L : List (List Int)}
theorem AllL.ex (h : AllL H ts L) (e : Ex H H2) : AllL H2 ts L := Paired.mapP h fun a _ z => e a _ z
theorem AllL.len : ∀ {ts : List Addr} {L : List (List Int)}, AllL H ts L → ts.length = L.length
  | _, _, .nil => rfl
  | _, _, .cons _ y => by rw [List.length_cons, List.length_cons, AllL.len y]
theorem AllL.snoc {a : Addr} {l : List Int} (h : AllL H ts L) (ha : H a = some (.lst (l.map V.int))) : AllL H (ts ++ [a]) (L ++ [l]) := by
  induction h with
  | nil => exact .cons ha .nil
  | cons x _ ih => exact .cons x ih
theorem AllL.at {x : V} : ∀ {L : List (List Int)} {i : Nat} {ts : List Addr}, AllL H ts L → (ts.map V.ref)[i]? = some x → ∃ a l, x = .ref a ∧ ts[i]? = some a ∧ L[i]? = some l ∧ H a = some (.lst (l.map V.int))
  | _, i, _, .nil, h => by simp at h
  | _, 0, _, .cons (a := t) (b := q) a r, h => by
    simp only [List.map_cons, List.getElem?_cons_zero, Option.some.injEq] at h
    exact ⟨t, q, h.symm, rfl, rfl, a⟩
  | _, i + 1, _, .cons (a := t) (b := q) a r, h => by
    obtain ⟨a2, l2, e, e1, e2, e3⟩ := AllL.at (i := i) r (by simpa using h)
    exact ⟨a2, l2, e, by simpa using e1, by simpa using e2, e3⟩
theorem AllL.upd {a : Addr} {X : HO} (h : AllL H ts L) (n : a ∉ ts) : AllL (upd H a X) ts L := by
  induction h with
  | nil => exact .nil
  | cons x _ ih =>
    refine .cons ?_ (ih fun z => n (List.mem_cons_of_mem _ z))
    rw [upd_ne fun e => n (by rw [← e]; exact List.mem_cons_self)]
    exact x
theorem AllL.there {a : Addr} : ∀ {ts : List Addr} {L : List (List Int)}, AllL H ts L → a ∈ ts → ∃ o, H a = some o
  | _, _, .nil, h => (nomatch h)
  | _, _, .cons x y, h => (List.mem_cons.mp h).elim (fun e => ⟨_, e ▸ x⟩) (AllL.there y)
/-- a new list of new lists -/
def EvLL (te : TE) (σ : L2.St) (H : Hp) (L : List (List Int)) : Prop := ∀ H1, Ex H H1 → ∀ Q : VK,
  (∀ p ts H2, H1 p = none → (∀ a ∈ ts, H1 a = none) → ts.Nodup → p ∉ ts → Ex H1 H2 → H2 p = some (.lst (ts.map V.ref)) → AllL H2 ts L → Q (.ref p) H2) → te σ H1 Q
end
section
variable {K : PySem.W.Frag} {σ : L2.St} {H : Hp} {te tl' : TE} {i j : Nat} {ws : List Nat} {pl : Addr}
theorem ll_map {l : List (Int × Tx)} (g : Int × Tx → List Int) (h : Ev tl' σ H (.ref pl)) (hS : IsLUr K H pl (l.map qI)) (hz : l.length ≤ 40000)
    (he : ∀ q ∈ l, EvL te (((wipe σ ws).set i (some (.int q.1))).set j (some (vs q.2))) H ((g q).map V.int)) (hw : ∀ v w, wipe (((wipe σ ws).set i (some v)).set j (some w)) ws = wipe σ ws := by exact fun _ _ => rfl) :
    EvLL (tLc (iList K tl') (gTup K 2 (gCons (gName i) (gCons (gName j) gNil))) tYes te ws) σ H (l.map g) := fun H0 e0 Q q => h H0 e0 _ fun H1 e1 => by
  obtain ⟨ts, h1, h3⟩ := hS.ex (e0.trans e1)
  refine ⟨pl, rfl, ⟨_, h1⟩, fun Dl hD => ?_⟩
  have hlen : ts.length = l.length := by rw [paired_len h3, List.length_map]
  refine lc_list (xs := ts.map V.ref) (fun k H5 => k ≤ l.length ∧ H1 Dl = none ∧ Ex H1 H5 ∧ ∃ us : List Addr, H5 Dl = some (.lst (us.map V.ref)) ∧ us.length = k ∧ (∀ a ∈ us, H1 a = none) ∧ us.Nodup ∧ Dl ∉ us ∧ AllL H5 us ((l.take k).map g))
    ⟨Nat.zero_le _, hD, Ex.new hD, [], upd_same, rfl, fun a ha => (nomatch ha), List.nodup_nil, List.not_mem_nil, .nil⟩ (fun k H5 _ hI => ex_l hI.2.2.1 h1) (fun k x H5 hx hI => ?_) (fun H5 hI => ?_)
  · obtain ⟨hk, _, e2, us, hu, hul, huf, hun, hud, hua⟩ := hI
    obtain ⟨a, y, rfl, hy, ha⟩ := tup_at (ts := ts) (i := k) h3 hx
    rw [List.getElem?_map] at hy
    cases hy2 : l[k]? with
    | none =>
      rw [hy2] at hy
      cases hy
    | some y2 =>
      rw [hy2] at hy
      have ey : qI y2 = y := Option.some.inj hy
      subst ey
      have hlt := (List.getElem?_eq_some_iff.mp hy2).1
      have hm := List.mem_of_getElem? hy2
      have eH : Ex H H5 := (e0.trans e1).trans e2
      refine ⟨a, _, rfl, ex_t e2 ha, rfl, ?_⟩
      refine ⟨_, _, rfl, _, _, rfl, rfl, hw _ _, ?_⟩
      refine (show EvT tYes _ H5 true from fun H1 _ Q k => k H1 (Ex.refl H1)) H5 (Ex.refl H5) _ fun H55 e55 => ?_
      rw [if_pos rfl]
      refine he y2 hm H55 (eH.trans e55) _ fun b H6 nb0 e60 hb => ?_
      have nb := fresh_back e55 nb0
      have e6 := e55.trans e60
      have nDb : Dl ≠ b := fun z => by
        rw [z] at hu
        rw [nb] at hu
        cases hu
      refine ⟨us.map V.ref, e6 _ _ hu, sz_lt (by rw [List.length_map, hul]; omega), hlt, hD, ?_, us ++ [b], ?_, by rw [List.length_append, hul]; rfl, fun a ha => ?_, ?_, ?_, ?_⟩
      · exact Ex.mut (e2.trans e6) hD
      · rw [upd_same, List.map_append]
        rfl
      · rcases List.mem_append.mp ha with z | z
        · exact huf a z
        · rw [List.mem_singleton.mp z]
          exact fresh_back e2 nb
      · rw [List.nodup_append]
        refine ⟨hun, List.pairwise_singleton _ _, fun a ha c hc e => ?_⟩
        rw [List.mem_singleton] at hc
        obtain ⟨q, hq⟩ := AllL.there hua ha
        rw [e, hc, nb] at hq
        cases hq
      · intro z
        rcases List.mem_append.mp z with z | z
        · exact hud z
        · exact nDb (List.mem_singleton.mp z)
      · rw [List.take_add_one, hy2, List.map_append]
        refine AllL.snoc ((hua.ex e6).upd hud) ?_
        rw [upd_ne nDb.symm]
        exact hb
  · obtain ⟨hk, _, e2, us, hu, hul, huf, hun, hud, hua⟩ := hI
    rw [show (ts.map V.ref).length = l.length by rw [List.length_map, hlen], List.take_length] at hua
    exact q Dl us H5 (fresh_back e1 hD) (fun a ha => fresh_back e1 (huf a ha)) hun hud (e1.trans e2) hu hua
end
end Vf
namespace Vf
open PySem PySem.Spec PyProof.Rows L2 TL Evl
section
variable {K : PySem.W.Frag} {σ : L2.St} {H : Hp} {ta tb te : TE} {i j : Nat} {D : Ends} {tz tu : TS} {p pa pb : Addr} {ts tsa tsb : List Addr} {L A B : List (List Int)}
theorem q_asgLL (h : EvLL te σ H L) (k : ∀ p ts H1, H p = none → (∀ a ∈ ts, H a = none) → ts.Nodup → p ∉ ts → Ex H H1 → H1 p = some (.lst (ts.map V.ref)) → AllL H1 ts L → tz D (σ.set i (some (.ref p))) H1) : tSeq (tAsg te (gName i)) tz D σ H :=
  h H (Ex.refl H) _ fun p ts H1 a b c d e f g => k p ts H1 a b c d e f g
/-- for a, b in zip(.., ..) of two such lists, both looked at alone -/
theorem q_zipLL (ha : Ev ta σ H (.ref pa)) (hb : Ev tb σ H (.ref pb)) (fa : H pa = some (.lst (tsa.map V.ref))) (aa : AllL H tsa A) (fb : H pb = some (.lst (tsb.map V.ref))) (ab : AllL H tsb B) (hl : A.length = B.length)
    (Pv : L2.St → Hp → Prop) (h0 : ∀ H1, Ex H H1 → Pv σ H1) (keep : ∀ σ1 H1, Pv σ1 H1 → Ex H H1)
    (body : ∀ (n : Nat) a b x y σ1 H1, A[n]? = some x → B[n]? = some y → Ex H H1 → (∃ H0, Pv σ1 H0 ∧ Ex H0 H1) → H1 a = some (.lst (x.map V.int)) → H1 b = some (.lst (y.map V.int)) → tu { D with nx := Pv, ct := Pv, bk := tz D } ((σ1.set i (some (.ref a))).set j (some (.ref b))) H1)
    (k : ∀ σ1 H1, Pv σ1 H1 → tz D σ1 H1) : tSeq (tFor (iZip K (tCons ta (tCons tb tNil))) (gTup K 2 (gCons (gName i) (gCons (gName j) gNil))) tu) tz D σ H :=
  ha H (Ex.refl H) _ fun H1 e1 => hb H1 e1 _ fun H2 e2 => by
    have e := e1.trans e2
    refine ⟨pa, pb, tsa.map V.ref, tsb.map V.ref, rfl, sq_of (e _ _ fa), sq_of (e _ _ fb), ?_⟩
    refine RZ.for_zipL (D := { D with nx := tz D }) (by rw [List.length_map, List.length_map, aa.len, ab.len, hl]) (fun _ σ1 H3 => Pv σ1 H3) (h0 H2 e) (fun n σ1 H3 hp => ⟨sq_of (keep σ1 H3 hp _ _ fa), sq_of (keep σ1 H3 hp _ _ fb)⟩) (fun n x y T σ1 H3 hx hy hp hT => ?_) (fun σ1 H3 hp => k σ1 H3 hp)
    obtain ⟨a, xa, rfl, _, h2, h3⟩ := AllL.at (aa.ex (keep σ1 H3 hp)) hx
    obtain ⟨b, xb, rfl, _, g2, g3⟩ := AllL.at (ab.ex (keep σ1 H3 hp)) hy
    have eT : Ex H3 (upd H3 T (.tup [.ref a, .ref b])) := Ex.new hT
    exact ⟨T, [.ref a, .ref b], rfl, Or.inl (Or.inl upd_same), rfl, _, _, rfl, _, _, rfl, rfl, body n a b xa xb σ1 _ h2 g2 ((keep σ1 H3 hp).trans eT) ⟨H3, hp, eT⟩ (eT _ _ h3) (eT _ _ g3)⟩
/-- for row in such a list: row.append(n) -/
theorem q_appAll {n : Int} (ha : Ev ta σ H (.ref p)) (fp : H p = some (.lst (ts.map V.ref))) (aL : AllL H ts L) (nd : ts.Nodup) (np : p ∉ ts) (small : ∀ l ∈ L, l.length < 100000) (hj : j < σ.length)
    (k : ∀ σ1 H1, (σ1 = σ ∨ ∃ r, σ1 = σ.set j r) → (∀ a o, a ∉ ts → H a = some o → H1 a = some o) → tz D σ1 H1) :
    tSeq (tFor (iList K ta) (gName j) (tDrop (tBM K "list" rAppend (tVar j) (tCons (tC (.int n)) tNil)))) tz D σ H := by
  refine q_forLn ha (sq_of fp) (fun i σ1 H1 => (σ1 = σ ∨ ∃ r, σ1 = σ.set j r) ∧ (∀ a o, a ∉ ts.take i → H a = some o → H1 a = some o)) (fun H1 e => ⟨Or.inl rfl, fun a o _ h => e a o h⟩) (fun i σ1 H1 _ hq => sq_of (hq.2 p _ (fun z => np (List.mem_of_mem_take z)) fp)) (fun i x σ1 H1 hx hq => ?_) (fun σ1 H1 hq => ?_)
  · obtain ⟨a, l, rfl, ht, hL, hv⟩ := AllL.at aL hx
    obtain ⟨hs, hk⟩ := hq
    have hi := (List.getElem?_eq_some_iff.mp ht).1
    have hn : a ∉ ts.take i := fun z => by
      obtain ⟨m, hm, e⟩ := List.getElem_of_mem z
      rw [List.length_take] at hm
      rw [List.getElem_take] at e
      have e2 := (List.getElem?_eq_some_iff.mp ht).2
      exact List.pairwise_iff_getElem.mp nd m i (by omega) hi (by omega) (e.trans e2.symm)
    have hv1 : H1 a = some (.lst (l.map V.int)) := hk a _ hn hv
    have hlen : j < σ1.length := by
      rcases hs with e | ⟨r, e⟩
      · rw [e]; exact hj
      · rw [e, List.length_set]; exact hj
    refine s_app hv1 (ev_var (List.getElem?_set_self hlen)) ev_c (by rw [List.length_map]; exact small l (List.mem_of_getElem? hL)) fun H2 e2 => ⟨?_, fun b o hb h => ?_⟩
    · rcases hs with e | ⟨r, e⟩
      · exact Or.inr ⟨_, by rw [e]⟩
      · exact Or.inr ⟨some (.ref a), by rw [e, List.set_set]⟩
    · have hb2 : b ∉ ts.take i ∧ b ≠ a := by
        rw [List.take_add_one, ht] at hb
        exact ⟨fun z => hb (List.mem_append_left _ z), fun z => hb (List.mem_append_right _ (by rw [z]; exact List.mem_singleton.mpr rfl))⟩
      rw [upd_ne hb2.2]
      exact e2 b o (hk b o hb2.1 h)
  · rw [List.length_map, List.take_length] at hq
    exact k σ1 H1 hq.1 hq.2
theorem qv_ints : ∀ (l : List Int), Paired (QV K H 1) (l.map V.int) (l.map V.int)
  | [] => .nil
  | x :: l => .cons (Or.inl ⟨rfl, rfl⟩) (qv_ints l)
/-- a list of lists told anew is the same -/
theorem qv_ll : ∀ {ts us : List Addr} {L : List (List Int)}, AllL H ts L → AllL H us L → Paired (QV K H 2) (ts.map V.ref) (us.map V.ref)
  | _, _, _, .nil, .nil => .nil
  | _, _, _, .cons (b := l) x xs, .cons y ys => .cons (Or.inr (Or.inr (Or.inl (Or.inl ⟨_, _, _, _, rfl, rfl, sq_of x, sq_of y, qv_ints l⟩)))) (qv_ll xs ys)
theorem e_eqZL {us : List Addr} (h : EvLL te σ H L) (hb : Ev tb σ H (.ref p)) (fp : H p = some (.lst (us.map V.ref))) (aL : AllL H us L) : Ev (tOp (rQEq K) te tb) σ H (.bl true) := fun H1 e1 Q q =>
  h H1 e1 _ fun r ts H2 _ _ _ _ e2 hr ar => hb H2 (e1.trans e2) _ fun H3 e3 => ⟨2, by decide, Or.inl (Or.inl ⟨r, p, _, _, rfl, rfl, sq_of (e3 r _ hr), sq_of (((e1.trans e2).trans e3) p _ fp), qv_ll (ar.ex e3) (aL.ex ((e1.trans e2).trans e3))⟩), q H3 (e2.trans e3)⟩
end
end Vf
namespace Vf
open PySem PySem.Spec PyProof.Rows L2 TL Evl
section
variable {K : PySem.W.Frag} {σ : L2.St} {H H2 : Hp} {ta tb : TE} {a b : Addr} {l : List Int} {ts : List Addr} {L : List (List Int)}
theorem AllL.on (h : AllL H ts L) (k : ∀ a o, a ∈ ts → H a = Option.some o → H2 a = Option.some o) : AllL H2 ts L := by
  induction h with
  | nil => exact .nil
  | cons x _ ih => exact .cons (k _ _ List.mem_cons_self x) (ih fun a o ha => k a o (List.mem_cons_of_mem _ ha))
theorem e_neRR (h : Ev ta σ H (.ref a)) (ha : H a = some (.lst (l.map V.int))) (hb : Ev tb σ H (.ref b)) (hc : H b = some (.lst (l.map V.int))) : Ev (tOp (rQNeL K) ta tb) σ H (.bl false) := fun H1 e1 Q q =>
  h H1 e1 _ fun H2 e2 => hb H2 (e1.trans e2) _ fun H3 e3 => ⟨2, by decide, ⟨a, b, _, _, rfl, rfl, sq_of (((e1.trans e2).trans e3) _ _ ha), sq_of (((e1.trans e2).trans e3) _ _ hc), by
    clear ha hc
    induction l with
    | nil => exact .nil
    | cons x r ih => exact .cons (Or.inl ⟨rfl, rfl⟩) ih⟩, q H3 (e2.trans e3)⟩
end
end Vf

/-! Own layer: a new list of new dicts, told twice. -/
namespace Vf
open PySem PySem.Spec PyProof.Rows L2 TL Evl
abbrev AllD (H : Hp) : List Addr → List (List (Tx × Tx)) → Prop := Paired fun a l => H a = some (.dK (kd vs l))
section
variable {H H2 : Hp} {ts us : List Addr} {L : List (List (Tx × Tx))}
theorem AllD.ex (h : AllD H ts L) (e : Ex H H2) : AllD H2 ts L := Paired.mapP h fun a _ z => e a _ z
theorem AllD.snoc {a : Addr} {l : List (Tx × Tx)} (h : AllD H ts L) (ha : H a = some (.dK (kd vs l))) : AllD H (ts ++ [a]) (L ++ [l]) := by
  induction h with
  | nil => exact .cons ha .nil
  | cons x _ ih => exact .cons x ih
theorem AllD.upd {a : Addr} {xs : List V} {X : HO} (h : AllD H ts L) (ha : H a = some (.lst xs)) : AllD (upd H a X) ts L := Paired.mapP h fun b l z => by
  rw [upd_ne fun e => ?_]
  · exact z
  · rw [e, ha] at z
    cases z
def EvDs (te : TE) (σ : L2.St) (H : Hp) (L : List (List (Tx × Tx))) : Prop := ∀ H1, Ex H H1 → ∀ Q : VK, (∀ p ts H2, H1 p = none → Ex H1 H2 → H2 p = some (.lst (ts.map V.ref)) → AllD H2 ts L → Q (.ref p) H2) → te σ H1 Q
theorem qv_ds {K : PySem.W.Frag} : ∀ {ts us : List Addr} {L : List (List (Tx × Tx))}, (∀ l ∈ L, (dkeys l).Nodup) → AllD H ts L → AllD H us L → Paired (QV K H 2) (ts.map V.ref) (us.map V.ref)
  | _, _, _, _, .nil, .nil => .nil
  | _, _, _, n, .cons x xs, .cons y ys => .cons (qv_dict x y (dsame_refl (n _ List.mem_cons_self))) (qv_ds (fun l hl => n l (List.mem_cons_of_mem _ hl)) xs ys)
end
section
variable {K : PySem.W.Frag} {σ : L2.St} {H : Hp} {ta tb te : TE} {i : Nat} {ws : List Nat} {p : Addr} {us : List Addr} {L : List (List (Tx × Tx))} {D : Ends} {tz : TS}
theorem ds_mapR {ta' : TA} {j : Nat} {n : Int} (g : Nat → List (Tx × Tx)) (h : EvA ta' σ H [.int n]) (hn : 0 ≤ n ∧ n ≤ 40000) (he : ∀ k : Nat, (k : Int) < n → EvK te ((wipe σ ws).set j (some (.int (k : Int)))) H (kd vs (g k)))
    (hw : ∀ x, wipe ((wipe σ ws).set j (some x)) ws = wipe σ ws := by exact fun _ => rfl) : EvDs (tLc (iRng1 ta') (gName j) tYes te ws) σ H ((List.range n.toNat).map g) := fun H0 e Q q => h H0 e _ fun H1 e1 => ⟨n, rfl, by omega, by omega, fun Dl hD =>
  lc_range (lo := 0) (n := n.toNat) (fun k H5 => H1 Dl = none ∧ Ex H1 H5 ∧ ∃ us : List Addr, H5 Dl = some (.lst (us.map V.ref)) ∧ us.length = k ∧ AllD H5 us ((List.range k).map g)) ⟨hD, Ex.new hD, [], upd_same, rfl, .nil⟩ (fun k H5 hk hI => by
    obtain ⟨_, e2, us, hu, hul, hua⟩ := hI
    have e0 : (0 : Int) + (k : Int) = (k : Int) := Int.zero_add _
    refine ⟨hw _, ?_⟩
    refine (show EvT tYes _ H5 true from fun H1 _ Q k => k H1 (Ex.refl H1)) H5 (Ex.refl H5) _ fun H55 e55 => ?_
    rw [if_pos rfl, e0]
    refine he k (by omega) H55 (((e.trans e1).trans e2).trans e55) _ fun b H6 nb e6 hb => ?_
    have e56 := e55.trans e6
    refine ⟨us.map V.ref, e56 _ _ hu, sz_lt (by rw [List.length_map, hul]; omega), hD, Ex.mut (e2.trans e56) hD, us ++ [b], ?_, by rw [List.length_append, hul]; rfl, ?_⟩
    · rw [upd_same, List.map_append]
      rfl
    · rw [List.range_succ, List.map_append]
      exact ((hua.ex e56).snoc hb).upd (e56 _ _ hu)) (fun H5 hI => by
    obtain ⟨_, e2, us, hu, hul, hua⟩ := hI
    exact q Dl us H5 (fresh_back e1 hD) (e1.trans e2) hu hua)⟩
theorem q_asgDs (h : EvDs te σ H L) (k : ∀ p ts H1, H p = none → Ex H H1 → H1 p = some (.lst (ts.map V.ref)) → AllD H1 ts L → tz D (σ.set i (some (.ref p))) H1) : tSeq (tAsg te (gName i)) tz D σ H :=
  h H (Ex.refl H) _ fun p ts H1 a b c d => k p ts H1 a b c d
theorem e_eqDs (h : EvDs te σ H L) (hb : Ev tb σ H (.ref p)) (fp : H p = some (.lst (us.map V.ref))) (aL : AllD H us L) (n : ∀ l ∈ L, (dkeys l).Nodup) : Ev (tOp (rQEq K) te tb) σ H (.bl true) := fun H1 e1 Q q =>
  h H1 e1 _ fun r ts H2 _ e2 hr ar => hb H2 (e1.trans e2) _ fun H3 e3 => ⟨2, by decide, Or.inl (Or.inl ⟨r, p, _, _, rfl, rfl, sq_of (e3 r _ hr), sq_of (((e1.trans e2).trans e3) p _ fp), qv_ds n (ar.ex e3) (aL.ex ((e1.trans e2).trans e3))⟩), q H3 (e2.trans e3)⟩
end
end Vf
namespace Vf
open PySem PySem.Spec PyProof.Rows L2 TL Evl
theorem v_callA {R : List V → Hp → V → Prop} {σ : L2.St} {H : Hp} {t : TA} {P : List V → Hp → Prop} {v : V} {E : XK} (h : EvAx t σ H P) (hR : ∀ ws H1, Ex H H1 → P ws H1 → R ws H1 v) : Ev (tCall (spP R) [] E t) σ H v := fun H1 e Q q =>
  h H1 e _ fun ws H2 e2 hp => ⟨v, by
    rw [List.append_nil]
    exact hR ws H2 (e.trans e2) hp, fun H3 e3 => q H3 (e2.trans e3)⟩
end Vf

/-! Own layer: two readings of one row, numbers in lists and tuples. -/
namespace Vf
open PySem PySem.Spec PyProof.Rows L2 TL Evl
section
variable {X : Cx} {st : Stmt}
/-- two derivations of a row: either may be read -/
def tEither (t u : TS) : TS := fun D σ H => t D σ H ∨ u D σ H
theorem ps_or {t u : TS} (h : PS X st t) (k : PS X st u) : PS X st (tEither t u) :=
  ⟨fun pins s σ H D I hw => hw.elim (h.run pins s σ H D I) (k.run pins s σ H D I)⟩
end
section
variable {K : PySem.W.Frag} {σ : L2.St} {H : Hp} {ta tb : TE} {p : Addr} {n : Int} {l : List Int}
theorem e_inRI (ha : Ev ta σ H (.int n)) (hb : Ev tb σ H (.ref p)) (hS : SqL K H p (l.map V.int)) : Ev (tOp (rIn K false) ta tb) σ H (.bl (decide (n ∈ l))) := inV_int n l ▸ ev_op ha hb (rv_isL hS rfl (flat_int l))
theorem e_niRI (ha : Ev ta σ H (.int n)) (hb : Ev tb σ H (.ref p)) (hS : SqL K H p (l.map V.int)) : Ev (tOp (rIn K true) ta tb) σ H (.bl (!decide (n ∈ l))) := inV_int n l ▸ ev_op ha hb (rv_niL hS rfl (flat_int l))
theorem e_inTuI (ha : Ev ta σ H (.int n)) (hb : EvTu K tb σ H (l.map V.int)) : Ev (tOp (rIn K false) ta tb) σ H (.bl (decide (n ∈ l))) := fun H1 e Q q =>
  ha H1 e _ fun H2 e2 => hb H2 (e.trans e2) _ fun p H3 e3 h3 => rv_isT h3 rfl (flat_int l) H3 (Ex.refl H3) Q fun H4 e4 => by rw [inV_int]; exact q H4 ((e2.trans e3).trans e4)
theorem e_niTuI (ha : Ev ta σ H (.int n)) (hb : EvTu K tb σ H (l.map V.int)) : Ev (tOp (rIn K true) ta tb) σ H (.bl (!decide (n ∈ l))) := fun H1 e Q q =>
  ha H1 e _ fun H2 e2 => hb H2 (e.trans e2) _ fun p H3 e3 h3 => rv_niT h3 rfl (flat_int l) H3 (Ex.refl H3) Q fun H4 e4 => by rw [inV_int]; exact q H4 ((e2.trans e3).trans e4)
end
end Vf
namespace Vf
open PySem PySem.Spec PyProof.Rows L2 TL Evl
/-! ## a dict from numbers to numbers -/
theorem putK_len {kvs : List (Key × V)} {k : Key} {v : V} : (putK kvs k v).length ≤ kvs.length + 1 := by
  unfold putK
  split
  · rw [List.length_map]
    exact Nat.le_succ _
  · rw [List.length_append]
    exact Nat.le_refl _
section
variable {K : PySem.W.Frag} {σ : L2.St} {H : Hp} {ta td te : TE} {d : Addr} {kvs : List (Key × V)} {n : Int} {v : V} {D : Ends} {tz tu : TS}
theorem dg_int (h : Rd H d (.dK kvs)) (n : Int) : DGet H d (.int n) (valV kvs (Sum.inl n)) := Or.inl ⟨kvs, Sum.inl n, h, rfl, rfl⟩
theorem e_inZd (hk : Ev ta σ H (.int n)) (hd : Ev td σ H (.ref d)) (h : Rd H d (.dK kvs)) : Ev (tDIn ta td) σ H (.bl (valV kvs (Sum.inl n)).isSome) := fun H1 e Q q =>
  hk H1 e _ fun H2 e2 => hd H2 (e.trans e2) _ fun H3 e3 => ⟨d, _, rfl, dg_int (ex_rd ((e.trans e2).trans e3) h) n, q H3 (e2.trans e3)⟩
theorem e_niZd (hk : Ev ta σ H (.int n)) (hd : Ev td σ H (.ref d)) (h : Rd H d (.dK kvs)) : Ev (tDNotIn ta td) σ H (.bl (!(valV kvs (Sum.inl n)).isSome)) := fun H1 e Q q =>
  hk H1 e _ fun H2 e2 => hd H2 (e.trans e2) _ fun H3 e3 => ⟨d, _, rfl, dg_int (ex_rd ((e.trans e2).trans e3) h) n, q H3 (e2.trans e3)⟩
theorem e_getZd (hd : Ev td σ H (.ref d)) (hk : Ev ta σ H (.int n)) (h : Rd H d (.dK kvs)) (hv : valV kvs (Sum.inl n) = some v) : Ev (tDGet td ta) σ H v := fun H1 e Q q =>
  hd H1 e _ fun H2 e2 => hk H2 (e.trans e2) _ fun H3 e3 => ⟨d, v, rfl, hv ▸ dg_int (ex_rd ((e.trans e2).trans e3) h) n, q H3 (e2.trans e3)⟩
theorem s_putZd (hv : Ev te σ H v) (hd : Ev td σ H (.ref d)) (hk : Ev ta σ H (.int n)) (h : H d = some (.dK kvs)) (hz : kvs.length < 100000) (q : ∀ H1, Mu H d (.dK (putK kvs (Sum.inl n) v)) H1 → D.nx σ H1) : sDPut td ta te D σ H :=
  hv H (Ex.refl H) _ fun H1 e1 => hd H1 e1 _ fun H2 e2 => hk H2 (e1.trans e2) _ fun H3 e3 =>
    ⟨d, upd H3 d (.dK (putK kvs (Sum.inl n) v)), rfl, Or.inl ⟨kvs, Sum.inl n, ((e1.trans e2).trans e3) d _ h, rfl, sz_lt hz, rfl⟩, q _ ⟨H3, (e1.trans e2).trans e3, rfl⟩⟩
/-- for x in a tuple that is told, by an invariant -/
theorem q_forW {tl' : TE} {j : Nat} {xs : List V} (h : EvTu K tl' σ H xs) (Pv : Addr → Nat → L2.St → Hp → Prop) (h0 : ∀ p H1, Ex H H1 → SqT K H1 p xs → Pv p 0 σ H1) (hl : ∀ p i σ1 H1, Pv p i σ1 H1 → SqT K H1 p xs)
    (hs : ∀ p i x σ1 H1, xs[i]? = some x → Pv p i σ1 H1 → tu { D with nx := Pv p (i + 1), ct := Pv p (i + 1), bk := tz D } (σ1.set j (some x)) H1) (hd : ∀ p σ1 H1, Pv p xs.length σ1 H1 → tz D σ1 H1) : tSeq (tFor (iTup K tl') (gName j) tu) tz D σ H :=
  h H (Ex.refl H) _ fun p H1 e hp => by
    have q := q_forT (K := K) (g := gName j) (D := D) (tz := tz) (tu := tu) (tl := tK p) (H := H1) (σ := σ) ev_k hp (Pv p) (fun H2 e2 => h0 p H2 (e.trans e2) (ex_t e2 hp)) (fun i σ1 H2 _ hq => hl p i σ1 H2 hq) (fun i x σ1 H2 hx hq => hs p i x σ1 H2 hx hq) (hd p)
    exact q
theorem s_forW {tl' : TE} {j : Nat} {xs : List V} (h : EvTu K tl' σ H xs) (Pv : Addr → Nat → L2.St → Hp → Prop) (h0 : ∀ p H1, Ex H H1 → SqT K H1 p xs → Pv p 0 σ H1) (hl : ∀ p i σ1 H1, Pv p i σ1 H1 → SqT K H1 p xs)
    (hs : ∀ p i x σ1 H1, xs[i]? = some x → Pv p i σ1 H1 → tu { D with nx := Pv p (i + 1), ct := Pv p (i + 1), bk := D.nx } (σ1.set j (some x)) H1) (hd : ∀ p σ1 H1, Pv p xs.length σ1 H1 → D.nx σ1 H1) : tFor (iTup K tl') (gName j) tu D σ H :=
  h H (Ex.refl H) _ fun p H1 e hp => by
    have q := s_forT (K := K) (g := gName j) (D := D) (tu := tu) (tl := tK p) (H := H1) (σ := σ) ev_k hp (Pv p) (fun H2 e2 => h0 p H2 (e.trans e2) (ex_t e2 hp)) (fun i σ1 H2 _ hq => hl p i σ1 H2 hq) (fun i x σ1 H2 hx hq => hs p i x σ1 H2 hx hq) (hd p)
    exact q
/-- l[::-1] -/
theorem l_rev {α : Type} {f : α → V} {l : List α} {p : Addr} (h : Ev te σ H (.ref p)) (hS : SqL K H p (l.map f)) : EvL (tRevL K te) σ H (l.reverse.map f) := fun H1 e Q q =>
  h H1 e _ fun H2 e2 => ⟨p, _, rfl, ex_l (e.trans e2) hS, fun r nr => q r _ (fresh_back e2 nr) (e2.trans (Ex.new nr)) (by rw [upd_same, List.map_reverse])⟩
end
/-! ## roads -/
/-- from j up to n, each one a parent of the next -/
inductive Road (P : List (List Int)) (n : Int) : Int → List Int → Prop where
  | one : Road P n n [n]
  | cons {k j : Int} {r : List Int} (h : Road P n k r) (m : j ∈ P.getD k.toNat []) : Road P n j (j :: r)
theorem Road.head {P : List (List Int)} {n j : Int} {r : List Int} (h : Road P n j r) : r.getD 0 0 = j := by cases h <;> rfl
theorem Road.last {P : List (List Int)} {n j : Int} {r : List Int} (h : Road P n j r) : r.getLastD 0 = n := by
  induction h with
  | one => rfl
  | cons h m ih =>
    cases h with
    | one => rfl
    | cons h2 m2 => exact ih
theorem Road.pos {P : List (List Int)} {n j : Int} {r : List Int} (h : Road P n j r) : 0 < r.length := by cases h <;> exact Nat.succ_pos _
theorem Road.stp {P : List (List Int)} {n j : Int} {r : List Int} (h : Road P n j r) : ∀ y : Nat, y + 1 < r.length → r.getD y 0 ∈ P.getD (r.getD (y + 1) 0).toNat [] := by
  induction h with
  | one =>
    intro y hy
    have : y + 1 < 1 := hy
    omega
  | cons h m ih =>
    intro y hy
    cases y with
    | zero =>
      have e := h.head
      show _ ∈ P.getD (List.getD (α := Int) _ 0 0).toNat []
      rw [e]
      exact m
    | succ y => exact ih y (by simpa using hy)
theorem Road.rng {P : List (List Int)} {n j : Int} {r : List Int} (hP : ∀ k i : Int, 0 ≤ k → k ≤ n → i ∈ P.getD k.toNat [] → 0 ≤ i ∧ i < k) (h0 : 0 ≤ n) (h : Road P n j r) : (0 ≤ j ∧ j ≤ n) ∧ (∀ x ∈ r, 0 ≤ x ∧ x ≤ n) ∧ (r.length : Int) + j ≤ n + 1 := by
  induction h with
  | one => exact ⟨⟨h0, Int.le_refl _⟩, fun x hx => by rw [List.mem_singleton.mp hx]; exact ⟨h0, Int.le_refl _⟩, by show (1 : Int) + n ≤ n + 1; omega⟩
  | cons h m ih =>
    obtain ⟨a, b, c⟩ := ih
    have q := hP _ _ a.1 a.2 m
    refine ⟨by omega, fun x hx => ?_, ?_⟩
    · rcases List.mem_cons.mp hx with e | e
      · rw [e]; omega
      · exact b x e
    · rw [List.length_cons]
      omega
end Vf
namespace Vf
open PySem PySem.Spec PyProof.Rows L2 TL Evl
section
variable {σ : L2.St} {H : Hp} {ta tb : TE} {a b : Int}
theorem e_pow (ha : Ev ta σ H (.int a)) (hb : Ev tb σ H (.int b)) (h : 0 ≤ b ∧ b ≤ 1000000 ∧ a.natAbs < 2 ^ 64) : Ev (tOp (rI CPow fun i j => .int (i ^ j.toNat)) ta tb) σ H (.int (a ^ b.toNat)) := ev_op ha hb (rv_I (C := CPow) h)
end
/-! ## a number written out -/
theorem dec_nat (n : Nat) : dec (n : Int) = (Nat.toDigits 10 n).map Char.toNat := by
  show tl (Str.ofString (Nat.repr n)) = _
  rw [tl_ofString, Nat.toList_repr]
theorem dec_dig (n : Nat) : ∀ c ∈ dec (n : Int), 48 ≤ c ∧ c ≤ 57 := fun c h => by
  rw [dec_nat] at h
  obtain ⟨d, hd, rfl⟩ := List.mem_map.mp h
  have q := Nat.isDigit_of_mem_toDigits (by decide) (by decide) hd
  simp only [Char.isDigit, Bool.and_eq_true, decide_eq_true_eq] at q
  exact ⟨q.1, q.2⟩
theorem dec_size (n k : Nat) (hk : 0 < k) (h : n < 10 ^ k) : (dec (n : Int)).length ≤ k := by
  rw [dec_nat, List.length_map]
  exact (Nat.length_toDigits_le_iff (by decide) hk).mpr h
theorem dec_pos (n : Nat) : 0 < (dec (n : Int)).length := by
  rw [dec_nat, List.length_map]
  exact Nat.length_toDigits_pos
theorem map_inj {α β : Type} {f : α → β} (hf : ∀ a b, f a = f b → a = b) : ∀ {l m : List α}, l.map f = m.map f → l = m
  | [], [], _ => rfl
  | [], _ :: _, h => by cases h
  | _ :: _, [], h => by cases h
  | x :: l, y :: m, h => by
    rw [List.map_cons, List.map_cons] at h
    injection h with h1 h2
    rw [hf _ _ h1, map_inj hf h2]
theorem dec_inj {m n : Nat} (h : dec (m : Int) = dec (n : Int)) : m = n := by
  rw [dec_nat, dec_nat] at h
  have e := map_inj (fun a b h => Char.toNat_inj.mp h) h
  rw [← Nat.ofDigitChars_toDigits (b := 10) (n := m) (by decide) (by decide), e, Nat.ofDigitChars_toDigits (by decide) (by decide)]
end Vf
namespace Vf
theorem log_of {n : Int} (h : n.natAbs < 2 ^ 64) : n.natAbs.log2 < 1920 := by
  by_cases z : n.natAbs = 0
  · rw [z]
    decide
  · exact Nat.lt_of_lt_of_le ((Nat.log2_lt z).mpr h) (by decide)
end Vf
namespace Vf
open PySem PySem.Spec PyProof.Rows L2 TL Evl
section
variable {K : PySem.W.Frag} {σ : L2.St} {H : Hp} {ta tb te tl' : TE} {i j : Nat} {ws : List Nat} {pl p r : Addr} {D : Ends} {tz : TS} {L : List (List Int)} {us : List Addr} {l : List Int}
/-- a list of new lists, over a list of numbers -/
theorem ll_mapL {l : List Int} (g : Int → List Int) (h : Ev tl' σ H (.ref pl)) (hS : SqL K H pl (l.map V.int)) (hz : l.length ≤ 40000)
    (he : ∀ q ∈ l, EvL te ((wipe σ ws).set i (some (.int q))) H ((g q).map V.int)) (hw : ∀ v, wipe ((wipe σ ws).set i (some v)) ws = wipe σ ws := by exact fun _ => rfl) :
    EvLL (tLc (iList K tl') (gName i) tYes te ws) σ H (l.map g) := fun H0 e0 Q q => h H0 e0 _ fun H1 e1 => by
  have h1 := ex_l (e0.trans e1) hS
  refine ⟨pl, rfl, ⟨_, h1⟩, fun Dl hD => ?_⟩
  refine lc_list (xs := l.map V.int) (fun k H5 => k ≤ l.length ∧ H1 Dl = none ∧ Ex H1 H5 ∧ ∃ us : List Addr, H5 Dl = some (.lst (us.map V.ref)) ∧ us.length = k ∧ (∀ a ∈ us, H1 a = none) ∧ us.Nodup ∧ Dl ∉ us ∧ AllL H5 us ((l.take k).map g))
    ⟨Nat.zero_le _, hD, Ex.new hD, [], upd_same, rfl, fun a ha => (nomatch ha), List.nodup_nil, List.not_mem_nil, .nil⟩ (fun k H5 _ hI => ex_l hI.2.2.1 h1) (fun k x H5 hx hI => ?_) (fun H5 hI => ?_)
  · obtain ⟨hk, _, e2, us, hu, hul, huf, hun, hud, hua⟩ := hI
    rw [List.getElem?_map] at hx
    cases hy2 : l[k]? with
    | none =>
      rw [hy2] at hx
      cases hx
    | some y2 =>
      rw [hy2] at hx
      have ey : V.int y2 = x := Option.some.inj hx
      subst ey
      have hlt := (List.getElem?_eq_some_iff.mp hy2).1
      have hm := List.mem_of_getElem? hy2
      have eH : Ex H H5 := (e0.trans e1).trans e2
      refine ⟨hw _, ?_⟩
      refine (show EvT tYes _ H5 true from fun H1 _ Q k => k H1 (Ex.refl H1)) H5 (Ex.refl H5) _ fun H55 e55 => ?_
      rw [if_pos rfl]
      refine he y2 hm H55 (eH.trans e55) _ fun b H6 nb0 e60 hb => ?_
      have nb := fresh_back e55 nb0
      have e6 := e55.trans e60
      have nDb : Dl ≠ b := fun z => by
        rw [z] at hu
        rw [nb] at hu
        cases hu
      refine ⟨us.map V.ref, e6 _ _ hu, sz_lt (by rw [List.length_map, hul]; omega), hlt, hD, ?_, us ++ [b], ?_, by rw [List.length_append, hul]; rfl, fun a ha => ?_, ?_, ?_, ?_⟩
      · exact Ex.mut (e2.trans e6) hD
      · rw [upd_same, List.map_append]
        rfl
      · rcases List.mem_append.mp ha with z | z
        · exact huf a z
        · rw [List.mem_singleton.mp z]
          exact fresh_back e2 nb
      · rw [List.nodup_append]
        refine ⟨hun, List.pairwise_singleton _ _, fun a ha c hc e => ?_⟩
        rw [List.mem_singleton] at hc
        obtain ⟨q, hq⟩ := AllL.there hua ha
        rw [e, hc, nb] at hq
        cases hq
      · intro z
        rcases List.mem_append.mp z with z | z
        · exact hud z
        · exact nDb (List.mem_singleton.mp z)
      · rw [List.take_add_one, hy2, List.map_append]
        refine AllL.snoc ((hua.ex e6).upd hud) ?_
        rw [upd_ne nDb.symm]
        exact hb
  · obtain ⟨hk, _, e2, us, hu, hul, huf, hun, hud, hua⟩ := hI
    rw [List.length_map, List.take_length] at hua
    exact q Dl us H5 (fresh_back e1 hD) (fun a ha => fresh_back e1 (huf a ha)) hun hud (e1.trans e2) hu hua
theorem e_neZL (hb : Ev ta σ H (.ref p)) (fp : H p = some (.lst (us.map V.ref))) (aL : AllL H us L) (h : EvLL te σ H L) : Ev (tOp (rQNeL K) ta te) σ H (.bl false) := fun H1 e1 Q q =>
  hb H1 e1 _ fun H2 e2 => h H2 (e1.trans e2) _ fun r ts H3 _ _ _ _ e3 hr ar => ⟨2, by decide, ⟨p, r, _, _, rfl, rfl, sq_of (((e1.trans e2).trans e3) p _ fp), sq_of hr, qv_ll (aL.ex ((e1.trans e2).trans e3)) ar⟩, q H3 (e2.trans e3)⟩
theorem e_neRN (h : Ev ta σ H (.ref p)) (hp : SqL K H p (l.map V.int)) (hb : EvL te σ H (l.map V.int)) : Ev (tOp (rQNeL K) ta te) σ H (.bl false) := fun H1 e1 Q q =>
  h H1 e1 _ fun H2 e2 => hb H2 (e1.trans e2) _ fun r H3 _ e3 hr => ⟨2, by decide, ⟨p, r, _, _, rfl, rfl, ex_l ((e1.trans e2).trans e3) hp, sq_of hr, by
    clear hp hb hr
    induction l with
    | nil => exact .nil
    | cons x r ih => exact .cons (Or.inl ⟨rfl, rfl⟩) ih⟩, q H3 (e2.trans e3)⟩
theorem e_ixVL {xs : List V} {v : V} {n : Int} (h : Ev ta σ H (.ref p)) (hS : H p = some (.lst xs)) (hb : Ev tb σ H (.int n)) (hv : atI xs n = some v) : Ev (tOp (rIxL K) ta tb) σ H v := ev_op h hb (rv_ixL (sq_of hS) hv)
theorem s_clearV {xs : List V} (ha : Ev ta σ H (.ref p)) (h : H p = some (.lst xs)) (q : ∀ H1, Mu H p (.lst []) H1 → D.nx σ H1) : tDrop (tBM0 K "list" rClear ta) D σ H :=
  ha H (Ex.refl H) _ fun H1 e1 => ⟨Or.inl ⟨rfl, _, sq_of (e1 p _ h)⟩, p, _, rfl, rfl, e1 _ _ h, q _ ⟨H1, e1, rfl⟩⟩
theorem q_clearV {xs : List V} (ha : Ev ta σ H (.ref p)) (h : H p = some (.lst xs)) (q : ∀ H1, Mu H p (.lst []) H1 → tz D σ H1) : tSeq (tDrop (tBM0 K "list" rClear ta)) tz D σ H := s_clearV (D := { D with nx := tz D }) ha h q
end
end Vf
namespace Vf
open PySem PySem.Spec PyProof.Rows L2 TL Evl
theorem at_k {ts : List Addr} {k : Nat} {a : Addr} (h : ts[k]? = some a) : atI (ts.map V.ref) (k : Int) = some (.ref a) := by
  obtain ⟨h1, h2⟩ := List.getElem?_eq_some_iff.mp h
  unfold atI
  rw [ixN_at (j := k) (by rw [List.length_map]; omega)]
  show (ts.map V.ref)[k]? = _
  rw [List.getElem?_map, h]
  rfl
end Vf
namespace Vf
open PySem PySem.Spec PyProof.Rows L2 TL Evl
theorem pg_lstK {X : Cx} (K : PySem.W.Frag) {es : List Expr} {k n : Nat} {pos : Pos} {t : TGs} (hc : X.calm = true) (h : PGs X es t) (hK : X.K = K := by rfl)
    (hn : (assignEach es X.env).length = n := by rfl) (hst : (assignEach es X.env).findIdx? (·.1) = none := by rfl) : PG X (.Tuple es k pos) (gLst K n t) := hK ▸ pg_lst hc h hn hst
section
variable {K : PySem.W.Frag} {σ : L2.St} {H : Hp} {ta tb : TE} {p : Addr} {l : List Int} {D : Ends} {tz : TS} {i : Nat}
theorem e_neTT (ha : Ev ta σ H (.ref p)) (hp : SqT K H p (l.map V.int)) (hb : EvTu K tb σ H (l.map V.int)) : Ev (tOp (rQNeT K) ta tb) σ H (.bl false) := fun H1 e1 Q q =>
  ha H1 e1 _ fun H2 e2 => hb H2 (e1.trans e2) _ fun r H3 e3 hr => ⟨2, by decide, ⟨p, r, _, _, rfl, rfl, ex_t ((e1.trans e2).trans e3) hp, hr, by
    clear hp hb hr
    induction l with
    | nil => exact .nil
    | cons x r ih => exact .cons (Or.inl ⟨rfl, rfl⟩) ih⟩, q H3 (e2.trans e3)⟩
end
end Vf
namespace Vf
open PySem PySem.Spec PyProof.Rows L2 TL Evl
theorem q_unp3 {K : PySem.W.Frag} {σ : L2.St} {H : Hp} {te : TE} {p : Addr} {D : Ends} {tz : TS} {i j k : Nat} {x y z : V} (h : Ev te σ H (.ref p)) (hs : SqL K H p [x, y, z]) (q : ∀ H1, Ex H H1 → tz D (((σ.set i (some x)).set j (some y)).set k (some z)) H1) :
    tSeq (tAsg te (gLst K 3 (gCons (gName i) (gCons (gName j) (gCons (gName k) gNil))))) tz D σ H :=
  h H (Ex.refl H) _ fun H1 e1 => ⟨p, _, rfl, ex_l e1 hs, rfl, _, _, rfl, _, _, rfl, _, _, rfl, rfl, q H1 e1⟩
end Vf
namespace Vf
open PySem PySem.Spec PyProof.Rows L2 TL Evl
theorem t_callN {sp : Sp} {t : TA} {σ : L2.St} {H : Hp} {ws : List V} {Q : Bool → Hp → Prop} (h : EvA t σ H ws) (q : ∀ H1, Ex H H1 → sp (ws ++ []) H1 (fun x H2 => ∃ c, x = .bl c ∧ Q (!c) H2) E0) : tNot (tB (tCall sp [] E0 t)) σ H Q := h H (Ex.refl H) _ q
end Vf

/-! Own layer: methods that may raise. -/
namespace Vf
open PySem PySem.Spec PyProof.Rows L2 TL Evl
structure CalMX (P : Program) (w : World) (K : PySem.W.Frag) (mg : Str → Option Value) (base : Heap) (k : Nat) (C : Addr) (m : Str) (ps : List Str) (sp : Sp) : Prop where
  ex : ∃ f fd, FnOk P w K mg base (L2N.CX P w) k f fd ps sp ∧ Meth K C m f ∧ Binds K fd ps []
  cl : Cls K C
theorem calMX_of {P : Program} {w : World} {K : PySem.W.Frag} {mg : Str → Option Value} {base : Heap} {k : Nat} {C : Addr} {m : Str} {ps : List Str} {sp : Sp} {f : Addr} {fd : FuncData} (F : FnOk P w K mg base (L2N.CX P w) k f fd ps sp) (g : Meth K C m f) (b : Binds K fd ps []) (c : Cls K C) :
    CalMX P w K mg base k C m ps sp := ⟨⟨f, fd, F, g, b⟩, c⟩
/-- o.m(..), which may raise -/
def tMetX (C : Addr) (m : Str) (sp : Sp) (E : L2.St → XK) (ta : TE) (t : TA) : TE := fun σ H Q => ta σ H fun x H1 => ∃ a dx fs, x = .ref a ∧ H1 a = some (.ins C dx fs) ∧ fs.lookup m = none ∧ t σ H1 fun vs H2 => sp (x :: vs) H2 Q (E σ)
theorem pe_calMX {X : Cx} {W : WX} {k : Nat} {C : Addr} {m : Str} {ps : List Str} {sp : Sp} {o e : Expr} {es : List Expr} {ta : TE} {t : TA} {apos pos : Pos} {pl : Sem Bool} (c : CalMX X.prog X.w X.K X.mg X.base k C m ps sp) (tk : L2N.Takes X W) (hr : Room k X.A) (ho : PE X o ta) (ha : PA X (e :: es) t)
    (h1 : starEach (e :: es) X.env = (false, eval e X.env) :: starEach es X.env := by rfl) (h2 : (backTo pos (starEach es X.env)).any (·.1) = false := by rfl)
    (h3 : eval (.Call (.Attribute o m apos) (e :: es) [] pos) X.env = (do
      let ov ← eval o X.env
      standAt apos.atName
      let (f, first) ← holding [ov] (getMethod ov m pl)
      callWith pos f first (backTo pos (starEach (e :: es) X.env)) (backToKw pos (keywordEach [] X.env))) := by rfl) : PE X (.Call (.Attribute o m apos) (e :: es) [] pos) (tMetX C m sp (WE W) ta t) := by
  obtain ⟨⟨f, fd, F, hm, b⟩, cl⟩ := c
  refine ⟨fun pins s σ H Q I h => ?_⟩
  refine PySem.W.methodCall_KW (pl := pl) (thn (ho.run pins s σ H _ I h) fun u s1 ⟨x, H1, I1, rx, a, dx, fs, ex, ea, l, q⟩ => ?_) h3
  subst ex
  obtain rfl : u = Value.ref a := rx
  refine getmeth_ok I1 ea cl hm l ?_
  refine PySem.W.callWith_K (first := [.ref a]) (h₀ := X.base) I.ok.mod.kin hm.kp (thn (ha.run pos pins s1 σ H1 _ I1 q) fun us s2 ⟨vs, H2, I2, r, q2⟩ => ⟨I2.kIn, ?_⟩) h1 h2
  exact run_fnS (us := .ref a :: us) (vs := .ref a :: vs) F hr b (L2N.passAt tk σ) I2 (.cons rfl r) q2
section
variable {K : PySem.W.Frag} {σ : L2.St} {H H0 : Hp} {ta te1 : TE} {t t2 : TA} {C b bt bp : Addr} {T : List (List (Tx × Tx))} {Pl : List (List Int)} {m : Str} {sp : Sp} {E : L2.St → XK} {P : List V → Hp → Prop} {Q : VK} {ps : List Int}
theorem mx_of (h : Ev ta σ H (.ref b)) (hb : BkI C H b bt bp) (n1 : ¬ m = "_parents") (n2 : ¬ m = "_trees") (ha : EvAx t σ H P) (q : ∀ ws H1, Ex H H1 → P ws H1 → sp (.ref b :: ws) H1 Q (E σ)) : tMetX C m sp E ta t σ H Q :=
  h H (Ex.refl H) _ fun H1 e1 => by
    obtain ⟨⟨dx, a⟩, _⟩ := hb.ex e1
    exact ⟨b, dx, _, rfl, a, bk_no bt bp n1 n2, ha H1 e1 _ fun ws H2 e2 hp => q ws H2 (e1.trans e2) hp⟩
/-- a version kept, of a call that may raise -/
theorem k_metX {Cs : Nat → Addr} {R : List V → Hp → Res (List (Tx × Tx)) → Prop} {r : Res (List (Tx × Tx))} (e0 : Ex H0 H) (h : Ev ta σ H (.ref b)) (hb : BkR K C H b bt bp T Pl) (hz : T.length < 100000 ∧ Pl.length < 100000) (h1 : EvTu K te1 σ H (ps.map V.int)) (ha : EvAx t2 σ H P)
    (hR : ∀ ws H1, Ex H H1 → P ws H1 → R ws H1 r) (qo : ∀ l, r = .ok l → RetB K (.int (T.length : Int)) bt bp (T ++ [l], Pl ++ [ps]) H0 Q) (qx : ∀ k, r = .exc k → ∀ H1, Ex H H1 → E σ (.ref (Cs k)) none H1) :
    tMet C "_keep" (spKeep K C) ta (tCons te1 (tCons (tCallS (spX Cs (fun a H Q => RetK (kd vs a) H Q) R) E t2) tNil)) σ H Q :=
  h H (Ex.refl H) _ fun H1 e1 => by
    obtain ⟨⟨dx, a⟩, _⟩ := hb.1.ex e1
    refine ⟨b, dx, _, rfl, a, bk_no bt bp (by decide +kernel) (by decide +kernel), h1 H1 e1 _ fun pa H2 e2 hpa => ha H2 (e1.trans e2) _ fun ws H3 e3 hp => ?_⟩
    have e23 := (e1.trans e2).trans e3
    refine ⟨r, hR ws H3 e23 hp, fun l er => ?_, fun k er H4 e4 => qx k er H4 (e23.trans e4)⟩
    intro d H4 nd e4 hd
    have e24 := e23.trans e4
    refine ⟨b, bt, bp, pa, d, T, Pl, ps, l, rfl, hb.ex e24, ex_t (e3.trans e4) hpa, hd, hz, fun H5 f x y => qo l er H5 (fun a o ha => ?_) x y⟩
    unfold ers at ha
    split at ha
    · cases ha
    · rename_i n
      exact f a o (fun z => n (Or.inl z)) (fun z => n (Or.inr z)) (fun z => by
        have q := e0 a o ha
        rw [z, fresh_back e23 nd] at q
        cases q) ((e0.trans e24) a o ha)
end
/-- of a class that is raised, where RoadError waits -/
structure ErrS (K : PySem.W.Frag) (Cs : Nat → Addr) (k : Nat) : Prop where
  ex : PySem.W.exmOne K (.ref (Cs k)) (.ref (Cs 0)) = some true
end Vf
namespace Vf
open PySem PySem.Spec PyProof.Rows L2 TL Evl
section
variable {K : PySem.W.Frag} {σ : L2.St} {H : Hp} {ta tb te : TE} {t : TA} {α : Type} {f : α → V} {l : List (Tx × α)} {d : Addr} {D : Ends} {tz tu : TS} {i j : Nat} {C : Addr} {m : Str} {sp : Sp} {E : L2.St → XK}
/-- a walk over a dict's keys that changes nothing, by an invariant of the names -/
theorem q_walkK (hσ : σ[i]? = some (some (.ref d))) (hd : Rd H d (.dK (kd f l))) (Pv : L2.St → Prop) (h0 : Pv σ)
    (hb : ∀ y ∈ dkeys l, ∀ (σ1 : L2.St) (H1 : Hp) (D' : Ends), Pv σ1 → RX H H1 → Rd H1 d (.dK (kd f l)) → (∀ σ2 H2, Pv σ2 → Ex H1 H2 → D'.nx σ2 H2) → tu D' (σ1.set j (some (vs y))) H1)
    (k : ∀ σ1 H1, Pv σ1 → Ex H H1 → tz D σ1 H1) : tSeq (tMay (tFor (iKeys (tVar i)) (gName j) tu)) tz D σ H := by
  refine q_loopK (S := Unit) (R := Unit) (fun _ _ => Stp.go ()) () (fun U o _ σ1 H1 => Pv σ1 ∧ Ex (upd H d (.frz o (.dK (kd f l)))) H1) hσ hd (fun U o _ _ => ⟨h0, Ex.refl _⟩) (fun U o s σ1 H1 h => h.2 d _ upd_same) (fun U o Rt hU hU2 hrt => ?_) (fun U o s σ1 H1 hU hU2 _ h => ?_)
  · intro Nx Bk n s y σ1 H1 hy hrun hp hnx hbk hret
    exact hb y (List.mem_of_getElem? hy) σ1 H1 _ hp.1 (RX.trans (rx_may (RX.refl H) hU hU2) (rx_of hp.2)) (Or.inr ⟨o, hp.2 d _ upd_same⟩) fun σ2 H2 p e => hnx () σ2 H2 rfl ⟨p, hp.2.trans e⟩
  · refine k σ1 _ h.1 ?_
    have e := ex_upd (a := d) (o := U) h.2
    rw [upd_upd, upd_self hU] at e
    exact e
theorem s_walkK (hσ : σ[i]? = some (some (.ref d))) (hd : Rd H d (.dK (kd f l))) (Pv : L2.St → Prop) (h0 : Pv σ)
    (hb : ∀ y ∈ dkeys l, ∀ (σ1 : L2.St) (H1 : Hp) (D' : Ends), Pv σ1 → RX H H1 → Rd H1 d (.dK (kd f l)) → (∀ σ2 H2, Pv σ2 → Ex H1 H2 → D'.nx σ2 H2) → tu D' (σ1.set j (some (vs y))) H1)
    (k : ∀ σ1 H1, Pv σ1 → Ex H H1 → D.nx σ1 H1) : tMay (tFor (iKeys (tVar i)) (gName j) tu) D σ H :=
  q_walkK (tz := tNext) hσ hd Pv h0 hb k
/-- try: .. -/
theorem q_try {tb' : WX → TS} {W : Ends → WX} (h : tb' (W { D with nx := tz D }) { D with nx := tz D } σ H) : tSeq (fun D σ H => tb' (W D) D σ H) tz D σ H := h
theorem a_mx (h : tMetX C m sp E ta t σ H fun v H1 => D.nx (σ.set i (some v)) H1) : tAsg (tMetX C m sp E ta t) (gName i) D σ H := h
theorem d_mx (h : tMetX C m sp E ta t σ H fun _ H1 => D.nx σ H1) : tDrop (tMetX C m sp E ta t) D σ H := h
theorem r_mx (h : tMetX C m sp E ta t σ H D.rt) : tRet (tMetX C m sp E ta t) D σ H := h
/-- a new dict that is alike -/
theorem e_neKD {l m : List (Tx × Tx)} {b : Addr} (ha : EvK ta σ H (kd vs l)) (hb : Ev tb σ H (.ref b)) (h2 : H b = some (.dK (kd vs m))) (h : dsame l m) : Ev (tOp rNeDA ta tb) σ H (.bl false) := fun H1 e Q q =>
  ha H1 e _ fun a H2 na e2 h1 => hb H2 (e.trans e2) _ fun H3 e3 => ⟨a, b, _, _, rfl, rfl, e3 a _ h1, ((e.trans e2).trans e3) b _ h2, (dsame_kd h).1, (dsame_kd h).2, q H3 (e2.trans e3)⟩
theorem e_neTuU {l : List Int} (ha : EvTu K ta σ H (l.map V.int)) (hb : EvU tb σ H (l.map V.int)) : Ev (tOp (rQNeT K) ta tb) σ H (.bl false) := fun H1 e1 Q q =>
  ha H1 e1 _ fun p H2 e2 hp => hb H2 (e1.trans e2) _ fun r H3 nr e3 hr => ⟨2, by decide, ⟨p, r, _, _, rfl, rfl, ex_t e3 hp, st_of hr, by
    clear ha hb hp hr
    induction l with
    | nil => exact .nil
    | cons x r ih => exact .cons (Or.inl ⟨rfl, rfl⟩) ih⟩, q H3 (e2.trans e3)⟩
end
end Vf
namespace Vf
open PySem PySem.Spec PyProof.Rows L2 TL Evl
section
variable {σ : L2.St} {H : Hp} {ta : TE} {t : TA} {D : Ends} {tz : TS} {i : Nat} {C : Addr} {m : Str} {sp : Sp} {Wf : Ends → WX}
theorem q_tryA (h : tMetX C m sp (WE (Wf { D with nx := tz D })) ta t σ H fun v H1 => tz D (σ.set i (some v)) H1) : tSeq (fun D σ H => tAsg (tMetX C m sp (WE (Wf D)) ta t) (gName i) D σ H) tz D σ H := h
theorem s_tryD (h : tMetX C m sp (WE (Wf D)) ta t σ H fun _ H1 => D.nx σ H1) : (fun D σ H => tDrop (tMetX C m sp (WE (Wf D)) ta t) D σ H) D σ H := h
theorem q_tryD (h : tMetX C m sp (WE (Wf { D with nx := tz D })) ta t σ H fun _ H1 => tz D σ H1) : tSeq (fun D σ H => tDrop (tMetX C m sp (WE (Wf D)) ta t) D σ H) tz D σ H := h
theorem s_tryR (h : tMetX C m sp (WE (Wf D)) ta t σ H D.rt) : (fun D σ H => tRet (tMetX C m sp (WE (Wf D)) ta t) D σ H) D σ H := h
end
end Vf

/-! Own layer: numbers that are none of a book's, and what raises for them. -/
namespace Vf
open PySem PySem.Spec PyProof.Rows L2 TL Evl
theorem pss_or {X : Cx} {st : List Stmt} {t u : TS} (h : PSs X st t) (k : PSs X st u) : PSs X st (tEither t u) :=
  ⟨fun pins s σ H D I hw => hw.elim (h.run pins s σ H D I) (k.run pins s σ H D I)⟩
/-- no number of the book -/
def Bad (T : List (List (Tx × Tx))) (v : V) : Prop := (∃ k, v = .bl k) ∨ ∃ n, v = .int n ∧ ¬ (0 ≤ n ∧ n < (T.length : Int))
/-- what raises wherever it is asked -/
def Rz (te : TE) (σ : L2.St) (H : Hp) : Prop := ∀ H1, Ex H H1 → ∀ Q : VK, te σ H1 Q
def RzA (t : TA) (σ : L2.St) (H : Hp) : Prop := ∀ H1, Ex H H1 → ∀ Q : List V → Hp → Prop, t σ H1 Q
/-- what gives something -/
def Evs (te : TE) (σ : L2.St) (H : Hp) : Prop := ∀ H1, Ex H H1 → ∀ Q : VK, (∀ x H2, Ex H1 H2 → Q x H2) → te σ H1 Q
section
variable {K : PySem.W.Frag} {w : World} {σ : L2.St} {H : Hp} {ta tb te : TE} {t : TA} {r : R2} {D : Ends} {tz : TS} {C b bt bp : Addr} {m : Str} {sp : Sp} {E : L2.St → XK} {P : List V → Hp → Prop} {f : List V → Hp → VK → Prop}
theorem rz_opl (h : Rz ta σ H) : Rz (tOp r ta tb) σ H := fun H1 e Q => h H1 e _
theorem rz_opr (h : Evs ta σ H) (k : Rz tb σ H) : Rz (tOp r ta tb) σ H := fun H1 e Q => h H1 e _ fun x H2 e2 => k H2 (e.trans e2) _
theorem rz_cb (h : RzA t σ H) : Rz (tCB f t) σ H := fun H1 e Q => h H1 e _
theorem rz_a (h : Rz te σ H) : RzA (tCons te t) σ H := fun H1 e Q => h H1 e _
theorem rz_lc {g : TG} {tt : TT} {ws : List Nat} (h : Rz ta σ H) : Rz (tLc (iList K ta) g tt te ws) σ H := fun H1 e Q => h H1 e _
theorem evs_z {l : List Int} (h : EvZ w te σ H l) : Evs te σ H := fun H1 e Q q => h H1 e _ fun p H2 _ e2 _ => q _ H2 e2
theorem r_rz (h : Rz te σ H) : tRet te D σ H := h H (Ex.refl H) _
theorem q_rz (h : Rz te σ H) : tSeq (tDrop te) tz D σ H := h H (Ex.refl H) _
theorem mx_rz (h : Ev ta σ H (.ref b)) (hb : BkI C H b bt bp) (n1 : ¬ m = "_parents") (n2 : ¬ m = "_trees") (ha : EvAx t σ H P) (q : ∀ ws H1, Ex H H1 → P ws H1 → ∀ Q, sp (.ref b :: ws) H1 Q (E σ)) : Rz (tMetX C m sp E ta t) σ H := fun H0 e0 Q =>
  h H0 e0 _ fun H1 e1 => by
    obtain ⟨⟨dx, a⟩, _⟩ := hb.ex (e0.trans e1)
    exact ⟨b, dx, _, rfl, a, bk_no bt bp n1 n2, ha H1 (e0.trans e1) _ fun ws H2 e2 hp => q ws H2 ((e0.trans e1).trans e2) hp _⟩
/-- {k: v} -/
theorem k_disp1 {k v : Tx} (hk : ∀ H, Ev ta σ H (vs k)) (hv : ∀ H, Ev tb σ H (vs v)) : EvK (tDisp [(ta, tb)]) σ H (kd vs [(k, v)]) := fun H1 _ Q q p np =>
  hk _ _ (Ex.refl _) _ fun H2 e2 => hv _ _ (Ex.refl _) _ fun H3 e3 => ⟨(e2.trans e3) p _ upd_same, [(ky k, vs v)], rfl, (by show 1 ≤ 15; decide), q p _ np (Ex.mut ((Ex.new np).trans (e2.trans e3)) np) upd_same⟩
end
end Vf
namespace Vf
open PySem PySem.Spec PyProof.Rows L2 TL Evl
section
variable {K : PySem.W.Frag} {w : World} {σ : L2.St} {H : Hp} {ta tb te t1 t2 tn : TE} {t : TA} {tr : TA} {r : R2} {D : Ends} {tz : TS} {C b bt bp : Addr} {m : Str} {sp : Sp} {P : List V → Hp → Prop} {R : List V → Hp → Addr → Addr → V → Bkv → Prop} {B : Bkv} {Wf : Ends → WX} {n n1 n2 : Int}
theorem ax_s (h : Evs te σ H) (hr : EvAx tr σ H P) : EvAx (tCons te tr) σ H (fun ws H2 => ∃ x w2, ws = x :: w2 ∧ P w2 H2) := fun H1 e Q q => h H1 e _ fun x H2 e2 => hr H2 (e.trans e2) _ fun ws H3 e3 hp => q (x :: ws) H3 (e2.trans e3) ⟨x, ws, rfl, hp⟩
/-- one of two new dicts -/
theorem evs_two {k1 k2 : List (Key × V)} (h1 : EvK t1 σ H k1) (h2 : EvK t2 σ H k2) (hn : Ev tn σ H (.int n)) (h : n = 0 ∨ n = 1) : Evs (tOp (rIxL K) (tLst (tCons t1 (tCons t2 tNil))) tn) σ H := fun H1 e Q q =>
  h1 H1 e _ fun p H2 _ e2 _ => h2 H2 (e.trans e2) _ fun p2 H3 _ e3 _ => ⟨by show 2 ≤ sizeLine; decide, fun l nl => hn _ (((e.trans e2).trans e3).trans (Ex.new nl)) _ fun H4 e4 => by
    have hv : ∃ x, atI [V.ref p, V.ref p2] n = some x := by
      rcases h with rfl | rfl
      · exact ⟨_, rfl⟩
      · exact ⟨_, rfl⟩
    obtain ⟨x, hx⟩ := hv
    exact rv_ixL (K := K) (sq_of (e4 l _ upd_same)) hx H4 (Ex.refl H4) Q fun H5 e5 => q x H5 ((((e2.trans e3).trans (Ex.new nl)).trans e4).trans e5)⟩
theorem e_ixNV {xs : List V} {v : V} (h : EvL ta σ H xs) (hb : Ev tb σ H (.int n)) (hv : atI xs n = some v) : Ev (tOp (rIxL K) ta tb) σ H v := fun H1 e Q q =>
  h H1 e _ fun p H2 np e2 hp => hb H2 (e.trans e2) _ fun H3 e3 => rv_ixL (K := K) (sq_of (e3 p _ hp)) hv H3 (Ex.refl H3) Q fun H4 e4 => q H4 ((e2.trans e3).trans e4)
theorem q_tryDC (h : tCallS sp (WE (Wf { D with nx := tz D })) t σ H fun _ H1 => tz D σ H1) : tSeq (fun D σ H => tDrop (tCallS sp (WE (Wf D)) t) D σ H) tz D σ H := h
theorem r_cs {E : L2.St → XK} (h : tCallS sp E t σ H D.rt) : tRet (tCallS sp E t) D σ H := h
/-- a book grows within a test -/
theorem b_ne {Q : Bool → Hp → Prop} (h : Ev ta σ H (.ref b)) (hb : BkI C H b bt bp) (x1 : ¬ m = "_parents") (x2 : ¬ m = "_trees") (ha : EvAx t σ H P) (hR : ∀ ws H1, Ex H H1 → P ws H1 → R (.ref b :: ws) H1 bt bp (.int n1) B) (hn : ∀ H1, Ev tb σ H1 (.int n2))
    (q : ∀ H3, Ex (ers H bt bp) H3 → IsLD H3 bt B.1 → IsLU K H3 bp (B.2.map (List.map V.int)) → Q (!decide (n1 = n2)) H3) : tTest (tOp rNe (tMet C m (spB K R) ta t) tb) σ H Q :=
  b_met h hb x1 x2 ha hR fun H3 eB hT hP => hn H3 H3 (Ex.refl H3) _ fun H4 e4 => rv_ne rfl H4 (Ex.refl H4) _ fun H5 e5 => ⟨_, rfl, by
    have := q H5 (eB.trans (e4.trans e5)) (hT.ex (e4.trans e5)) (hP.ex (e4.trans e5))
    rw [dec_int]
    exact this⟩
theorem b_eqV {Q : VK} (h : Ev ta σ H (.ref b)) (hb : BkI C H b bt bp) (x1 : ¬ m = "_parents") (x2 : ¬ m = "_trees") (ha : EvAx t σ H P) (hR : ∀ ws H1, Ex H H1 → P ws H1 → R (.ref b :: ws) H1 bt bp (.int n1) B) (hn : ∀ H1, Ev tb σ H1 (.int n2))
    (q : ∀ H3, Ex (ers H bt bp) H3 → IsLD H3 bt B.1 → IsLU K H3 bp (B.2.map (List.map V.int)) → Q (.bl (decide (n1 = n2))) H3) : tOp rEq (tMet C m (spB K R) ta t) tb σ H Q :=
  b_met h hb x1 x2 ha hR fun H3 eB hT hP => hn H3 H3 (Ex.refl H3) _ fun H4 e4 => rv_eq rfl H4 (Ex.refl H4) _ fun H5 e5 => by
    have := q H5 (eB.trans (e4.trans e5)) (hT.ex (e4.trans e5)) (hP.ex (e4.trans e5))
    rw [dec_int]
    exact this
/-- if A or B: .., A changes the heap -/
theorem q_orB {t u : TT} {tu : TS} (h : t σ H fun c H1 => if c = true then tu { D with nx := tz D } σ H1 else u σ H1 fun c2 H2 => if c2 = true then tu { D with nx := tz D } σ H2 else tz D σ H2) : tSeq (tIfS (L2.tOr t u) tu tNext) tz D σ H := by
  have H0 : (L2.tOr t u) σ H fun b H1 => if b = true then tu { D with nx := tz D } σ H1 else tNext { D with nx := tz D } σ H1 := by
    have e : (fun (c : Bool) (H1 : Hp) => if c = true then (if true = true then tu { D with nx := tz D } σ H1 else tNext { D with nx := tz D } σ H1) else u σ H1 fun b H1 => if b = true then tu { D with nx := tz D } σ H1 else tNext { D with nx := tz D } σ H1) = fun c H1 => if c = true then tu { D with nx := tz D } σ H1 else u σ H1 fun c2 H2 => if c2 = true then tu { D with nx := tz D } σ H2 else tz D σ H2 := by
      funext c H1
      cases c <;> rfl
    show t σ H _
    exact e ▸ h
  exact H0
theorem r_andB {b1 : Bool} {ta tb : TE} (h : Ev ta σ H (.bl true)) (k : ∀ H1, Ex H H1 → tb σ H1 D.rt) : tRet (tAndV ta tb) D σ H := h H (Ex.refl H) _ fun H1 e1 => ⟨true, rfl, k H1 e1⟩
theorem e_neNN {l : List Int} (ha : EvL ta σ H (l.map V.int)) (hb : EvL tb σ H (l.map V.int)) : Ev (tOp (rQNeL K) ta tb) σ H (.bl false) := fun H1 e1 Q q =>
  ha H1 e1 _ fun p H2 _ e2 hp => hb H2 (e1.trans e2) _ fun r H3 _ e3 hr => ⟨2, by decide, ⟨p, r, _, _, rfl, rfl, sq_of (e3 p _ hp), sq_of hr, by
    clear ha hb hp hr
    induction l with
    | nil => exact .nil
    | cons x r ih => exact .cons (Or.inl ⟨rfl, rfl⟩) ih⟩, q H3 (e2.trans e3)⟩
theorem e_neKK {l m : List (Tx × Tx)} (ha : EvK ta σ H (kd vs l)) (hb : EvK tb σ H (kd vs m)) (h : dsame l m) : Ev (tOp rNeDA ta tb) σ H (.bl false) := fun H1 e Q q =>
  ha H1 e _ fun a H2 na e2 h1 => hb H2 (e.trans e2) _ fun c H3 nc e3 h3 => ⟨a, c, _, _, rfl, rfl, e3 a _ h1, h3, (dsame_kd h).1, (dsame_kd h).2, q H3 (e2.trans e3)⟩
end
end Vf


namespace K10
open PySem PySem.Spec PyProof.Rows L2 TL Evl Vf
/-! ## written texts -/
def lDot : Tx := tx "."
theorem len_lDot : lDot.length = 1 := by decide +kernel
def lDots : Tx := tx ".."
theorem len_lDots : lDots.length = 2 := by decide +kernel
def lSigns : Tx := tx "abcdefghijklmnopqrstuvwxyzABCDEFGHIJKLMNOPQRSTUVWXYZ0123456789.-_"
theorem len_lSigns : lSigns.length = 65 := by decide +kernel
def lSl : Tx := tx "/"
theorem len_lSl : lSl.length = 1 := by decide +kernel
def lCut : Tx := tx "cut"
theorem len_lCut : lCut.length = 3 := by decide +kernel
def l_b79634d7 : Tx := tx "alike"
theorem len_l_b79634d7 : l_b79634d7.length = 5 := by decide +kernel
def l_fe05bcdc : Tx := tx "one"
theorem len_l_fe05bcdc : l_fe05bcdc.length = 3 := by decide +kernel
def l_d0941e68 : Tx := tx "other"
theorem len_l_d0941e68 : l_d0941e68.length = 5 := by decide +kernel
def l_4581fc00 : Tx := tx "clash"
theorem len_l_4581fc00 : l_4581fc00.length = 5 := by decide +kernel
def l_f28593d3 : Tx := tx "a/.."
theorem len_l_f28593d3 : l_f28593d3.length = 4 := by decide +kernel
def lX : Tx := tx "x"
theorem len_lX : lX.length = 1 := by decide +kernel
def l_3f14ecc8 : Tx := tx "later"
theorem len_l_3f14ecc8 : l_3f14ecc8.length = 5 := by decide +kernel
def lPut : Tx := tx "put"
theorem len_lPut : lPut.length = 3 := by decide +kernel
def l_7a38d8cb : Tx := tx "v"
theorem len_l_7a38d8cb : l_7a38d8cb.length = 1 := by decide +kernel
def lNil : Tx := tx ""
theorem len_lNil : lNil.length = 0 := by decide +kernel
def l_d1c88699 : Tx := tx "beside"
theorem len_l_d1c88699 : l_d1c88699.length = 6 := by decide +kernel
def l_e9d71f5e : Tx := tx "b"
theorem len_l_e9d71f5e : l_e9d71f5e.length = 1 := by decide +kernel

/-- the word of a class of errors -/
def word : Nat → Tx
  | 1 => tx "NoPath"
  | 2 => tx "NoFile"
  | 3 => tx "InTheWay"
  | 4 => tx "NoClash"
  | 5 => tx "Clashed"
  | 6 => tx "NoVersion"
  | _ => tx "SameVersion"

/-! ## mirrors -/
/-! ### is_part -/
def m_is_part (ptext : Tx) : Bool := (if (decide (ptext ∈ [lDot, lDots])) = true then false else ((decide ((1 : Int) ≤ (ptext.length : Int)) && decide ((ptext.length : Int) ≤ (12 : Int))) && ((ptext.map (fun k0 : Nat => (decide (k0 ∈ lSigns)))).all id)))
/-! ### is_path -/
def m_is_path_v1 (ptext : Tx) : List Tx := (cuts 47 ptext)
def m_is_path (ptext : Tx) : Bool := ((decide (((m_is_path_v1 ptext).length : Int) ≤ (8 : Int))) && (((m_is_path_v1 ptext).map (fun k0 : Tx => (m_is_part k0))).all id))
/-! ### above -/
def m_above_v1 (ppath : Tx) : List Tx := (cuts 47 ppath)
def m_above (ppath : Tx) : List Tx := ((List.range (((m_above_v1 ppath).length : Int) - (1 : Int)).toNat).map (fun k0 : Nat => (joinL lSl (cutG (m_above_v1 ppath) none (some ((1 : Int) + (k0 : Int)))))))
/-! ### is_beneath -/
def m_is_beneath (ppath : Tx) (pupper : Tx) : Bool := ((pupper ++ lSl).isPrefixOf ppath)
/-! ### overlaps -/
def m_overlaps (pfiles : List (Tx × Tx)) : List (List Tx) := ((dkeys pfiles).flatMap (fun k0 => (((m_above k0)).filter (fun k1 : Tx => (dhas pfiles k1))).map (fun k1 : Tx => [k1, k0])))
/-! ### is_blocked -/
def m_is_blocked (ptree : List (Tx × Tx)) (ppath : Tx) : Bool := (if (((m_above ppath).map (fun k0 : Tx => (dhas ptree k0))).any id) = true then true else (((dkeys ptree).map (fun k0 : Tx => (m_is_beneath k0 ppath))).any id))
/-! ### done -/
def m_done_v1 (pdeed : List Tx) : Tx := (pdeed.getD (1 : Int).toNat [])
def m_done_v2 (ptree : List (Tx × Tx)) : List (Tx × Tx) := ptree
def m_done_v3 (ptree : List (Tx × Tx)) (pdeed : List Tx) : List (Tx × Tx) := ddel (m_done_v2 ptree) (m_done_v1 pdeed)
def m_done_v4 (ptree : List (Tx × Tx)) (pdeed : List Tx) : List (Tx × Tx) := dput (m_done_v2 ptree) (m_done_v1 pdeed) (pdeed.getD (2 : Int).toNat [])
def m_done (ptree : List (Tx × Tx)) (pdeed : List Tx) : Res (List (Tx × Tx)) := (if (!(m_is_path (m_done_v1 pdeed))) = true then (.exc 1) else (if (decide ((pdeed.getD (0 : Int).toNat []) = lCut)) = true then (if (!dhas (m_done_v2 ptree) (m_done_v1 pdeed)) = true then (.exc 2) else (.ok (m_done_v3 ptree pdeed))) else (if (m_is_blocked ptree (m_done_v1 pdeed)) = true then (.exc 3) else (.ok (m_done_v4 ptree pdeed)))))
/-! ### changed -/
def m_changed_v1 (ptree : List (Tx × Tx)) : List (Tx × Tx) := ptree
def m_changed_step1  : List (Tx × Tx) → List Tx → Stp (List (Tx × Tx)) ((Res (List (Tx × Tx)))) := fun s1 y1 => (resM (m_done s1 y1) (fun lT2 => (Stp.go lT2)) (fun kT2 => (Stp.ret (.exc kT2))))
def m_changed (ptree : List (Tx × Tx)) (pdeeds : List (List Tx)) : Res (List (Tx × Tx)) := (aftL (runL m_changed_step1 pdeeds (m_changed_v1 ptree)) (fun s1 => (.ok s1)))
/-! ### mark_of -/
def m_mark_of (pbefore : Option Tx) (pleft : Option Tx) (pright : Option Tx) : Option Tx := (if (decide (pleft = pright)) = true then (if (decide (pleft = pbefore)) = true then none else (some l_b79634d7)) else (if (decide (pright = pbefore)) = true then (some l_fe05bcdc) else (if (decide (pleft = pbefore)) = true then (some l_d0941e68) else (some l_4581fc00))))
/-! ### marks -/
def m_marks_v1  : List (List Tx) := []
def m_marks_v2 (pelder : List (Tx × Tx)) (y1 : Tx) (pone : List (Tx × Tx)) (pother : List (Tx × Tx)) : Option Tx := (m_mark_of (dget pelder y1) (dget pone y1) (dget pother y1))
def m_marks_v3 (s1 : List (List Tx)) (y1 : Tx) (pelder : List (Tx × Tx)) (pone : List (Tx × Tx)) (pother : List (Tx × Tx)) : List (List Tx) := s1 ++ [[y1, ((m_marks_v2 pelder y1 pone pother).getD [])]]
def m_marks_v4 (pelder : List (Tx × Tx)) (y1 : Tx) (pone : List (Tx × Tx)) (pother : List (Tx × Tx)) (s1 : List (List Tx)) : List (List Tx) := if ((m_marks_v2 pelder y1 pone pother).isSome) = true then (m_marks_v3 s1 y1 pelder pone pother) else s1
def m_marks_step1 (pelder : List (Tx × Tx)) (pone : List (Tx × Tx)) (pother : List (Tx × Tx)) : List (List Tx) → Tx → Stp (List (List Tx)) (Unit) := fun s1 y1 => (Stp.go (m_marks_v4 pelder y1 pone pother s1))
def m_marks_v5 (pelder : List (Tx × Tx)) (pone : List (Tx × Tx)) (pother : List (Tx × Tx)) : List (List Tx) := outL (runL (m_marks_step1 pelder pone pother) (srt (uniT (uniT (dkeys pelder) (dkeys pone)) (dkeys pother))) m_marks_v1)
def m_marks (pelder : List (Tx × Tx)) (pone : List (Tx × Tx)) (pother : List (Tx × Tx)) : List (List Tx) := (m_marks_v5 pelder pone pother)
/-! ### single_clashes -/
def m_single_clashes (pelder : List (Tx × Tx)) (pone : List (Tx × Tx)) (pother : List (Tx × Tx)) : List Tx := (((m_marks pelder pone pother).filter (fun k0 : List Tx => (decide ((k0.getD 1 []) = l_4581fc00)))).map (fun k0 : List Tx => (k0.getD 0 [])))
/-! ### settle -/
def m_settle (pfiles : List (Tx × Tx)) (ppath : Tx) (ptext : Option Tx) : List (Tx × Tx) := match ptext with
  | none => ddel pfiles ppath
  | some t => dput pfiles ppath t
/-! ### agreed -/
def m_agreed_v1 (pelder : List (Tx × Tx)) : List (Tx × Tx) := pelder
def m_agreed_v2 (s1 : List (Tx × Tx)) (y1 : List Tx) : List (Tx × Tx) := m_settle s1 (y1.getD 0 []) none
def m_agreed_v3 (s1 : List (Tx × Tx)) (y1 : List Tx) (pother : List (Tx × Tx)) : List (Tx × Tx) := m_settle s1 (y1.getD 0 []) (dget pother (y1.getD 0 []))
def m_agreed_v4 (s1 : List (Tx × Tx)) (y1 : List Tx) (pone : List (Tx × Tx)) : List (Tx × Tx) := m_settle s1 (y1.getD 0 []) (dget pone (y1.getD 0 []))
def m_agreed_v5 (y1 : List Tx) (s1 : List (Tx × Tx)) (pother : List (Tx × Tx)) (pone : List (Tx × Tx)) : List (Tx × Tx) := if (decide ((y1.getD 1 []) = l_d0941e68)) = true then (m_agreed_v3 s1 y1 pother) else (m_agreed_v4 s1 y1 pone)
def m_agreed_v6 (y1 : List Tx) (s1 : List (Tx × Tx)) (pother : List (Tx × Tx)) (pone : List (Tx × Tx)) : List (Tx × Tx) := if (decide ((y1.getD 1 []) = l_4581fc00)) = true then (m_agreed_v2 s1 y1) else (m_agreed_v5 y1 s1 pother pone)
def m_agreed_step1 (pone : List (Tx × Tx)) (pother : List (Tx × Tx)) : List (Tx × Tx) → List Tx → Stp (List (Tx × Tx)) (Unit) := fun s1 y1 => (Stp.go (m_agreed_v6 y1 s1 pother pone))
def m_agreed_v7 (pone : List (Tx × Tx)) (pother : List (Tx × Tx)) (pelder : List (Tx × Tx)) : List (Tx × Tx) := outL (runL (m_agreed_step1 pone pother) (m_marks pelder pone pother) (m_agreed_v1 pelder))
def m_agreed (pelder : List (Tx × Tx)) (pone : List (Tx × Tx)) (pother : List (Tx × Tx)) : List (Tx × Tx) := (m_agreed_v7 pone pother pelder)
/-! ### clashes -/
def m_clashes_v1 (pelder : List (Tx × Tx)) (pone : List (Tx × Tx)) (pother : List (Tx × Tx)) : List (List Tx) := ((m_single_clashes pelder pone pother).map (fun k0 : Tx => [k0]))
def m_clashes (pelder : List (Tx × Tx)) (pone : List (Tx × Tx)) (pother : List (Tx × Tx)) : List (List Tx) := (srtU ((m_clashes_v1 pelder pone pother) ++ (m_overlaps (m_agreed pelder pone pother))))
/-! ### joined -/
def m_joined_v1 (pelder : List (Tx × Tx)) (pone : List (Tx × Tx)) (pother : List (Tx × Tx)) : List Tx := ((m_clashes pelder pone pother)).flatten
def m_joined_step1 (pelder : List (Tx × Tx)) (pone : List (Tx × Tx)) (pother : List (Tx × Tx)) : Unit → Tx → Stp (Unit) ((Res (List (Tx × Tx)))) := fun s1 y1 => (if (!decide (y1 ∈ (m_joined_v1 pelder pone pother))) = true then (Stp.ret (.exc 4)) else (Stp.go ()))
def m_joined_step2 (ppicks : List (Tx × Option Tx)) : Unit → Tx → Stp (Unit) ((Res (List (Tx × Tx)))) := fun s2 y2 => (if (!dhas ppicks y2) = true then (Stp.ret (.exc 5)) else (Stp.go ()))
def m_joined_v2 (pelder : List (Tx × Tx)) (pone : List (Tx × Tx)) (pother : List (Tx × Tx)) : List (Tx × Tx) := (m_agreed pelder pone pother)
def m_joined_v3 (s3 : List (Tx × Tx)) (y3 : (Tx × Option Tx)) : List (Tx × Tx) := m_settle s3 y3.1 y3.2
def m_joined_step3  : List (Tx × Tx) → (Tx × Option Tx) → Stp (List (Tx × Tx)) (Unit) := fun s3 y3 => (Stp.go (m_joined_v3 s3 y3))
def m_joined_v4 (ppicks : List (Tx × Option Tx)) (pelder : List (Tx × Tx)) (pone : List (Tx × Tx)) (pother : List (Tx × Tx)) : List (Tx × Tx) := outL (runL m_joined_step3 ppicks (m_joined_v2 pelder pone pother))
def m_joined (pelder : List (Tx × Tx)) (pone : List (Tx × Tx)) (pother : List (Tx × Tx)) (ppicks : List (Tx × Option Tx)) : Res (List (Tx × Tx)) := (aftL (runL (m_joined_step1 pelder pone pother) (dkeys ppicks) ()) (fun s1 => (aftL (runL (m_joined_step2 ppicks) (m_single_clashes pelder pone pother) ()) (fun s2 => (if (!decide ((m_overlaps (m_joined_v4 ppicks pelder pone pother)) = [])) = true then (.exc 5) else (.ok (m_joined_v4 ppicks pelder pone pother)))))))
/-! ### _check -/
def mB_check (pselfT : List (List (Tx × Tx))) (pselfP : List (List Int)) (pnumber : Int) : Unit := (if (false || (!(decide ((0 : Int) ≤ pnumber) && decide (pnumber < (pselfT.length : Int))))) = true then () else ())
/-! ### _has_changed -/
def mB_has_changed_v1 (pselfT : List (List (Tx × Tx))) (pselfP : List (List Int)) (pnumber : Int) : List Int := (pselfP.getD pnumber.toNat [])
def mB_has_changed_v2 (pselfT : List (List (Tx × Tx))) (pselfP : List (List Int)) (pnumber : Int) (ppath : Tx) : Option Tx := (dget (pselfT.getD pnumber.toNat []) ppath)
def mB_has_changed (pselfT : List (List (Tx × Tx))) (pselfP : List (List Int)) (pnumber : Int) (ppath : Tx) : Bool := ((decide (((mB_has_changed_v1 pselfT pselfP pnumber).length : Int) > (0 : Int))) && (((mB_has_changed_v1 pselfT pselfP pnumber).map (fun k0 : Int => (!decide ((dget (pselfT.getD k0.toNat []) ppath) = (mB_has_changed_v2 pselfT pselfP pnumber ppath))))).all id))
/-! ### many -/
def mB_many (pselfT : List (List (Tx × Tx))) (pselfP : List (List Int)) : Int := (pselfT.length : Int)
/-! ### tree -/
def mB_tree (pselfT : List (List (Tx × Tx))) (pselfP : List (List Int)) (pnumber : Int) : List (Tx × Tx) := (pselfT.getD pnumber.toNat [])
/-! ### parents -/
def mB_parents (pselfT : List (List (Tx × Tx))) (pselfP : List (List Int)) (pnumber : Int) : List Int := (pselfP.getD pnumber.toNat [])
/-! ### elders -/
def mB_elders_v1 (pnumber : Int) : List Int := [pnumber]
def mB_elders_v2 (s2 : List Int) (y2 : Int) : List Int := addZ s2 y2
def mB_elders_step2  : List Int → Int → Stp (List Int) (Unit) := fun s2 y2 => (Stp.go (mB_elders_v2 s2 y2))
def mB_elders_v3 (pselfT : List (List (Tx × Tx))) (pselfP : List (List Int)) (y1 : Nat) (pnumber : Int) (s1 : List Int) : List Int := outL (runL mB_elders_step2 (pselfP.getD ((pnumber + (1 : Int)) - 1 - (y1 : Int)).toNat []) s1)
def mB_elders_v4 (y1 : Nat) (pnumber : Int) (s1 : List Int) (pselfT : List (List (Tx × Tx))) (pselfP : List (List Int)) : List Int := if decide (((pnumber + (1 : Int)) - 1 - (y1 : Int)) ∈ s1) = true then (mB_elders_v3 pselfT pselfP y1 pnumber s1) else s1
def mB_elders_step1 (pselfT : List (List (Tx × Tx))) (pselfP : List (List Int)) (pnumber : Int) : List Int → Nat → Stp (List Int) (Unit) := fun s1 y1 => (Stp.go (mB_elders_v4 y1 pnumber s1 pselfT pselfP))
def mB_elders_v5 (pselfT : List (List (Tx × Tx))) (pselfP : List (List Int)) (pnumber : Int) : List Int := outL (runL (mB_elders_step1 pselfT pselfP pnumber) (List.range (pnumber + (1 : Int)).toNat) (mB_elders_v1 pnumber))
def mB_elders (pselfT : List (List (Tx × Tx))) (pselfP : List (List Int)) (pnumber : Int) : List Int := (srtZ (mB_elders_v5 pselfT pselfP pnumber))
/-! ### nearest -/
def mB_nearest (pselfT : List (List (Tx × Tx))) (pselfP : List (List Int)) (pone : Int) (pother : Int) : Int := ((srtZ (List.filter (fun z => decide (z ∈ (uniZ [] (mB_elders pselfT pselfP pother)))) (uniZ [] (mB_elders pselfT pselfP pone)))).getLastD 0)
/-! ### story -/
def mB_story (pselfT : List (List (Tx × Tx))) (pselfP : List (List Int)) (pnumber : Int) (ppath : Tx) : List Int := (((mB_elders pselfT pselfP pnumber).filter (fun k0 : Int => (mB_has_changed pselfT pselfP k0 ppath))).map (fun k0 : Int => k0))
/-! ### grow -/
def mB_grow (pselfT : List (List (Tx × Tx))) (pselfP : List (List Int)) (pparent : Int) (pdeeds : List (List Tx)) : Bkv := (pselfT ++ [(resD (m_changed (pselfT.getD pparent.toNat []) pdeeds))], pselfP ++ [[pparent]])
/-! ### _law_cell_at -/
def m_law_cell_at (p_script : List Int) (p_k : Int) : Int := (if (decide (p_k < (p_script.length : Int))) = true then (p_script.getD p_k.toNat 0) else (0 : Int))
def m_law (p_script : List Int) : Bool := true
theorem law_holds (ns : List Int) : m_law ns = true := rfl

theorem lNil_eq : lNil = [] := rfl
theorem lSl_eq : lSl = [47] := rfl
theorem b01 (b : Bool) : 0 ≤ (if b = true then (1 : Int) else 0) ∧ (if b = true then (1 : Int) else 0) ≤ 1 := by cases b <;> decide
theorem g26 (n : Nat) : 0 ≤ [(1 : Int), (26 : Int)].getD n 0 ∧ [(1 : Int), (26 : Int)].getD n 0 ≤ 26 := by
  match n with
  | 0 => decide
  | 1 => decide
  | n + 2 => exact ⟨by simp, by simp⟩
theorem jl_nil : ∀ l : List Tx, joinL [] l = l.flatten
  | [] => rfl
  | [p] => by simp [joinL]
  | p :: q :: r => by
    show p ++ ([] ++ joinL [] (q :: r)) = _
    rw [jl_nil (q :: r)]
    simp
theorem sumLen_flat : ∀ l : List Tx, l.flatten.length = sumLen l
  | [] => rfl
  | p :: r => by rw [List.flatten_cons, List.length_append, sumLen_flat r, sumLen_cons]
theorem jl0 (l : List Tx) : (joinL lNil l).length = sumLen l := by rw [lNil_eq, jl_nil, sumLen_flat]
theorem sum_ones {α : Type} (g : α → Tx) (hg : ∀ k, (g k).length = 1) : ∀ l : List α, sumLen (l.map g) = l.length
  | [] => rfl
  | k :: r => by
    rw [List.map_cons, sumLen_cons, hg, sum_ones g hg r, List.length_cons]
    omega
theorem sum_le {n : Nat} : ∀ {l : List Tx}, (∀ p ∈ l, p.length ≤ n) → sumLen l ≤ n * l.length
  | [], _ => by simp [sumLen_nil]
  | p :: r, h => by
    have h1 := h p List.mem_cons_self
    have h2 := sum_le (l := r) (fun q hq => h q (List.mem_cons_of_mem _ hq))
    rw [sumLen_cons, List.length_cons, Nat.mul_succ]
    omega
theorem getD_mem {l : List Nat} {i : Nat} (h : i < l.length) : l.getD i 0 ∈ l := by
  rw [List.getD_eq_getElem?_getD, List.getElem?_eq_getElem h]
  exact List.getElem_mem h
theorem mem_cut {α : Type} {l : List α} {a b : Option Int} {x : α} (h : x ∈ cutG l a b) : x ∈ l := List.mem_of_mem_drop (List.mem_of_mem_take h)

/-! names -/
/-- a part of a path, as the document has it -/
def Part (p : Tx) : Prop := (1 ≤ p.length ∧ p.length ≤ 12) ∧ (∀ c ∈ p, c ∈ lSigns) ∧ p ≠ lDot ∧ p ≠ lDots
instance (p : Tx) : Decidable (Part p) := by unfold Part; exact inferInstance
theorem signs_ne : ∀ c ∈ lSigns, c ≠ 47 ∧ c < 128 := by decide +kernel
theorem Part.no {p : Tx} (h : Part p) : 47 ∉ p := fun m => (signs_ne _ (h.2.1 _ m)).1 rfl

/-! paths as rows of parts -/
def Parts (l : List Tx) : Prop := (1 ≤ l.length ∧ l.length ≤ 8) ∧ ∀ p ∈ l, Part p
instance (l : List Tx) : Decidable (Parts l) := by unfold Parts; exact inferInstance
theorem Parts.sum {l : List Tx} (h : Parts l) : sumLen l ≤ 96 := by
  have h1 := sum_le (n := 12) (l := l) fun p hp => (h.2 p hp).1.2
  have h2 := h.1
  omega
theorem Parts.len {l : List Tx} (h : Parts l) : (joinL lSl l).length ≤ 104 := by
  have h1 := joinL_len lSl l
  have h2 := h.sum
  have h3 := h.1
  rw [lSl_eq] at h1 ⊢
  simp only [List.length_cons, List.length_nil] at h1
  omega
/-- the text of a path -/
def Pth (p : Tx) : Prop := ∃ l, Parts l ∧ p = joinL lSl l
theorem Pth.len {p : Tx} (h : Pth p) : p.length ≤ 104 := by
  obtain ⟨l, hl, rfl⟩ := h
  exact hl.len
theorem Parts.cuts {l : List Tx} (h : Parts l) : cuts 47 (joinL lSl l) = l := spl_join (List.length_pos_iff.mp h.1.1) fun p hp => (h.2 p hp).no
theorem cuts_two : ∀ (a r : Tx), cuts 47 (a ++ 47 :: r) = cuts 47 a ++ cuts 47 r
  | [], r => by rw [List.nil_append, cuts_hit, cuts_nil]; rfl
  | d :: a, r => by
    rw [List.cons_append]
    by_cases h : d = 47
    · subst h
      rw [cuts_hit, cuts_hit, cuts_two a r]
      rfl
    · rw [cuts_miss h, cuts_miss h, cuts_two a r]
      cases e : cuts 47 a with
      | nil => exact absurd e (cuts_ne 47 a)
      | cons p q => rfl
theorem joinL_two (c : Nat) : ∀ (P R : List Tx), P ≠ [] → R ≠ [] → joinL [c] (P ++ R) = joinL [c] P ++ c :: joinL [c] R
  | [], _, h, _ => absurd rfl h
  | [p], R, _, h => by
    cases R with
    | nil => exact absurd rfl h
    | cons q r => rfl
  | p :: q :: r, R, _, h => by
    have ih := joinL_two c (q :: r) R (by simp) h
    show p ++ ([c] ++ joinL [c] ((q :: r) ++ R)) = _
    rw [ih]
    simp [joinL]
/-- a text's parts put together again are the text -/
theorem join_cuts : ∀ p : Tx, joinL [47] (cuts 47 p) = p
  | [] => rfl
  | d :: r => by
    have ih := join_cuts r
    by_cases h : d = 47
    · subst h
      rw [cuts_hit]
      cases e : cuts 47 r with
      | nil => exact absurd e (cuts_ne 47 r)
      | cons p q =>
        rw [e] at ih
        show [] ++ ([47] ++ joinL [47] (p :: q)) = 47 :: r
        rw [ih]
        rfl
    · rw [cuts_miss h]
      cases e : cuts 47 r with
      | nil => exact absurd e (cuts_ne 47 r)
      | cons p q =>
        rw [e] at ih
        rw [← ih]
        cases q <;> rfl
instance (p : Tx) : Decidable (Pth p) := decidable_of_iff (Parts (cuts 47 p)) ⟨fun h => ⟨_, h, (join_cuts p).symm⟩, fun ⟨l, h, e⟩ => by rw [e, h.cuts]; exact h⟩
theorem pth_iff (p : Tx) : Pth p ↔ Parts (cuts 47 p) := ⟨fun ⟨l, h, e⟩ => by rw [e, h.cuts]; exact h, fun h => ⟨_, h, (join_cuts p).symm⟩⟩
/-- the one lies beneath the other -/
def Ben (p u : Tx) : Prop := (cuts 47 u).length < (cuts 47 p).length ∧ (cuts 47 p).take (cuts 47 u).length = cuts 47 u
instance (p u : Tx) : Decidable (Ben p u) := by unfold Ben; exact inferInstance
theorem prefix_ben (p u : Tx) : (u ++ lSl).isPrefixOf p = decide (Ben p u) := by
  rw [lSl_eq]
  by_cases h : Ben p u
  · rw [decide_eq_true h]
    have e : cuts 47 p = cuts 47 u ++ (cuts 47 p).drop (cuts 47 u).length := by
      conv => lhs; rw [← List.take_append_drop (cuts 47 u).length (cuts 47 p), h.2]
    have hd : (cuts 47 p).drop (cuts 47 u).length ≠ [] := fun z => by
      have := congrArg List.length z
      rw [List.length_drop, List.length_nil] at this
      have := h.1
      omega
    have e2 := congrArg (joinL [47]) e
    rw [joinL_two 47 _ _ (cuts_ne 47 u) hd, join_cuts, join_cuts] at e2
    rw [e2]
    exact List.isPrefixOf_iff_prefix.mpr ⟨joinL [47] ((cuts 47 p).drop (cuts 47 u).length), by simp⟩
  · rw [decide_eq_false h]
    cases e : (u ++ [47]).isPrefixOf p with
    | false => rfl
    | true =>
      obtain ⟨r, hr⟩ := List.isPrefixOf_iff_prefix.mp e
      have h1 := congrArg (cuts 47) hr
      rw [List.append_assoc, show [47] ++ r = 47 :: r from rfl, cuts_two] at h1
      have h2 : 0 < (cuts 47 r).length := List.length_pos_iff.mpr (cuts_ne 47 r)
      exact absurd ⟨by rw [← h1, List.length_append]; omega, by rw [← h1, List.take_left]⟩ h
theorem cuts_inj {p q : Tx} (h : cuts 47 p = cuts 47 q) : p = q := by rw [← join_cuts p, h, join_cuts]

theorem is_part_of (p : Tx) : m_is_part p = decide (Part p) := by
  unfold m_is_part
  by_cases h1 : p ∈ [lDot, lDots]
  · rw [decide_eq_true h1, if_pos rfl, decide_eq_false]
    intro h
    rcases List.mem_cons.mp h1 with e | e
    · exact h.2.2.1 e
    · exact h.2.2.2 (List.mem_singleton.mp e)
  · rw [decide_eq_false h1, if_neg Bool.false_ne_true]
    have e : (p.map (fun k0 : Nat => (decide (k0 ∈ lSigns)))).all id = p.all (fun k => decide (k ∈ lSigns)) := by rw [List.all_map]; rfl
    rw [e]
    by_cases h : Part p
    · rw [decide_eq_true h, decide_eq_true (by have := h.1; omega), decide_eq_true (by have := h.1; omega)]
      exact List.all_eq_true.mpr fun c hc => decide_eq_true (h.2.1 c hc)
    · rw [decide_eq_false h]
      by_cases h2 : 1 ≤ p.length ∧ p.length ≤ 12
      · rw [decide_eq_true (by omega), decide_eq_true (by omega)]
        show p.all _ = false
        cases h3 : p.all (fun k => decide (k ∈ lSigns)) with
        | false => rfl
        | true =>
          refine absurd ⟨h2, fun c hc => of_decide_eq_true (List.all_eq_true.mp h3 c hc), fun z => h1 ?_, fun z => h1 ?_⟩ h
          · rw [z]; exact List.mem_cons_self
          · rw [z]; exact List.mem_cons_of_mem _ List.mem_cons_self
      · by_cases h3 : (1 : Int) ≤ (p.length : Int)
        · rw [decide_eq_false (show ¬ (p.length : Int) ≤ 12 by omega), Bool.and_false]
          rfl
        · rw [decide_eq_false h3]
          rfl
theorem is_path_of (p : Tx) : m_is_path p = decide (Pth p) := by
  unfold m_is_path
  show (decide (((cuts 47 p).length : Int) ≤ 8) && ((cuts 47 p).map (fun k0 : Tx => m_is_part k0)).all id) = _
  have hn := List.length_pos_iff.mpr (cuts_ne 47 p)
  have e : ((cuts 47 p).map (fun k0 : Tx => m_is_part k0)).all id = (cuts 47 p).all (fun k => decide (Part k)) := by
    rw [List.all_map]
    congr 1
    funext k
    exact is_part_of k
  rw [e]
  by_cases h : Pth p
  · have h2 := (pth_iff p).mp h
    rw [decide_eq_true h, decide_eq_true (by have := h2.1; omega)]
    exact List.all_eq_true.mpr fun k hk => decide_eq_true (h2.2 k hk)
  · rw [decide_eq_false h]
    by_cases h3 : ((cuts 47 p).length : Int) ≤ 8
    · rw [decide_eq_true h3]
      show (cuts 47 p).all _ = false
      cases h4 : (cuts 47 p).all (fun k => decide (Part k)) with
      | false => rfl
      | true => exact absurd ((pth_iff p).mpr ⟨⟨hn, by omega⟩, fun k hk => of_decide_eq_true (List.all_eq_true.mp h4 k hk)⟩) h
    · rw [decide_eq_false h3]
      rfl

theorem above_mem {p u : Tx} : u ∈ m_above p ↔ Ben p u := by
  have e : m_above p = (List.range ((cuts 47 p).length - 1)).map fun k => joinL [47] ((cuts 47 p).take (k + 1)) := by
    unfold m_above m_above_v1
    rw [lSl_eq]
    have e3 : (((cuts 47 p).length : Nat) : Int) - 1 = (((cuts 47 p).length - 1 : Nat) : Int) := by
      have := List.length_pos_iff.mpr (cuts_ne 47 p)
      omega
    rw [e3, Int.toNat_natCast]
    apply List.map_congr_left
    intro k hk
    show joinL [47] (cutG (cuts 47 p) none (some ((1 : Int) + (k : Int)))) = _
    rw [show (1 : Int) + (k : Int) = ((k + 1 : Nat) : Int) by omega, cutG_to]
  have nost : ∀ (n : Nat), ∀ x ∈ (cuts 47 p).take n, 47 ∉ x := fun n x hx => cuts_free 47 p x (List.mem_of_mem_take hx)
  rw [e]
  constructor
  · intro hm
    obtain ⟨k, hk, rfl⟩ := List.mem_map.mp hm
    have hk2 := List.mem_range.mp hk
    have hne : (cuts 47 p).take (k + 1) ≠ [] := fun z => by
      have h5 := congrArg List.length z
      rw [List.length_take, List.length_nil] at h5
      have := List.length_pos_iff.mpr (cuts_ne 47 p)
      omega
    have ec : cuts 47 (joinL [47] ((cuts 47 p).take (k + 1))) = (cuts 47 p).take (k + 1) := spl_join hne (nost _)
    refine ⟨by rw [ec, List.length_take]; omega, ?_⟩
    rw [ec, List.length_take, Nat.min_eq_left (by omega)]
  · intro h
    have hu := List.length_pos_iff.mpr (cuts_ne 47 u)
    refine List.mem_map.mpr ⟨(cuts 47 u).length - 1, List.mem_range.mpr (by have := h.1; omega), ?_⟩
    rw [Nat.sub_add_cancel hu, h.2, join_cuts]

theorem above_cnt (p : Tx) : (m_above p).length ≤ p.length := by
  have h := cuts_len 47 p
  unfold m_above m_above_v1
  rw [List.length_map, List.length_range]
  omega

theorem over_mem {l : List (Tx × Tx)} {q : List Tx} : q ∈ m_overlaps l ↔ ∃ p ∈ dkeys l, ∃ u ∈ dkeys l, Ben p u ∧ q = [u, p] := by
  unfold m_overlaps
  constructor
  · intro h
    obtain ⟨p, hp, h2⟩ := List.mem_flatMap.mp h
    obtain ⟨u, hu, rfl⟩ := List.mem_map.mp h2
    obtain ⟨hu1, hu2⟩ := List.mem_filter.mp hu
    exact ⟨p, hp, u, (has_iff _ _).mp hu2, above_mem.mp hu1, rfl⟩
  · rintro ⟨p, hp, u, hu, hb, rfl⟩
    exact List.mem_flatMap.mpr ⟨p, hp, List.mem_map.mpr ⟨u, List.mem_filter.mpr ⟨above_mem.mpr hb, (has_iff _ _).mpr hu⟩, rfl⟩⟩
theorem over_okT {l : List (Tx × Tx)} (h : ∀ k ∈ dkeys l, okT k) : ∀ q ∈ m_overlaps l, ∀ p ∈ q, okT p := fun q hq p hp => by
  obtain ⟨a, ha, u, hu, _, rfl⟩ := over_mem.mp hq
  rcases List.mem_cons.mp hp with e | e
  · rw [e]
    exact h u hu
  · rw [List.mem_singleton.mp e]
    exact h a ha
theorem over_none (l : List (Tx × Tx)) : m_overlaps l = [] ↔ ∀ a ∈ dkeys l, ∀ b ∈ dkeys l, ¬ Ben b a := by
  rw [List.eq_nil_iff_forall_not_mem]
  constructor
  · intro h a ha b hb hB
    exact h [a, b] (over_mem.mpr ⟨b, hb, a, ha, hB, rfl⟩)
  · intro h q hq
    obtain ⟨p, hp, u, hu, hB, _⟩ := over_mem.mp hq
    exact h u hu p hp hB
theorem above_cuts (p : Tx) : (m_above p).length ≤ (cuts 47 p).length := by
  unfold m_above m_above_v1
  rw [List.length_map, List.length_range]
  omega

/-- nothing beneath the path, nothing above it -/
def Free (ks : List Tx) (p : Tx) : Prop := ∀ k ∈ ks, ¬ Ben k p ∧ ¬ Ben p k
instance (ks : List Tx) (p : Tx) : Decidable (Free ks p) := by unfold Free; exact inferInstance

/-! files -/
def okV (t : Tx) : Prop := t.length ≤ 602 ∧ ∀ c ∈ t, c < 128
structure Good (l : List (Tx × Tx)) : Prop where
  nd : (dkeys l).Nodup
  pth : ∀ k ∈ dkeys l, Pth k
  val : ∀ q ∈ l, okV q.2
theorem Good.nil : Good [] := ⟨List.nodup_nil, fun k h => (nomatch h), fun q h => (nomatch h)⟩
theorem Good.put {l : List (Tx × Tx)} {k v : Tx} (g : Good l) (hk : Pth k) (hv : okV v) : Good (dput l k v) :=
  ⟨nodup_put g.nd, fun j h => (mem_keys_put.mp h).elim (fun e => e ▸ hk) (g.pth j), fun q h => (mem_put h).elim (fun e => by rw [e]; exact hv) (g.val q)⟩
theorem Good.del {l : List (Tx × Tx)} {k : Tx} (g : Good l) : Good (ddel l k) :=
  ⟨nodup_del g.nd, fun j h => g.pth j (mem_keys_del.mp h).1, fun q h => g.val q (mem_del h)⟩
theorem Good.len {l : List (Tx × Tx)} (g : Good l) : ∀ k ∈ dkeys l, k.length ≤ 104 := fun k h => (g.pth k h).len
theorem pth_sign {p : Tx} (h : Pth p) : ∀ c ∈ p, c < 128 := by
  obtain ⟨l, hl, rfl⟩ := h
  have h2 := hl.2
  clear hl
  rw [lSl_eq]
  induction l with
  | nil => exact fun c h => nomatch h
  | cons q r ih =>
    have hq : ∀ c ∈ q, c < 128 := fun c hc => (signs_ne c ((h2 q List.mem_cons_self).2.1 c hc)).2
    cases r with
    | nil => exact hq
    | cons q2 r2 =>
      intro c hc
      have hc2 : c ∈ q ++ ([47] ++ joinL [47] (q2 :: r2)) := hc
      rcases List.mem_append.mp hc2 with e | e
      · exact hq c e
      · rcases List.mem_append.mp e with e | e
        · rw [List.mem_singleton.mp e]
          decide
        · exact ih (fun p hp => h2 p (List.mem_cons_of_mem _ hp)) c e

theorem above_sum (p : Tx) : sumLen (m_above_v1 p) ≤ p.length := cuts_sum 47 p

/-- a deed, as the law makes it -/
def okDeed (d : List Tx) : Prop := (d.length = 3 ∨ (d.length = 2 ∧ d.getD 0 [] = lCut)) ∧ ∀ t ∈ d, t.length ≤ 800
theorem deed_two {d : List Tx} (h : okDeed d) : 2 ≤ d.length := by
  rcases h.1 with e | e
  · omega
  · omega
theorem deed_path {d : List Tx} (h : okDeed d) : (m_done_v1 d).length ≤ 900 := by
  have h2 := deed_two h
  unfold m_done_v1
  rw [List.getD_eq_getElem?_getD, List.getElem?_eq_getElem (show (1 : Int).toNat < d.length by show 1 < _; omega)]
  exact Nat.le_trans (h.2 _ (List.getElem_mem _)) (by decide)
theorem deed_three {d : List Tx} (h : okDeed d) (hb : decide ((d.getD (0 : Int).toNat []) = lCut) = false) : d.length = 3 := by
  rcases h.1 with e | e
  · exact e
  · exact absurd e.2 (of_decide_eq_false hb)
theorem has_of_not {b : Bool} (h : (!b) = false) : b = true := by
  cases b
  · cases h
  · rfl
/-- what is due of a deed -/
def Due (t : List (Tx × Tx)) (c : Bool) (p line : Tx) : Res (List (Tx × Tx)) :=
  if Pth p then (if c = true then (if p ∈ dkeys t then .ok (ddel t p) else .exc 2) else (if Free (dkeys t) p then .ok (dput t p line) else .exc 3)) else .exc 1
theorem Good.le9 {l : List (Tx × Tx)} (g : Good l) : ∀ k ∈ dkeys l, k.length ≤ 900 := fun k h => Nat.le_trans (g.len k h) (by decide)

theorem blocked_of (l : List (Tx × Tx)) (p : Tx) : m_is_blocked l p = !decide (Free (dkeys l) p) := by
  have e1 : ((m_above p).map (fun k0 : Tx => dhas l k0)).any id = (m_above p).any fun u => dhas l u := by rw [List.any_map]; rfl
  have e2 : ((dkeys l).map (fun k0 : Tx => m_is_beneath k0 p)).any id = (dkeys l).any fun k => decide (Ben k p) := by
    rw [List.any_map]
    apply congrArg (fun f => (dkeys l).any f)
    funext k
    exact prefix_ben k p
  unfold m_is_blocked
  rw [e1, e2]
  by_cases f : Free (dkeys l) p
  · rw [decide_eq_true f]
    have h1 : ((m_above p).any fun u => dhas l u) = false := by
      rw [List.any_eq_false]
      intro u hu z
      exact (f u ((has_iff _ _).mp z)).2 (above_mem.mp hu)
    have h2 : ((dkeys l).any fun k => decide (Ben k p)) = false := by
      rw [List.any_eq_false]
      intro k hk z
      exact (f k hk).1 (of_decide_eq_true z)
    rw [h1, if_neg Bool.false_ne_true, h2]
    rfl
  · rw [decide_eq_false f]
    cases h1 : ((m_above p).any fun u => dhas l u) with
    | true =>
      rw [if_pos rfl]
      rfl
    | false =>
      rw [if_neg Bool.false_ne_true]
      cases h2 : ((dkeys l).any fun k => decide (Ben k p)) with
      | true => rfl
      | false =>
        refine absurd (fun k hk => ⟨fun z => ?_, fun z => ?_⟩) f
        · rw [List.any_eq_false] at h2
          exact h2 k hk (decide_eq_true z)
        · rw [List.any_eq_false] at h1
          exact h1 k (above_mem.mpr z) ((has_iff _ _).mpr hk)

theorem done_is (t : List (Tx × Tx)) (d : List Tx) (g : Good t) : m_done t d = Due t (decide (d.getD 0 [] = lCut)) (d.getD 1 []) (d.getD 2 []) := by
  have e1 : m_done_v1 d = d.getD 1 [] := rfl
  have e2 : m_done_v2 t = t := rfl
  unfold m_done Due
  rw [is_path_of, e1, e2]
  by_cases h1 : Pth (d.getD 1 [])
  · rw [decide_eq_true h1, if_neg (by decide), if_pos h1]
    by_cases h2 : d.getD 0 [] = lCut
    · have h3 : decide (d.getD (0 : Int).toNat [] = lCut) = true := decide_eq_true h2
      rw [h3, if_pos rfl, decide_eq_true h2, if_pos rfl]
      rw [has_dec]
      by_cases h4 : d.getD 1 [] ∈ dkeys t
      · rw [decide_eq_true h4, if_pos h4, if_neg (by decide)]
        rfl
      · rw [decide_eq_false h4, if_neg h4, if_pos (by decide)]
    · have h3 : decide (d.getD (0 : Int).toNat [] = lCut) = false := decide_eq_false h2
      rw [h3, if_neg Bool.false_ne_true, decide_eq_false h2, if_neg Bool.false_ne_true]
      rw [blocked_of]
      by_cases h4 : Free (dkeys t) (d.getD 1 [])
      · rw [decide_eq_true h4, if_pos h4, if_neg (by decide)]
        rfl
      · rw [decide_eq_false h4, if_neg h4, if_pos (by decide)]
  · rw [decide_eq_false h1, if_pos (by decide), if_neg h1]

/-! rows of deeds -/
def bads : List Tx := [lNil, tx "a/../b", tx "a b"]
theorem bads_no : ∀ p ∈ bads, ¬ Pth p := by decide +kernel
structure okD (d : List Tx) : Prop where
  dd : okDeed d
  pt : Pth (d.getD 1 []) ∨ d.getD 1 [] ∈ bads
  val : okV (d.getD 2 [])
def okRow (ds : List (List Tx)) : Prop := ∀ d ∈ ds, okD d
theorem run_ind {α S R : Type} {step : S → α → Stp S R} {I : Nat → S → Prop} {l : List α} {s0 : S} (h0 : I 0 s0) (hs : ∀ n s y s2, l[n]? = some y → I n s → step s y = .go s2 → I (n + 1) s2) : ∀ (i : Nat) (s : S), i ≤ l.length → runL step (l.take i) s0 = .go s → I i s
  | 0, s, _, h => by
    rw [List.take_zero] at h
    have e : s0 = s := by
      have h2 : (Stp.go s0 : Stp S R) = .go s := h
      injection h2
    exact e ▸ h0
  | i + 1, s, hi, h => by
    have hl : i < l.length := by omega
    have hy : l[i]? = some l[i] := List.getElem?_eq_getElem hl
    cases e : runL step (l.take i) s0 with
    | go s1 =>
      have h2 := runL_next e hy
      rw [h] at h2
      exact hs i s1 _ s hy (run_ind h0 hs i s1 (by omega) e) h2.symm
    | brk s1 =>
      rw [List.take_add_one, hy, runL_app, e] at h
      cases h
    | ret r =>
      rw [List.take_add_one, hy, runL_app, e] at h
      cases h
theorem done_cases {t : List (Tx × Tx)} {d : List Tx} {l : List (Tx × Tx)} (g : Good t) (h : m_done t d = .ok l) : l = ddel t (d.getD 1 []) ∨ (Pth (d.getD 1 []) ∧ l = dput t (d.getD 1 []) (d.getD 2 [])) := by
  rw [done_is _ _ g] at h
  unfold Due at h
  split at h
  · rename_i hp
    split at h
    · split at h
      · exact Or.inl (Res.ok.inj h).symm
      · cases h
    · split at h
      · exact Or.inr ⟨hp, (Res.ok.inj h).symm⟩
      · cases h
  · cases h
theorem done_good {t : List (Tx × Tx)} {d : List Tx} {l : List (Tx × Tx)} (g : Good t) (hd : okD d) (h : m_done t d = .ok l) : Good l ∧ l.length ≤ t.length + 1 := by
  rcases done_cases g h with rfl | ⟨hp, rfl⟩
  · exact ⟨g.del, Nat.le_succ_of_le (del_len _ _)⟩
  · exact ⟨g.put hp hd.val, put_len _ _ _⟩
theorem kinds_done {t : List (Tx × Tx)} {d : List Tx} {k : Nat} (g : Good t) (h : m_done t d = .exc k) : k = 1 ∨ k = 2 ∨ k = 3 := by
  rw [done_is _ _ g] at h
  unfold Due at h
  split at h
  · split at h
    · split at h
      · cases h
      · cases h
        exact Or.inr (Or.inl rfl)
    · split at h
      · cases h
      · cases h
        exact Or.inr (Or.inr rfl)
  · cases h
    exact Or.inl rfl
theorem chg_step {t l : List (Tx × Tx)} {d : List Tx} (h : m_changed_step1 t d = .go l) : m_done t d = .ok l := by
  unfold m_changed_step1 at h
  cases e : m_done t d with
  | ok a =>
    rw [e] at h
    have h2 : (Stp.go a : Stp (List (Tx × Tx)) (Res (List (Tx × Tx)))) = .go l := h
    injection h2 with h3
    rw [h3]
  | exc k =>
    rw [e] at h
    cases h
theorem changed_loop {t : List (Tx × Tx)} {ds : List (List Tx)} (hp : okRow ds ∧ Good t ∧ t.length + ds.length ≤ 1000) {i : Nat} {s : List (Tx × Tx)} {y : List Tx} (h : runL m_changed_step1 (ds.take i) (m_changed_v1 t) = .go s) (hy : ds[i]? = some y) : okDeed y ∧ Good s ∧ s.length ≤ 1000 := by
  have hi := (List.getElem?_eq_some_iff.mp hy).1
  have := run_ind (I := fun n s => Good s ∧ s.length ≤ t.length + n) (l := ds) (s0 := m_changed_v1 t) ⟨hp.2.1, Nat.le_refl _⟩ (fun n s y s2 hy h e => by
    have h2 := done_good h.1 (hp.1 y (List.mem_of_getElem? hy)) (chg_step e)
    exact ⟨h2.1, by have := h2.2; have := h.2; omega⟩) i s (Nat.le_of_lt hi) h
  exact ⟨(hp.1 y (List.mem_of_getElem? hy)).dd, this.1, by have := this.2; have := hp.2.2; omega⟩

/-! trees -/
theorem Good.old {l : List (Tx × Tx)} {k v : Tx} (g : Good l) (hk : k ∈ dkeys l) (hv : okV v) : Good (dput l k v) := g.put (g.pth k hk) hv
structure GT (l : List (Tx × Tx)) : Prop where
  g : Good l
  tree : ∀ a ∈ dkeys l, ∀ b ∈ dkeys l, ¬ Ben b a
theorem GT.nil : GT [] := ⟨Good.nil, fun a h => (nomatch h)⟩
theorem ben_irr (p : Tx) : ¬ Ben p p := fun h => Nat.lt_irrefl _ h.1
theorem GT.put {l : List (Tx × Tx)} {k v : Tx} (h : GT l) (hk : Pth k) (hv : okV v) (f : Free (dkeys l) k) : GT (dput l k v) := by
  refine ⟨h.g.put hk hv, fun a ha b hb => ?_⟩
  rcases mem_keys_put.mp ha with e | e
  · rcases mem_keys_put.mp hb with e2 | e2
    · rw [e, e2]
      exact ben_irr k
    · rw [e]
      exact (f b e2).1
  · rcases mem_keys_put.mp hb with e2 | e2
    · rw [e2]
      exact (f a e).2
    · exact h.tree a e b e2
theorem GT.old {l : List (Tx × Tx)} {k v : Tx} (h : GT l) (hk : k ∈ dkeys l) (hv : okV v) : GT (dput l k v) :=
  h.put (h.g.pth k hk) hv fun j hj => ⟨h.tree k hk j hj, h.tree j hj k hk⟩
theorem GT.del {l : List (Tx × Tx)} {k : Tx} (h : GT l) : GT (ddel l k) :=
  ⟨h.g.del, fun a ha b hb => h.tree a (mem_keys_del.mp ha).1 b (mem_keys_del.mp hb).1⟩

theorem marks_loop {e o t : List (Tx × Tx)} (hp : e.length ≤ 1000 ∧ o.length ≤ 1000 ∧ t.length ≤ 1000) {i : Nat} {s : List (List Tx)} {y : Tx} (h : runL (m_marks_step1 e o t) ((srt (uniT (uniT (dkeys e) (dkeys o)) (dkeys t))).take i) m_marks_v1 = .go s) (hy : (srt (uniT (uniT (dkeys e) (dkeys o)) (dkeys t)))[i]? = some y) : s.length ≤ 3000 := by
  have hi := (List.getElem?_eq_some_iff.mp hy).1
  have h1 := run_cnt (g := fun s y => m_marks_v4 e y o t s) (fun _ _ => rfl) (I := fun n s => s.length ≤ n) h (Nat.le_of_lt hi) (Nat.le_refl 0) (fun n s y _ hs => by
    show (m_marks_v4 e y o t s).length ≤ n + 1
    unfold m_marks_v4 m_marks_v3
    split
    · rw [List.length_append, List.length_singleton]
      exact Nat.succ_le_succ hs
    · exact Nat.le_succ_of_le hs)
  rw [srt_len] at hi
  have a1 := uniT_len (dkeys o) (dkeys e)
  have a2 := uniT_len (dkeys t) (uniT (dkeys e) (dkeys o))
  have b1 := dkeys_len e
  have b2 := dkeys_len o
  have b3 := dkeys_len t
  have c1 := hp.1
  have c2 := hp.2.1
  have c3 := hp.2.2
  have h2 : s.length ≤ i := h1
  omega

/-! what marks tells -/
def put1 {α β : Type} (f : α → Option β) (s : List β) (y : α) : List β := match f y with
  | some b => s ++ [b]
  | none => s
theorem fold_fm {α β : Type} (f : α → Option β) {g : List β → α → List β} (hg : ∀ s y, g s y = put1 f s y) : ∀ (l : List α) (s : List β), l.foldl g s = s ++ l.filterMap f
  | [], s => (List.append_nil s).symm
  | y :: l, s => by
    rw [List.foldl_cons, fold_fm f hg l, hg]
    unfold put1
    cases e : f y with
    | none => rw [List.filterMap_cons_none e]
    | some b => rw [List.filterMap_cons_some e, List.append_assoc]; rfl
theorem fold_pair {α β γ : Type} {g : β × γ → α → β × γ} {g1 : β → α → β} {g2 : γ → α → γ} (h : ∀ s y, g s y = (g1 s.1 y, g2 s.2 y)) : ∀ (l : List α) (a : β) (b : γ), l.foldl g (a, b) = (l.foldl g1 a, l.foldl g2 b)
  | [], _, _ => rfl
  | y :: l, a, b => by
    rw [List.foldl_cons, h, fold_pair h l]
    rfl
def mkF (e o t : List (Tx × Tx)) (p : Tx) : Option (List Tx) := (m_mark_of (dget e p) (dget o p) (dget t p)).map fun w => [p, w]
theorem marks_is (e o t : List (Tx × Tx)) : m_marks e o t = (srt (uniT (uniT (dkeys e) (dkeys o)) (dkeys t))).filterMap (mkF e o t) := by
  show outL (runL (m_marks_step1 e o t) _ m_marks_v1) = _
  rw [out_all (step := m_marks_step1 e o t) (g := fun s y => m_marks_v4 e y o t s) (fun _ _ => rfl), fold_fm (mkF e o t) (fun s y => ?_) _ _]
  · rfl
  · unfold m_marks_v4 m_marks_v3 m_marks_v2 put1 mkF
    cases m_mark_of (dget e y) (dget o y) (dget t y) <;> rfl
theorem mark_words (a b c : Option Tx) : ∀ w, m_mark_of a b c = some w → ∀ x ∈ w, x < 128 := by
  intro w h
  unfold m_mark_of at h
  have h1 : ∀ x ∈ l_fe05bcdc, x < 128 := by decide +kernel
  have h2 : ∀ x ∈ l_d0941e68, x < 128 := by decide +kernel
  have h3 : ∀ x ∈ l_b79634d7, x < 128 := by decide +kernel
  have h4 : ∀ x ∈ l_4581fc00, x < 128 := by decide +kernel
  split at h
  · split at h
    · cases h
    · cases h
      exact h3
  · split at h
    · cases h
      exact h1
    · split at h
      · cases h
        exact h2
      · cases h
        exact h4
theorem marks_okT {e o t : List (Tx × Tx)} (ge : Good e) (go : Good o) (gt : Good t) : ∀ q ∈ m_marks e o t, ∀ p ∈ q, okT p := by
  intro q hq p hp c hc
  rw [marks_is] at hq
  obtain ⟨k, hk, hm⟩ := List.mem_filterMap.mp hq
  have hkk := mem_uniT.mp (mem_srt.mp hk)
  have hpk : Pth k := by
    rcases hkk with z | z
    · rcases mem_uniT.mp z with z | z
      · exact ge.pth k z
      · exact go.pth k z
    · exact gt.pth k z
  unfold mkF at hm
  obtain ⟨w, hw, rfl⟩ := Option.map_eq_some_iff.mp hm
  have h128 : c < 128 := by
    rcases List.mem_cons.mp hp with z | z
    · exact pth_sign hpk c (z ▸ hc)
    · rw [List.mem_singleton.mp z] at hc
      exact mark_words _ _ _ w hw c hc
  exact Nat.lt_of_lt_of_le h128 (by decide)

theorem marks_two {e o t : List (Tx × Tx)} : ∀ q ∈ m_marks e o t, q.length = 2 := by
  intro q hq
  rw [marks_is] at hq
  obtain ⟨k, hk, hm⟩ := List.mem_filterMap.mp hq
  unfold mkF at hm
  obtain ⟨w, hw, rfl⟩ := Option.map_eq_some_iff.mp hm
  rfl
theorem marks_len {e o t : List (Tx × Tx)} (hp : e.length ≤ 1000 ∧ o.length ≤ 1000 ∧ t.length ≤ 1000) : (m_marks e o t).length ≤ 3000 := by
  rw [marks_is]
  have h0 := List.length_filterMap_le (mkF e o t) (srt (uniT (uniT (dkeys e) (dkeys o)) (dkeys t)))
  rw [srt_len] at h0
  have a1 := uniT_len (dkeys o) (dkeys e)
  have a2 := uniT_len (dkeys t) (uniT (dkeys e) (dkeys o))
  have b1 := dkeys_len e
  have b2 := dkeys_len o
  have b3 := dkeys_len t
  have c1 := hp.1
  have c2 := hp.2.1
  have c3 := hp.2.2
  omega

/-! what stands without any pick -/
def agF (b l r : Option Tx) : Option Tx := if l = r then l else if r = b then l else if l = b then r else none
def clsh (b l r : Option Tx) : Bool := !decide (l = r) && (!decide (l = b) && !decide (r = b))
theorem clsh_sym (b l r : Option Tx) : clsh b r l = clsh b l r := by
  unfold clsh
  have e : decide (r = l) = decide (l = r) := decide_eq_decide.mpr ⟨Eq.symm, Eq.symm⟩
  rw [e, Bool.and_comm (!decide (r = b))]
theorem agF_sym (b l r : Option Tx) : agF b r l = agF b l r := by
  unfold agF
  by_cases h1 : l = r
  · rw [if_pos h1, if_pos h1.symm, h1]
  · rw [if_neg h1, if_neg (fun z => h1 z.symm)]
    by_cases h2 : r = b
    · by_cases h3 : l = b
      · exact absurd (h3.trans h2.symm) h1
      · rw [if_neg h3, if_pos h2, if_pos h2]
    · rw [if_neg h2, if_neg h2]
theorem mark_clash (b l r : Option Tx) : (m_mark_of b l r = some l_4581fc00) ↔ clsh b l r = true := by
  have n1 : ¬ l_b79634d7 = l_4581fc00 := by decide +kernel
  have n2 : ¬ l_fe05bcdc = l_4581fc00 := by decide +kernel
  have n3 : ¬ l_d0941e68 = l_4581fc00 := by decide +kernel
  unfold m_mark_of clsh
  by_cases h1 : l = r
  · subst h1
    by_cases h2 : l = b
    · simp [h2]
    · simp [h2, n1]
  · by_cases h2 : r = b
    · subst h2
      simp [h1, n2]
    · by_cases h3 : l = b
      · subst h3
        simp [h1, h2, n3]
      · simp [h1, h2, h3]
theorem get_settle (l : List (Tx × Tx)) (k : Tx) (x : Option Tx) (j : Tx) : dget (m_settle l k x) j = if j = k then x else dget l j := by
  cases x with
  | none => exact get_del l k j
  | some t => exact get_put l k t j
theorem nodup_settle {l : List (Tx × Tx)} {k : Tx} {x : Option Tx} (h : (dkeys l).Nodup) : (dkeys (m_settle l k x)).Nodup := by
  cases x with
  | none => exact nodup_del h
  | some t => exact nodup_put h
theorem settle_len (l : List (Tx × Tx)) (k : Tx) (x : Option Tx) : (m_settle l k x).length ≤ l.length + 1 := by
  cases x with
  | none => exact Nat.le_trans (del_len _ _) (Nat.le_succ _)
  | some t => exact put_len _ _ _
def AG (e o t : List (Tx × Tx)) (p : Tx) : Option Tx := agF (dget e p) (dget o p) (dget t p)
def CLp (e o t : List (Tx × Tx)) (p : Tx) : Bool := clsh (dget e p) (dget o p) (dget t p)
def unK (e o t : List (Tx × Tx)) : List Tx := srt (uniT (uniT (dkeys e) (dkeys o)) (dkeys t))
theorem mem_unK {e o t : List (Tx × Tx)} {p : Tx} : p ∈ unK e o t ↔ (p ∈ dkeys e ∨ p ∈ dkeys o) ∨ p ∈ dkeys t := by
  unfold unK
  rw [mem_srt, mem_uniT, mem_uniT]
theorem nodup_unK {e : List (Tx × Tx)} (o t : List (Tx × Tx)) (ge : (dkeys e).Nodup) : (unK e o t).Nodup := srt_nodup (nodup_uniT (nodup_uniT ge))
theorem get_isSome {l : List (Tx × Tx)} {p : Tx} : (dget l p).isSome = true ↔ p ∈ dkeys l := has_iff l p
theorem unK_none {e o t : List (Tx × Tx)} {p : Tx} (h : p ∉ unK e o t) : dget e p = none ∧ dget o p = none ∧ dget t p = none :=
  ⟨get_none fun z => h (mem_unK.mpr (Or.inl (Or.inl z))), get_none fun z => h (mem_unK.mpr (Or.inl (Or.inr z))), get_none fun z => h (mem_unK.mpr (Or.inr z))⟩
theorem AG_un {e o t : List (Tx × Tx)} {p : Tx} (h : (AG e o t p).isSome = true) : p ∈ unK e o t := Classical.byContradiction fun n => by
  obtain ⟨a, b, c⟩ := unK_none n
  unfold AG at h
  rw [a, b, c] at h
  cases h
theorem CL_un {e o t : List (Tx × Tx)} {p : Tx} (h : CLp e o t p = true) : p ∈ unK e o t := Classical.byContradiction fun n => by
  obtain ⟨a, b, c⟩ := unK_none n
  unfold CLp at h
  rw [a, b, c] at h
  cases h
/-- one step of agreed at a path -/
def agS (e o t : List (Tx × Tx)) (s : List (Tx × Tx)) (p : Tx) : List (Tx × Tx) := match mkF e o t p with
  | some q => m_agreed_v6 q s t o
  | none => s
theorem agreed_is (e o t : List (Tx × Tx)) : m_agreed e o t = (unK e o t).foldl (agS e o t) e := by
  show outL (runL (m_agreed_step1 o t) (m_marks e o t) (m_agreed_v1 e)) = _
  rw [out_all (step := m_agreed_step1 o t) (g := fun s y => m_agreed_v6 y s t o) (fun _ _ => rfl), marks_is, List.foldl_filterMap]
  show (unK e o t).foldl _ e = _
  congr 1
  funext s p
  unfold agS
  cases mkF e o t p <;> rfl
theorem agS_some {e o t s : List (Tx × Tx)} {p : Tx} {w : Tx} (h : m_mark_of (dget e p) (dget o p) (dget t p) = some w) : agS e o t s p = m_settle s p (AG e o t p) := by
  have n1 : ¬ l_b79634d7 = l_4581fc00 := by decide +kernel
  have n2 : ¬ l_fe05bcdc = l_4581fc00 := by decide +kernel
  have n3 : ¬ l_d0941e68 = l_4581fc00 := by decide +kernel
  have n4 : ¬ l_b79634d7 = l_d0941e68 := by decide +kernel
  have n5 : ¬ l_fe05bcdc = l_d0941e68 := by decide +kernel
  have em : mkF e o t p = some [p, w] := by
    unfold mkF
    rw [h]
    rfl
  have eS : agS e o t s p = m_agreed_v6 [p, w] s t o := by
    unfold agS
    rw [em]
  rw [eS]
  unfold m_agreed_v6 m_agreed_v5 m_agreed_v4 m_agreed_v3 m_agreed_v2 AG agF
  show (if decide (w = l_4581fc00) = true then m_settle s p none else if decide (w = l_d0941e68) = true then m_settle s p (dget t p) else m_settle s p (dget o p)) = _
  generalize dget e p = b at *
  generalize dget o p = l at *
  generalize dget t p = r at *
  unfold m_mark_of at h
  by_cases h1 : l = r
  · rw [if_pos (decide_eq_true h1)] at h
    by_cases h2 : l = b
    · rw [if_pos (decide_eq_true h2)] at h
      cases h
    · rw [if_neg (by rw [decide_eq_false h2]; exact Bool.false_ne_true)] at h
      cases h
      rw [if_neg (by rw [decide_eq_false n1]; exact Bool.false_ne_true), if_neg (by rw [decide_eq_false n4]; exact Bool.false_ne_true), if_pos h1]
  · rw [if_neg (by rw [decide_eq_false h1]; exact Bool.false_ne_true)] at h
    by_cases h2 : r = b
    · rw [if_pos (decide_eq_true h2)] at h
      cases h
      rw [if_neg (by rw [decide_eq_false n2]; exact Bool.false_ne_true), if_neg (by rw [decide_eq_false n5]; exact Bool.false_ne_true), if_neg h1, if_pos h2]
    · rw [if_neg (by rw [decide_eq_false h2]; exact Bool.false_ne_true)] at h
      by_cases h3 : l = b
      · rw [if_pos (decide_eq_true h3)] at h
        cases h
        rw [if_neg (by rw [decide_eq_false n3]; exact Bool.false_ne_true), if_pos (decide_eq_true rfl), if_neg h1, if_neg h2, if_pos h3]
      · rw [if_neg (by rw [decide_eq_false h3]; exact Bool.false_ne_true)] at h
        cases h
        rw [if_pos (decide_eq_true rfl), if_neg h1, if_neg h2, if_neg h3]
theorem mark_none {b l r : Option Tx} (h : m_mark_of b l r = none) : l = r ∧ l = b := by
  unfold m_mark_of at h
  by_cases h1 : l = r
  · rw [if_pos (decide_eq_true h1)] at h
    by_cases h2 : l = b
    · exact ⟨h1, h2⟩
    · rw [if_neg (by rw [decide_eq_false h2]; exact Bool.false_ne_true)] at h
      cases h
  · rw [if_neg (by rw [decide_eq_false h1]; exact Bool.false_ne_true)] at h
    split at h
    · cases h
    · split at h <;> cases h
theorem agS_none {e o t s : List (Tx × Tx)} {p : Tx} (h : m_mark_of (dget e p) (dget o p) (dget t p) = none) : agS e o t s p = s := by
  have em : mkF e o t p = none := by
    unfold mkF
    rw [h]
    rfl
  unfold agS
  rw [em]
theorem agS_get (e o t s : List (Tx × Tx)) (p j : Tx) (hs : dget s p = dget e p) : dget (agS e o t s p) j = if j = p then AG e o t p else dget s j := by
  cases h : m_mark_of (dget e p) (dget o p) (dget t p) with
  | some w => rw [agS_some h, get_settle]
  | none =>
    rw [agS_none h]
    by_cases hj : j = p
    · rw [if_pos hj, hj, hs]
      obtain ⟨h1, h2⟩ := mark_none h
      unfold AG agF
      rw [if_pos h1, h2]
    · rw [if_neg hj]
theorem agS_fold (e o t : List (Tx × Tx)) (j : Tx) : ∀ (l : List Tx) (s : List (Tx × Tx)), l.Nodup → (∀ p ∈ l, dget s p = dget e p) → dget (l.foldl (agS e o t) s) j = if j ∈ l then AG e o t j else dget s j
  | [], s, _, _ => rfl
  | p :: l, s, hn, hs => by
    rw [List.nodup_cons] at hn
    have h1 := agS_get e o t s p
    rw [List.foldl_cons, agS_fold e o t j l _ hn.2 fun q hq => by
      rw [h1 q (hs p List.mem_cons_self), if_neg (fun z : q = p => hn.1 (z ▸ hq))]
      exact hs q (List.mem_cons_of_mem _ hq)]
    rw [h1 j (hs p List.mem_cons_self)]
    by_cases h2 : j ∈ l
    · rw [if_pos h2, if_pos (List.mem_cons_of_mem _ h2)]
    · rw [if_neg h2]
      by_cases h3 : j = p
      · rw [if_pos h3, if_pos (by rw [h3]; exact List.mem_cons_self), h3]
      · rw [if_neg h3, if_neg fun z => (List.mem_cons.mp z).elim h3 h2]
theorem agreed_get {e : List (Tx × Tx)} (o t : List (Tx × Tx)) (ge : (dkeys e).Nodup) (p : Tx) : dget (m_agreed e o t) p = AG e o t p := by
  rw [agreed_is, agS_fold e o t p _ _ (nodup_unK o t ge) fun _ _ => rfl]
  by_cases h : p ∈ unK e o t
  · rw [if_pos h]
  · rw [if_neg h]
    obtain ⟨a, b, c⟩ := unK_none h
    unfold AG
    rw [a, b, c]
    rfl
theorem agS_inv {I : List (Tx × Tx) → Prop} (h : ∀ s k x, I s → I (m_settle s k x)) (e o t s : List (Tx × Tx)) (p : Tx) (hs : I s) : I (agS e o t s p) := by
  cases hm : m_mark_of (dget e p) (dget o p) (dget t p) with
  | some w =>
    rw [agS_some hm]
    exact h _ _ _ hs
  | none =>
    rw [agS_none hm]
    exact hs
theorem agreed_nd {e : List (Tx × Tx)} (o t : List (Tx × Tx)) (ge : (dkeys e).Nodup) : (dkeys (m_agreed e o t)).Nodup := by
  rw [agreed_is]
  exact fold_inv (I := fun s => (dkeys s).Nodup) ge fun s y _ h => agS_inv (I := fun s => (dkeys s).Nodup) (fun _ _ _ z => nodup_settle z) e o t s y h
theorem unK_len {e o t : List (Tx × Tx)} (hp : e.length ≤ 1000 ∧ o.length ≤ 1000 ∧ t.length ≤ 1000) : (unK e o t).length ≤ 3000 := by
  unfold unK
  rw [srt_len]
  have a1 := uniT_len (dkeys o) (dkeys e)
  have a2 := uniT_len (dkeys t) (uniT (dkeys e) (dkeys o))
  have b1 := dkeys_len e
  have b2 := dkeys_len o
  have b3 := dkeys_len t
  omega
theorem agreed_len {e o t : List (Tx × Tx)} (hp : e.length ≤ 1000 ∧ o.length ≤ 1000 ∧ t.length ≤ 1000) : (m_agreed e o t).length ≤ 4000 := by
  have h := fold_cnt (f := agS e o t) (I := fun n s => s.length ≤ 1000 + n) (l := unK e o t) (s0 := e) hp.1 (fun n s y _ h => by
    show (agS e o t s y).length ≤ 1000 + (n + 1)
    cases hm : m_mark_of (dget e y) (dget o y) (dget t y) with
    | some w =>
      rw [agS_some hm]
      have := settle_len s y (AG e o t y)
      have h2 : s.length ≤ 1000 + n := h
      omega
    | none =>
      rw [agS_none hm]
      exact Nat.le_succ_of_le h) _ (Nat.le_refl _)
  rw [List.take_length, ← agreed_is] at h
  have h2 := unK_len hp
  have h3 : (m_agreed e o t).length ≤ 1000 + (unK e o t).length := h
  omega
theorem agreed_loop {e o t : List (Tx × Tx)} (hp : e.length ≤ 1000 ∧ o.length ≤ 1000 ∧ t.length ≤ 1000) {i : Nat} {s : List (Tx × Tx)} {y : List Tx} (h : runL (m_agreed_step1 o t) ((m_marks e o t).take i) (m_agreed_v1 e) = .go s) (hy : (m_marks e o t)[i]? = some y) : s.length ≤ 4000 := by
  have hi := (List.getElem?_eq_some_iff.mp hy).1
  have h1 := run_cnt (g := fun s y => m_agreed_v6 y s t o) (fun _ _ => rfl) (I := fun n s => s.length ≤ 1000 + n) h (Nat.le_of_lt hi) hp.1 (fun n s y _ hs => by
    show (m_agreed_v6 y s t o).length ≤ 1000 + (n + 1)
    have hs2 : s.length ≤ 1000 + n := hs
    unfold m_agreed_v6 m_agreed_v5 m_agreed_v4 m_agreed_v3 m_agreed_v2
    split
    · exact Nat.le_trans (settle_len _ _ _) (by omega)
    · split
      · exact Nat.le_trans (settle_len _ _ _) (by omega)
      · exact Nat.le_trans (settle_len _ _ _) (by omega))
  have h2 := marks_len hp
  have h3 : s.length ≤ 1000 + i := h1
  omega
theorem agF_some {b l r : Option Tx} (h : (agF b l r).isSome = true) : (l.isSome = true ∧ r.isSome = true) ∨ (l.isSome = true ∧ r = none ∧ b = none) ∨ (r.isSome = true ∧ l = none ∧ b = none) := by
  unfold agF at h
  by_cases h1 : l = r
  · rw [if_pos h1] at h
    exact Or.inl ⟨h, h1 ▸ h⟩
  · rw [if_neg h1] at h
    by_cases h2 : r = b
    · rw [if_pos h2] at h
      cases r with
      | some x => exact Or.inl ⟨h, rfl⟩
      | none => exact Or.inr (Or.inl ⟨h, rfl, h2.symm⟩)
    · rw [if_neg h2] at h
      by_cases h3 : l = b
      · rw [if_pos h3] at h
        cases l with
        | some x => exact Or.inl ⟨rfl, h⟩
        | none => exact Or.inr (Or.inr ⟨h, rfl, h3.symm⟩)
      · rw [if_neg h3] at h
        cases h
theorem agreed_key {e : List (Tx × Tx)} (o t : List (Tx × Tx)) (ge : (dkeys e).Nodup) (p : Tx) : p ∈ dkeys (m_agreed e o t) ↔ (AG e o t p).isSome = true := by
  rw [← agreed_get o t ge, get_isSome]
theorem agreed_pth {e o t : List (Tx × Tx)} (ge : Good e) (go : Good o) (gt : Good t) : ∀ p ∈ dkeys (m_agreed e o t), Pth p := fun p hp => by
  have h := agF_some ((agreed_key o t ge.nd p).mp hp)
  rcases h with h | h | h
  · exact go.pth p (get_isSome.mp h.1)
  · exact go.pth p (get_isSome.mp h.1)
  · exact gt.pth p (get_isSome.mp h.1)
theorem pth_eight {p : Tx} (h : Pth p) : p.length ≤ 900 ∧ (cuts 47 p).length ≤ 8 := ⟨Nat.le_trans h.len (by decide), ((pth_iff p).mp h).1.2⟩
def P3 (e o t : List (Tx × Tx)) : Prop := (Good e ∧ Good o ∧ Good t) ∧ (e.length ≤ 1000 ∧ o.length ≤ 1000 ∧ t.length ≤ 1000)
theorem agreed_ok {e o t : List (Tx × Tx)} (h : P3 e o t) : (m_agreed e o t).length ≤ 4000 ∧ ∀ k ∈ dkeys (m_agreed e o t), k.length ≤ 900 ∧ (cuts 47 k).length ≤ 8 :=
  ⟨agreed_len h.2, fun k hk => pth_eight (agreed_pth h.1.1 h.1.2.1 h.1.2.2 k hk)⟩
theorem flat_len {α β : Type} (f : α → List β) (n : Nat) : ∀ (l : List α), (∀ x ∈ l, (f x).length ≤ n) → (l.flatMap f).length ≤ l.length * n
  | [], _ => Nat.zero_le _
  | x :: l, h => by
    have h1 := flat_len f n l fun y hy => h y (List.mem_cons_of_mem _ hy)
    have h2 := h x List.mem_cons_self
    rw [List.flatMap_cons, List.length_append, List.length_cons, Nat.succ_mul]
    omega
theorem over_len {l : List (Tx × Tx)} (h : l.length ≤ 4000 ∧ ∀ k ∈ dkeys l, k.length ≤ 900 ∧ (cuts 47 k).length ≤ 8) : (m_overlaps l).length ≤ 32000 := by
  unfold m_overlaps
  have h1 := flat_len (fun k0 => (((m_above k0)).filter (fun k1 : Tx => (dhas l k1))).map (fun k1 : Tx => [k1, k0])) 8 (dkeys l) fun x hx => by
    show (List.map _ _).length ≤ 8
    rw [List.length_map]
    have := List.length_filter_le (fun k1 : Tx => (dhas l k1)) (m_above x)
    have := above_cuts x
    have := (h.2 x hx).2
    omega
  rw [dkeys_len] at h1
  have h2 := h.1
  omega
/-! the clashes -/
theorem single_fil (e o t : List (Tx × Tx)) : ∀ l : List Tx, (((l.filterMap (mkF e o t)).filter (fun k0 : List Tx => (decide ((k0.getD 1 []) = l_4581fc00)))).map (fun k0 : List Tx => (k0.getD 0 []))) = l.filter (CLp e o t)
  | [] => rfl
  | p :: l => by
    have ih := single_fil e o t l
    cases h : m_mark_of (dget e p) (dget o p) (dget t p) with
    | none =>
      have em : mkF e o t p = none := by
        unfold mkF
        rw [h]
        rfl
      have hc : CLp e o t p = false := by
        cases z : CLp e o t p with
        | false => rfl
        | true =>
          have := (mark_clash _ _ _).mpr z
          rw [h] at this
          cases this
      rw [List.filterMap_cons_none em, List.filter_cons_of_neg (by rw [hc]; exact Bool.false_ne_true), ih]
    | some w =>
      have em : mkF e o t p = some [p, w] := by
        unfold mkF
        rw [h]
        rfl
      rw [List.filterMap_cons_some em]
      by_cases hw : w = l_4581fc00
      · have hc : CLp e o t p = true := (mark_clash _ _ _).mp (by rw [h, hw])
        rw [List.filter_cons_of_pos (by exact decide_eq_true hw), List.filter_cons_of_pos hc, List.map_cons, ih]
        rfl
      · have hc : CLp e o t p = false := by
          cases z : CLp e o t p with
          | false => rfl
          | true =>
            have := (mark_clash _ _ _).mpr z
            rw [h] at this
            exact absurd (Option.some.inj this) hw
        rw [List.filter_cons_of_neg (by
          show ¬ decide (w = l_4581fc00) = true
          rw [decide_eq_false hw]
          exact Bool.false_ne_true), List.filter_cons_of_neg (by rw [hc]; exact Bool.false_ne_true), ih]
theorem single_is (e o t : List (Tx × Tx)) : m_single_clashes e o t = (unK e o t).filter (CLp e o t) := by
  unfold m_single_clashes
  rw [marks_is]
  exact single_fil e o t _
theorem single_mem {e o t : List (Tx × Tx)} {p : Tx} : p ∈ m_single_clashes e o t ↔ CLp e o t p = true := by
  rw [single_is, List.mem_filter]
  exact ⟨And.right, fun h => ⟨CL_un h, h⟩⟩
theorem single_len {e o t : List (Tx × Tx)} (hp : e.length ≤ 1000 ∧ o.length ≤ 1000 ∧ t.length ≤ 1000) : (m_single_clashes e o t).length ≤ 3000 := by
  rw [single_is]
  exact Nat.le_trans (List.length_filter_le _ _) (unK_len hp)

/-- what is a clash -/
def CLq (e o t : List (Tx × Tx)) (q : List Tx) : Prop := (∃ p, q = [p] ∧ CLp e o t p = true) ∨ ∃ u p, q = [u, p] ∧ Ben p u ∧ (AG e o t p).isSome = true ∧ (AG e o t u).isSome = true
def clA (e o t : List (Tx × Tx)) : List (List Tx) := m_clashes_v1 e o t ++ m_overlaps (m_agreed e o t)
theorem clA_mem {e o t : List (Tx × Tx)} (ge : (dkeys e).Nodup) {q : List Tx} : q ∈ clA e o t ↔ CLq e o t q := by
  unfold clA m_clashes_v1 CLq
  rw [List.mem_append, List.mem_map]
  refine or_congr ⟨?_, ?_⟩ ⟨?_, ?_⟩
  · rintro ⟨p, hp, rfl⟩
    exact ⟨p, rfl, single_mem.mp hp⟩
  · rintro ⟨p, rfl, hp⟩
    exact ⟨p, single_mem.mpr hp, rfl⟩
  · intro h
    obtain ⟨p, hp, u, hu, hB, rfl⟩ := over_mem.mp h
    exact ⟨u, p, rfl, hB, (agreed_key o t ge p).mp hp, (agreed_key o t ge u).mp hu⟩
  · rintro ⟨u, p, rfl, hB, hp, hu⟩
    exact over_mem.mpr ⟨p, (agreed_key o t ge p).mpr hp, u, (agreed_key o t ge u).mpr hu, hB, rfl⟩
theorem nodup_map_on {α β : Type} {f : α → β} {l : List α} (hn : l.Nodup) (h : ∀ a ∈ l, ∀ b ∈ l, f a = f b → a = b) : (l.map f).Nodup := by
  unfold List.Nodup
  rw [List.pairwise_map]
  exact List.Pairwise.imp_of_mem (fun ha hb hne e => hne (h _ ha _ hb e)) hn
theorem above_is (p : Tx) : m_above p = (List.range ((cuts 47 p).length - 1)).map fun k => joinL [47] ((cuts 47 p).take (k + 1)) := by
  unfold m_above m_above_v1
  rw [lSl_eq]
  have e3 : (((cuts 47 p).length : Nat) : Int) - 1 = (((cuts 47 p).length - 1 : Nat) : Int) := by
    have := List.length_pos_iff.mpr (cuts_ne 47 p)
    omega
  rw [e3, Int.toNat_natCast]
  apply List.map_congr_left
  intro k hk
  show joinL [47] (cutG (cuts 47 p) none (some ((1 : Int) + (k : Int)))) = _
  rw [show (1 : Int) + (k : Int) = ((k + 1 : Nat) : Int) by omega, cutG_to]
theorem above_nd (p : Tx) : (m_above p).Nodup := by
  rw [above_is]
  refine nodup_map_on List.nodup_range fun a ha b hb h => ?_
  have hc : ∀ k, k ∈ List.range ((cuts 47 p).length - 1) → (cuts 47 (joinL [47] ((cuts 47 p).take (k + 1)))).length = k + 1 := fun k hk => by
    have hk2 := List.mem_range.mp hk
    have hne : (cuts 47 p).take (k + 1) ≠ [] := fun z => by
      have h5 := congrArg List.length z
      rw [List.length_take, List.length_nil] at h5
      have := List.length_pos_iff.mpr (cuts_ne 47 p)
      omega
    have ec : cuts 47 (joinL [47] ((cuts 47 p).take (k + 1))) = (cuts 47 p).take (k + 1) := spl_join hne fun x hx => cuts_free 47 p x (List.mem_of_mem_take hx)
    rw [ec, List.length_take]
    omega
  have h1 := hc a ha
  have h2 : (cuts 47 (joinL [47] ((cuts 47 p).take (a + 1)))).length = b + 1 := by
    rw [h]
    exact hc b hb
  omega
/-- pairs of what lies above: once each -/
theorem pairs_nd {ks : List Tx} (hk : ks.Nodup) {f : Tx → List Tx} (hf : ∀ p, (f p).Nodup) : (ks.flatMap fun k0 => (f k0).map (fun k1 : Tx => [k1, k0])).Nodup := by
  unfold List.Nodup
  rw [List.pairwise_flatMap]
  refine ⟨fun a _ => nodup_map_on (hf a) fun x _ y _ h => ?_, List.Pairwise.imp (fun hne x hx y hy h => ?_) hk⟩
  · injection h
  · obtain ⟨u, _, rfl⟩ := List.mem_map.mp hx
    obtain ⟨v, _, rfl⟩ := List.mem_map.mp hy
    injection h with _ h2
    injection h2 with h3 _
    exact hne h3
theorem pairs_two {ks : List Tx} {f : Tx → List Tx} {q : List Tx} (h : q ∈ ks.flatMap fun k0 => (f k0).map (fun k1 : Tx => [k1, k0])) : q.length = 2 := by
  obtain ⟨p, _, h2⟩ := List.mem_flatMap.mp h
  obtain ⟨u, _, rfl⟩ := List.mem_map.mp h2
  rfl
theorem clA_nd {e : List (Tx × Tx)} (o t : List (Tx × Tx)) (ge : (dkeys e).Nodup) : (clA e o t).Nodup := by
  unfold clA
  rw [List.nodup_append]
  refine ⟨?_, ?_, ?_⟩
  · unfold m_clashes_v1
    refine nodup_map_on ?_ fun a _ b _ h => by injection h
    rw [single_is]
    exact (nodup_unK o t ge).filter _
  · unfold m_overlaps
    exact pairs_nd (f := fun k0 => ((m_above k0)).filter (fun k1 : Tx => (dhas (m_agreed e o t) k1))) (agreed_nd o t ge) fun p => (above_nd p).filter _
  · intro a ha b hb h
    have h2 : b.length = 2 := by
      unfold m_overlaps at hb
      exact pairs_two (f := fun k0 => ((m_above k0)).filter (fun k1 : Tx => (dhas (m_agreed e o t) k1))) hb
    unfold m_clashes_v1 at ha
    obtain ⟨p, _, rfl⟩ := List.mem_map.mp ha
    rw [← h] at h2
    exact absurd h2 (by simp)
theorem clashes_is (e o t : List (Tx × Tx)) : m_clashes e o t = srtU (clA e o t) := rfl
theorem perm_mem {α : Type} [DecidableEq α] : ∀ {l m : List α}, l.Nodup → m.Nodup → (∀ k, k ∈ l ↔ k ∈ m) → l.Perm m
  | [], m, _, _, h => by
    have e : m = [] := List.eq_nil_iff_forall_not_mem.mpr fun k hk => by
      have := (h k).mpr hk
      cases this
    rw [e]
  | x :: l, m, hl, hm, h => by
    rw [List.nodup_cons] at hl
    have hx := (h x).mp List.mem_cons_self
    refine ((perm_mem hl.2 (hm.erase x) fun k => ?_).cons x).trans (List.perm_cons_erase hx).symm
    rw [hm.mem_erase_iff]
    constructor
    · intro hk
      exact ⟨fun z => hl.1 (z ▸ hk), (h k).mp (List.mem_cons_of_mem _ hk)⟩
    · intro hk
      exact (List.mem_cons.mp ((h k).mpr hk.2)).resolve_left hk.1
theorem clash_len {e o t : List (Tx × Tx)} (ge : (dkeys e).Nodup) : ∀ q ∈ m_clashes e o t, q.length = 1 ∨ q.length = 2 := fun q hq => by
  rw [clashes_is] at hq
  rcases (clA_mem ge).mp (mem_srtU.mp hq) with ⟨p, rfl, _⟩ | ⟨u, p, rfl, _⟩
  · exact Or.inl rfl
  · exact Or.inr rfl
theorem clashes_ne {e o t : List (Tx × Tx)} : ∀ q ∈ m_clashes_v1 e o t ++ m_overlaps (m_agreed e o t), q ≠ [] := fun q hq => by
  rcases List.mem_append.mp hq with h | h
  · unfold m_clashes_v1 at h
    obtain ⟨p, _, rfl⟩ := List.mem_map.mp h
    simp
  · unfold m_overlaps at h
    have h2 := pairs_two (f := fun k0 => ((m_above k0)).filter (fun k1 : Tx => (dhas (m_agreed e o t) k1))) h
    intro z
    rw [z] at h2
    cases h2
theorem AG_pth {e o t : List (Tx × Tx)} (h : Good e ∧ Good o ∧ Good t) {p : Tx} (hs : (AG e o t p).isSome = true) : Pth p := agreed_pth h.1 h.2.1 h.2.2 p ((agreed_key o t h.1.nd p).mpr hs)
theorem CL_pth {e o t : List (Tx × Tx)} (h : Good e ∧ Good o ∧ Good t) {p : Tx} (hs : CLp e o t p = true) : Pth p := by
  rcases mem_unK.mp (CL_un hs) with (z | z) | z
  · exact h.1.pth p z
  · exact h.2.1.pth p z
  · exact h.2.2.pth p z
theorem pth_okT {p : Tx} (h : Pth p) : okT p := fun c hc => Nat.lt_of_lt_of_le (pth_sign h c hc) (by decide)
theorem CLq_okT {e o t : List (Tx × Tx)} (h : Good e ∧ Good o ∧ Good t) {q : List Tx} (hq : CLq e o t q) : ∀ p ∈ q, okT p := fun x hx => by
  rcases hq with ⟨p, rfl, hp⟩ | ⟨u, p, rfl, _, hp, hu⟩
  · rw [List.mem_singleton.mp hx]
    exact pth_okT (CL_pth h hp)
  · rcases List.mem_cons.mp hx with z | z
    · rw [z]
      exact pth_okT (AG_pth h hu)
    · rw [List.mem_singleton.mp z]
      exact pth_okT (AG_pth h hp)
theorem clash_okT {e o t : List (Tx × Tx)} (h : Good e ∧ Good o ∧ Good t) : ∀ q ∈ m_clashes e o t, ∀ p ∈ q, okT p := fun q hq => by
  rw [clashes_is] at hq
  exact CLq_okT h ((clA_mem h.1.nd).mp (mem_srtU.mp hq))
theorem CLq_sym {e o t : List (Tx × Tx)} {q : List Tx} : CLq e t o q ↔ CLq e o t q := by
  unfold CLq CLp AG
  have e1 : ∀ p, clsh (dget e p) (dget t p) (dget o p) = clsh (dget e p) (dget o p) (dget t p) := fun p => clsh_sym _ _ _
  have e2 : ∀ p, agF (dget e p) (dget t p) (dget o p) = agF (dget e p) (dget o p) (dget t p) := fun p => agF_sym _ _ _
  simp only [e1, e2]
theorem clashes_sym {e : List (Tx × Tx)} (o t : List (Tx × Tx)) (ge : (dkeys e).Nodup) : m_clashes e t o = m_clashes e o t := by
  rw [clashes_is, clashes_is]
  exact srtU_congr (perm_mem (clA_nd t o ge) (clA_nd o t ge) fun k => by rw [clA_mem ge, clA_mem ge, CLq_sym])

/-! joined -/
def P4 (e o t : List (Tx × Tx)) : Prop := P3 e o t ∧ (e.length ≤ 200 ∧ o.length ≤ 200 ∧ t.length ≤ 200)
theorem unK_len4 {e o t : List (Tx × Tx)} (hp : e.length ≤ 200 ∧ o.length ≤ 200 ∧ t.length ≤ 200) : (unK e o t).length ≤ 600 := by
  unfold unK
  rw [srt_len]
  have a1 := uniT_len (dkeys o) (dkeys e)
  have a2 := uniT_len (dkeys t) (uniT (dkeys e) (dkeys o))
  have b1 := dkeys_len e
  have b2 := dkeys_len o
  have b3 := dkeys_len t
  omega
theorem agreed_len4 {e o t : List (Tx × Tx)} (hp : e.length ≤ 200 ∧ o.length ≤ 200 ∧ t.length ≤ 200) : (m_agreed e o t).length ≤ 800 := by
  have h := fold_cnt (f := agS e o t) (I := fun n s => s.length ≤ 200 + n) (l := unK e o t) (s0 := e) hp.1 (fun n s y _ h => by
    show (agS e o t s y).length ≤ 200 + (n + 1)
    cases hm : m_mark_of (dget e y) (dget o y) (dget t y) with
    | some w =>
      rw [agS_some hm]
      have := settle_len s y (AG e o t y)
      have h2 : s.length ≤ 200 + n := h
      omega
    | none =>
      rw [agS_none hm]
      exact Nat.le_succ_of_le h) _ (Nat.le_refl _)
  rw [List.take_length, ← agreed_is] at h
  have h2 := unK_len4 hp
  have h3 : (m_agreed e o t).length ≤ 200 + (unK e o t).length := h
  omega
/-- picks as the law makes them -/
def okPicks (P : List (Tx × Option Tx)) : Prop := ((dkeys P).Nodup ∧ P.length ≤ 700) ∧ ∀ k ∈ dkeys P, (k.length ≤ 900 ∧ (cuts 47 k).length ≤ 8) ∧ okT k
theorem clashes_len {e o t : List (Tx × Tx)} (h : P3 e o t) : (m_clashes e o t).length ≤ 35000 := by
  have h1 := single_len h.2
  have h2 := over_len (agreed_ok h)
  unfold m_clashes m_clashes_v1
  rw [srtU_len, List.length_append, List.length_map]
  omega
theorem flat2_len : ∀ {l : List (List Tx)}, (∀ q ∈ l, q.length ≤ 2) → l.flatten.length ≤ l.length * 2
  | [], _ => Nat.zero_le _
  | q :: l, h => by
    have h1 := flat2_len (l := l) fun x hx => h x (List.mem_cons_of_mem _ hx)
    have h2 := h q List.mem_cons_self
    rw [List.flatten_cons, List.length_append, List.length_cons, Nat.succ_mul]
    omega
theorem clashing_len {e o t : List (Tx × Tx)} (h : P3 e o t) : (m_clashes e o t).flatten.length ≤ 70000 := by
  have h1 := clashes_len h
  have h2 := flat2_len (l := m_clashes e o t) fun q hq => by
    rcases clash_len h.1.1.nd q hq with z | z <;> omega
  omega
theorem settle_keys {l : List (Tx × Tx)} {k : Tx} {x : Option Tx} {j : Tx} (h : j ∈ dkeys (m_settle l k x)) : j = k ∨ j ∈ dkeys l := by
  cases x with
  | none => exact Or.inr (mem_keys_del.mp h).1
  | some t => exact mem_keys_put.mp h
def stS (s : List (Tx × Tx)) (y : Tx × Option Tx) : List (Tx × Tx) := m_settle s y.1 y.2
theorem jv4_is (P : List (Tx × Option Tx)) (e o t : List (Tx × Tx)) : m_joined_v4 P e o t = P.foldl stS (m_agreed e o t) := by
  unfold m_joined_v4
  rw [out_all (step := m_joined_step3) (g := fun s y => m_joined_v3 s y) (fun _ _ => rfl)]
  rfl
theorem jv4_inv {I : List (Tx × Tx) → Prop} {P : List (Tx × Option Tx)} {e o t : List (Tx × Tx)} (h0 : I (m_agreed e o t)) (h : ∀ s y, y ∈ P → I s → I (m_settle s y.1 y.2)) : I (m_joined_v4 P e o t) := by
  rw [jv4_is]
  exact fold_inv h0 h
theorem jloop {e o t : List (Tx × Tx)} {P : List (Tx × Option Tx)} (hp : P4 e o t) (hq : okPicks P) {i : Nat} {s : List (Tx × Tx)} {y : Tx × Option Tx} (h : runL m_joined_step3 (P.take i) (m_joined_v2 e o t) = .go s) (hy : P[i]? = some y) : s.length ≤ 1500 := by
  have hi := (List.getElem?_eq_some_iff.mp hy).1
  have h1 := run_cnt (g := fun s y => m_joined_v3 s y) (fun _ _ => rfl) (I := fun n s => s.length ≤ 800 + n) h (Nat.le_of_lt hi) (agreed_len4 hp.2) (fun n s y _ hs => by
    show (m_settle s y.1 y.2).length ≤ 800 + (n + 1)
    have h2 := settle_len s y.1 y.2
    have h3 : s.length ≤ 800 + n := hs
    omega)
  have h2 : s.length ≤ 800 + i := h1
  have h3 := hq.1.2
  omega
theorem jv4_len {e o t : List (Tx × Tx)} {P : List (Tx × Option Tx)} (hp : P4 e o t) (hq : okPicks P) : (m_joined_v4 P e o t).length ≤ 1500 := by
  rw [jv4_is]
  have h1 := fold_cnt (f := stS) (I := fun n s => s.length ≤ 800 + n) (l := P) (s0 := m_agreed e o t) (agreed_len4 hp.2) (fun n s y _ hs => by
    show (m_settle s y.1 y.2).length ≤ 800 + (n + 1)
    have h2 := settle_len s y.1 y.2
    have h3 : s.length ≤ 800 + n := hs
    omega) _ (Nat.le_refl _)
  rw [List.take_length] at h1
  have h2 : (P.foldl stS (m_agreed e o t)).length ≤ 800 + P.length := h1
  have h3 := hq.1.2
  omega
theorem jv4_keys {e o t : List (Tx × Tx)} {P : List (Tx × Option Tx)} (hp : P4 e o t) (hq : okPicks P) : ∀ k ∈ dkeys (m_joined_v4 P e o t), (k.length ≤ 900 ∧ (cuts 47 k).length ≤ 8) ∧ okT k := by
  refine jv4_inv (I := fun s => ∀ k ∈ dkeys s, (k.length ≤ 900 ∧ (cuts 47 k).length ≤ 8) ∧ okT k) (fun k hk => ?_) fun s y hy hs k hk => ?_
  · have h := agreed_pth hp.1.1.1 hp.1.1.2.1 hp.1.1.2.2 k hk
    exact ⟨pth_eight h, pth_okT h⟩
  · rcases settle_keys hk with z | z
    · rw [z]
      exact hq.2 y.1 (mem_keys hy)
    · exact hs k z
theorem jv4_over {e o t : List (Tx × Tx)} {P : List (Tx × Option Tx)} (hp : P4 e o t) (hq : okPicks P) : (m_joined_v4 P e o t).length ≤ 4000 ∧ ∀ k ∈ dkeys (m_joined_v4 P e o t), k.length ≤ 900 ∧ (cuts 47 k).length ≤ 8 :=
  ⟨Nat.le_trans (jv4_len hp hq) (by decide), fun k hk => (jv4_keys hp hq k hk).1⟩
theorem jv4_okT {e o t : List (Tx × Tx)} {P : List (Tx × Option Tx)} (hp : P4 e o t) (hq : okPicks P) : ∀ q ∈ m_overlaps (m_joined_v4 P e o t), ∀ p ∈ q, okT p := over_okT fun k hk => (jv4_keys hp hq k hk).2
theorem single_short {e o t : List (Tx × Tx)} (h : P4 e o t) {y : Tx} (hy : y ∈ m_single_clashes e o t) : y.length ≤ 104 := (CL_pth h.1.1 (single_mem.mp hy)).len
/-- what stands at a path then -/
def VV (e o t : List (Tx × Tx)) (P : List (Tx × Option Tx)) (p : Tx) : Option Tx := if p ∈ dkeys P then (dget P p).getD none else AG e o t p
theorem fold_st (p : Tx) : ∀ (l : List (Tx × Option Tx)) (s : List (Tx × Tx)), (dkeys l).Nodup → dget (l.foldl stS s) p = if p ∈ dkeys l then (dget l p).getD none else dget s p
  | [], s, _ => rfl
  | y :: l, s, hn => by
    have hn2 : (y.1 :: dkeys l).Nodup := hn
    rw [List.nodup_cons] at hn2
    rw [List.foldl_cons, fold_st p l _ hn2.2]
    have e1 : p ∈ dkeys (y :: l) ↔ p = y.1 ∨ p ∈ dkeys l := List.mem_cons
    by_cases h1 : p ∈ dkeys l
    · have ne : ¬ y.1 = p := fun z => hn2.1 (z ▸ h1)
      rw [if_pos h1, if_pos (e1.mpr (Or.inr h1)), get_cons, if_neg ne]
    · rw [if_neg h1]
      unfold stS
      rw [get_settle]
      by_cases h2 : p = y.1
      · rw [if_pos h2, if_pos (e1.mpr (Or.inl h2)), get_cons, if_pos h2.symm]
        rfl
      · rw [if_neg h2, if_neg fun z => (e1.mp z).elim h2 h1]
theorem jv4_get {e : List (Tx × Tx)} (o t : List (Tx × Tx)) {P : List (Tx × Option Tx)} (ge : (dkeys e).Nodup) (hn : (dkeys P).Nodup) (p : Tx) : dget (m_joined_v4 P e o t) p = VV e o t P p := by
  rw [jv4_is, fold_st p P _ hn, agreed_get o t ge]
  rfl
theorem jv4_nd {e : List (Tx × Tx)} (o t : List (Tx × Tx)) (P : List (Tx × Option Tx)) (ge : (dkeys e).Nodup) : (dkeys (m_joined_v4 P e o t)).Nodup :=
  jv4_inv (I := fun s => (dkeys s).Nodup) (agreed_nd o t ge) fun s y _ h => nodup_settle h
theorem jv4_key {e : List (Tx × Tx)} (o t : List (Tx × Tx)) {P : List (Tx × Option Tx)} (ge : (dkeys e).Nodup) (hn : (dkeys P).Nodup) (p : Tx) : p ∈ dkeys (m_joined_v4 P e o t) ↔ (VV e o t P p).isSome = true := by
  rw [← jv4_get o t ge hn, get_isSome]
theorem run_if {α R : Type} {step : Unit → α → Stp Unit R} {c : α → Bool} {r : R} (h : ∀ y, step () y = if c y = true then .ret r else .go ()) : ∀ l : List α, runL step l () = if l.any c = true then .ret r else .go ()
  | [] => rfl
  | y :: l => by
    rw [List.any_cons]
    by_cases hc : c y = true
    · have h1 := h y
      rw [if_pos hc] at h1
      rw [runL_ret h1, hc, Bool.true_or, if_pos rfl]
    · have h1 := h y
      rw [if_neg hc] at h1
      have hc2 : c y = false := by
        cases z : c y with
        | false => rfl
        | true => exact absurd z hc
      rw [runL_go h1, run_if h l, hc2, Bool.false_or]
def jA (e o t : List (Tx × Tx)) (P : List (Tx × Option Tx)) : Bool := (dkeys P).any fun k => !decide (k ∈ (m_clashes e o t).flatten)
def jB (e o t : List (Tx × Tx)) (P : List (Tx × Option Tx)) : Bool := (m_single_clashes e o t).any fun k => !dhas P k
def jC (e o t : List (Tx × Tx)) (P : List (Tx × Option Tx)) : Bool := !decide (m_overlaps (m_joined_v4 P e o t) = [])
theorem joined_is (e o t : List (Tx × Tx)) (P : List (Tx × Option Tx)) : m_joined e o t P = if jA e o t P = true then .exc 4 else if jB e o t P = true then .exc 5 else if jC e o t P = true then .exc 5 else .ok (m_joined_v4 P e o t) := by
  unfold m_joined
  rw [run_if (step := m_joined_step1 e o t) (c := fun k => !decide (k ∈ (m_clashes e o t).flatten)) (fun _ => rfl), run_if (step := m_joined_step2 P) (c := fun k => !dhas P k) (fun _ => rfl)]
  show aftL (if jA e o t P = true then _ else _) _ = _
  by_cases h1 : jA e o t P = true
  · rw [if_pos h1, if_pos h1]
    rfl
  · rw [if_neg h1, if_neg h1]
    show aftL (if jB e o t P = true then _ else _) _ = _
    by_cases h2 : jB e o t P = true
    · rw [if_pos h2, if_pos h2]
      rfl
    · rw [if_neg h2, if_neg h2]
      rfl
theorem kinds_joined {e o t : List (Tx × Tx)} {P : List (Tx × Option Tx)} {k : Nat} (h : m_joined e o t P = .exc k) : k = 4 ∨ k = 5 := by
  rw [joined_is] at h
  split at h
  · cases h
    exact Or.inl rfl
  · split at h
    · cases h
      exact Or.inr rfl
    · split at h
      · cases h
        exact Or.inr rfl
      · cases h
theorem flat_mem {e o t : List (Tx × Tx)} (ge : (dkeys e).Nodup) {p : Tx} : p ∈ (m_clashes e o t).flatten ↔ CLp e o t p = true ∨ ∃ x y, Ben y x ∧ (AG e o t y).isSome = true ∧ (AG e o t x).isSome = true ∧ (p = x ∨ p = y) := by
  rw [List.mem_flatten]
  constructor
  · rintro ⟨q, hq, hp⟩
    rw [clashes_is] at hq
    rcases (clA_mem ge).mp (mem_srtU.mp hq) with ⟨x, rfl, h⟩ | ⟨x, y, rfl, hB, hy, hx⟩
    · rw [List.mem_singleton.mp hp]
      exact Or.inl h
    · refine Or.inr ⟨x, y, hB, hy, hx, ?_⟩
      rcases List.mem_cons.mp hp with z | z
      · exact Or.inl z
      · exact Or.inr (List.mem_singleton.mp z)
  · have g : ∀ q, CLq e o t q → q ∈ m_clashes e o t := fun q h => by
      rw [clashes_is]
      exact mem_srtU.mpr ((clA_mem ge).mpr h)
    rintro (h | ⟨x, y, hB, hy, hx, h⟩)
    · exact ⟨[p], g _ (Or.inl ⟨p, rfl, h⟩), List.mem_singleton.mpr rfl⟩
    · refine ⟨[x, y], g _ (Or.inr ⟨x, y, rfl, hB, hy, hx⟩), ?_⟩
      rcases h with z | z
      · rw [z]
        exact List.mem_cons_self
      · rw [z]
        exact List.mem_cons_of_mem _ List.mem_cons_self
theorem flat_un {e o t : List (Tx × Tx)} (ge : (dkeys e).Nodup) {p : Tx} (h : p ∈ (m_clashes e o t).flatten) : p ∈ unK e o t := by
  rcases (flat_mem ge).mp h with z | ⟨x, y, _, hy, hx, z⟩
  · exact CL_un z
  · rcases z with z | z
    · rw [z]
      exact AG_un hx
    · rw [z]
      exact AG_un hy

/-! ## elders -/
theorem eld_inner (l : List Int) (s : List Int) : runL mB_elders_step2 l s = .go (uniZ s l) := runL_all mB_elders_step2 addZ (fun _ _ => rfl) l s
/-- k is n, or an elder of n -/
inductive Anc (P : List (List Int)) (n : Int) : Int → Prop where
  | self : Anc P n n
  | up {k j : Int} (h : Anc P n k) (m : j ∈ P.getD k.toNat []) : Anc P n j
theorem Anc.rng {T : List (List (Tx × Tx))} {P : List (List Int)} {n k : Int} (hok : OkB T P) (h0 : 0 ≤ n) (hn : n < (T.length : Int)) (h : Anc P n k) : 0 ≤ k ∧ k ≤ n := by
  induction h with
  | self => omega
  | up h m ih =>
    have q := hok.at ih.1 (by omega) m
    omega
theorem Anc.trans {P : List (List Int)} {n k j : Int} (h : Anc P n k) (h2 : Anc P k j) : Anc P n j := by
  induction h2 with
  | self => exact h
  | up _ m ih => exact .up ih m
theorem nodup_addZ {l : List Int} (h : l.Nodup) (k : Int) : (addZ l k).Nodup := by
  unfold addZ
  split
  · exact h
  · rename_i hk
    rw [List.nodup_append]
    exact ⟨h, List.pairwise_singleton _ _, fun a ha b hb e => hk (by rw [List.mem_singleton] at hb; rw [← hb, ← e]; exact ha)⟩
theorem nodup_uniZ : ∀ {m l : List Int}, l.Nodup → (uniZ l m).Nodup
  | [], l, h => h
  | k :: m, l, h => nodup_uniZ (m := m) (nodup_addZ h k)
theorem uniZ_len : ∀ (m l : List Int), (uniZ l m).length ≤ l.length + m.length
  | [], l => Nat.le_refl _
  | k :: m, l => by
    have a := uniZ_len m (addZ l k)
    have b := addZ_len l k
    show (uniZ (addZ l k) m).length ≤ _
    rw [List.length_cons]
    omega
/-- numbers from 0 to n, each once -/
theorem few_in {n : Int} {l : List Int} (nd : l.Nodup) (h : ∀ k ∈ l, 0 ≤ k ∧ k ≤ n) : l.length ≤ n.toNat + 1 := by
  have q := nodup_le (n.toNat + 1) (l.map Int.toNat) (List.pairwise_map.mpr (nd.imp_of_mem fun {a b} ha hb ne e => ne (by
    have x := h a ha
    have y := h b hb
    omega))) (fun x hx => by
    obtain ⟨k, hk, e⟩ := List.mem_map.mp hx
    have y := h k hk
    omega)
  rw [List.length_map] at q
  exact q
structure EInv (P : List (List Int)) (n : Int) (t : Nat) (s : List Int) : Prop where
  anc : ∀ k ∈ s, Anc P n k
  self : n ∈ s
  clo : ∀ k ∈ s, n - (t : Int) < k → ∀ j ∈ P.getD k.toNat [], j ∈ s
  nd : s.Nodup
def eldG (P : List (List Int)) (n : Int) (s : List Int) (y : Nat) : List Int := if decide (((n + (1 : Int)) - 1 - (y : Int)) ∈ s) = true then uniZ s (P.getD ((n + (1 : Int)) - 1 - (y : Int)).toNat []) else s
theorem eld_step (T : List (List (Tx × Tx))) (P : List (List Int)) (n : Int) (s : List Int) (y : Nat) : mB_elders_step1 T P n s y = .go (eldG P n s y) := by
  unfold mB_elders_step1 mB_elders_v4 mB_elders_v3 eldG
  rw [eld_inner]
  rfl
theorem eld_inv {T : List (List (Tx × Tx))} {P : List (List Int)} {n : Int} (hok : OkB T P) (h0 : 0 ≤ n) (hn : n < (T.length : Int)) : ∀ t : Nat, (t : Int) ≤ n + 1 → EInv P n t ((List.range t).foldl (eldG P n) [n])
  | 0, _ => ⟨fun k hk => by rw [List.mem_singleton.mp hk]; exact .self, List.mem_singleton.mpr rfl, fun k hk hl => by rw [List.mem_singleton.mp hk] at hl; omega, List.pairwise_singleton _ _⟩
  | t + 1, ht => by
    have I := eld_inv hok h0 hn t (by omega)
    rw [List.range_succ, List.foldl_append]
    show EInv P n (t + 1) (eldG P n ((List.range t).foldl (eldG P n) [n]) t)
    generalize (List.range t).foldl (eldG P n) [n] = s at I ⊢
    unfold eldG
    have ei : (n + (1 : Int)) - 1 - (t : Int) = n - t := by omega
    rw [ei]
    by_cases hm : n - (t : Int) ∈ s
    · rw [if_pos (decide_eq_true hm)]
      refine ⟨fun k hk => ?_, mem_uniZ.mpr (Or.inl I.self), fun k hk hl j hj => ?_, nodup_uniZ I.nd⟩
      · rcases mem_uniZ.mp hk with z | z
        · exact I.anc k z
        · exact .up (I.anc _ hm) z
      · rcases mem_uniZ.mp hk with z | z
        · by_cases e : k = n - (t : Int)
          · subst e
            exact mem_uniZ.mpr (Or.inr hj)
          · exact mem_uniZ.mpr (Or.inl (I.clo k z (by omega) j hj))
        · have q := hok.at (by omega) (by omega) z
          omega
    · rw [if_neg (by rw [decide_eq_false hm]; exact Bool.false_ne_true)]
      refine ⟨I.anc, I.self, fun k hk hl j hj => ?_, I.nd⟩
      have e : k ≠ n - (t : Int) := fun e => hm (e ▸ hk)
      exact I.clo k hk (by omega) j hj
theorem eld_v5 (T : List (List (Tx × Tx))) (P : List (List Int)) (n : Int) : mB_elders_v5 T P n = (List.range (n + 1).toNat).foldl (eldG P n) [n] := by
  unfold mB_elders_v5
  rw [runL_all _ (eldG P n) (eld_step T P n)]
  rfl
/-- what elders tells -/
theorem mem_elders {T : List (List (Tx × Tx))} {P : List (List Int)} {n : Int} (hok : OkB T P) (h0 : 0 ≤ n) (hn : n < (T.length : Int)) {k : Int} : k ∈ mB_elders T P n ↔ Anc P n k := by
  unfold mB_elders
  rw [mem_srtZ, eld_v5]
  have I := eld_inv hok h0 hn (n + 1).toNat (by omega)
  refine ⟨I.anc k, fun h => ?_⟩
  induction h with
  | self => exact I.self
  | up h m ih =>
    have q := h.rng hok h0 hn
    exact I.clo _ ih (by omega) _ m
theorem pw_elders (T : List (List (Tx × Tx))) (P : List (List Int)) (n : Int) : (mB_elders T P n).Pairwise (· ≤ ·) := srtZ_pw _
theorem nd_elders {T : List (List (Tx × Tx))} {P : List (List Int)} {n : Int} (hok : OkB T P) (h0 : 0 ≤ n) (hn : n < (T.length : Int)) : (mB_elders T P n).Nodup := by
  unfold mB_elders
  rw [eld_v5]
  exact (srtZ_perm _).nodup_iff.mpr (eld_inv hok h0 hn (n + 1).toNat (by omega)).nd
theorem in_elders {T : List (List (Tx × Tx))} {P : List (List Int)} {n : Int} (hok : OkB T P) (h0 : 0 ≤ n) (hn : n < (T.length : Int)) {k : Int} (h : k ∈ mB_elders T P n) : 0 ≤ k ∧ k ≤ n := ((mem_elders hok h0 hn).mp h).rng hok h0 hn
theorem len_elders {T : List (List (Tx × Tx))} {P : List (List Int)} {n : Int} (hok : OkB T P) (h0 : 0 ≤ n) (hn : n < (T.length : Int)) : (mB_elders T P n).length ≤ 2000 := by
  have q := few_in (nd_elders hok h0 hn) (fun k hk => in_elders hok h0 hn hk)
  have b := hok.big
  omega
/-- how long the set is on the way -/
theorem eld_on {T : List (List (Tx × Tx))} {P : List (List Int)} {n : Int} (hok : OkB T P) (h0 : 0 ≤ n) (hn : n < (T.length : Int)) {i y : Nat} {s : List Int} (hr : runL (mB_elders_step1 T P n) ((List.range (n + 1).toNat).take i) (mB_elders_v1 n) = .go s)
    (hy : (List.range (n + 1).toNat)[i]? = some y) : s.length ≤ 2000 ∧ y = i := by
  rw [runL_all _ (eldG P n) (eld_step T P n), List.take_range] at hr
  have hi := (List.getElem?_eq_some_iff.mp hy).1
  rw [List.length_range] at hi
  rw [Nat.min_eq_left (by omega)] at hr
  have I := eld_inv hok h0 hn i (by omega)
  have e : (List.range i).foldl (eldG P n) [n] = s := Stp.go.inj hr
  rw [e] at I
  have q := few_in I.nd fun k hk => (I.anc k hk).rng hok h0 hn
  have b := hok.big
  rw [List.getElem?_range (by omega)] at hy
  exact ⟨by omega, (Option.some.inj hy).symm⟩
theorem eld_on2 {l s1 s2 : List Int} {i : Nat} (hr : runL mB_elders_step2 (l.take i) s1 = .go s2) (hs : s1.length ≤ 2000) (hl : l.length ≤ 2) : s2.length ≤ 2002 := by
  rw [eld_inner] at hr
  have e : uniZ s1 (l.take i) = s2 := Stp.go.inj hr
  have q := uniZ_len (l.take i) s1
  rw [e, List.length_take] at q
  omega

/-! ## nearest -/
theorem anc_zero {T : List (List (Tx × Tx))} {P : List (List Int)} {n : Int} (hok : OkB T P) (h0 : 0 ≤ n) (hn : n < (T.length : Int)) : Anc P n 0 := by
  have H : ∀ (m : Nat) (k : Int), k.toNat ≤ m → Anc P n k → Anc P n 0 := by
    intro m
    induction m with
    | zero =>
      intro k hk h
      have q := h.rng hok h0 hn
      have e : k = 0 := by omega
      exact e ▸ h
    | succ m ih =>
      intro k hk h
      have q := h.rng hok h0 hn
      by_cases e : k = 0
      · exact e ▸ h
      · have ne := hok.ne k.toNat (by omega) (by have := hok.len; omega)
        obtain ⟨j, hj⟩ := List.exists_mem_of_ne_nil _ ne
        have r := hok.at q.1 (by omega) hj
        exact ih j (by omega) (.up h hj)
  exact H n.toNat n (Nat.le_refl _) .self

theorem mem_near {T : List (List (Tx × Tx))} {P : List (List Int)} {a b : Int} (hok : OkB T P) (a0 : 0 ≤ a) (ha : a < (T.length : Int)) (b0 : 0 ≤ b) (hb : b < (T.length : Int)) {k : Int} :
    k ∈ srtZ (List.filter (fun z => decide (z ∈ uniZ [] (mB_elders T P b))) (uniZ [] (mB_elders T P a))) ↔ Anc P a k ∧ Anc P b k := by
  rw [mem_srtZ, List.mem_filter, mem_uniZ]
  constructor
  · rintro ⟨h1, h2⟩
    have h2 := mem_uniZ.mp (of_decide_eq_true h2)
    exact ⟨(mem_elders hok a0 ha).mp (h1.elim (fun z => nomatch z) id), (mem_elders hok b0 hb).mp (h2.elim (fun z => nomatch z) id)⟩
  · rintro ⟨h1, h2⟩
    exact ⟨Or.inr ((mem_elders hok a0 ha).mpr h1), decide_eq_true (mem_uniZ.mpr (Or.inr ((mem_elders hok b0 hb).mpr h2)))⟩
theorem near_pos {T : List (List (Tx × Tx))} {P : List (List Int)} {a b : Int} (hok : OkB T P) (a0 : 0 ≤ a) (ha : a < (T.length : Int)) (b0 : 0 ≤ b) (hb : b < (T.length : Int)) :
    0 < (srtZ (List.filter (fun z => decide (z ∈ uniZ [] (mB_elders T P b))) (uniZ [] (mB_elders T P a)))).length :=
  List.length_pos_of_mem ((mem_near hok a0 ha b0 hb).mpr ⟨anc_zero hok a0 ha, anc_zero hok b0 hb⟩)
theorem last_mem {l : List Int} (h : 0 < l.length) : l.getLastD 0 ∈ l := by
  cases l with
  | nil => cases h
  | cons x r =>
    rw [List.getLastD_eq_getLast?, List.getLast?_eq_getLast (List.cons_ne_nil x r)]
    exact List.getLast_mem _
/-- what nearest tells: an elder of both -/
theorem nearest_anc {T : List (List (Tx × Tx))} {P : List (List Int)} {a b : Int} (hok : OkB T P) (a0 : 0 ≤ a) (ha : a < (T.length : Int)) (b0 : 0 ≤ b) (hb : b < (T.length : Int)) : Anc P a (mB_nearest T P a b) ∧ Anc P b (mB_nearest T P a b) :=
  (mem_near hok a0 ha b0 hb).mp (last_mem (near_pos hok a0 ha b0 hb))
theorem nearest_in {T : List (List (Tx × Tx))} {P : List (List Int)} {a b : Int} (hok : OkB T P) (a0 : 0 ≤ a) (ha : a < (T.length : Int)) (b0 : 0 ≤ b) (hb : b < (T.length : Int)) : 0 ≤ mB_nearest T P a b ∧ mB_nearest T P a b < (T.length : Int) := by
  have q := (nearest_anc hok a0 ha b0 hb).1.rng hok a0 ha
  omega

/-! ## nearest is the greatest -/
theorem last_ge : ∀ {l : List Int}, l.Pairwise (· ≤ ·) → ∀ k ∈ l, k ≤ l.getLastD 0
  | [], _, k, h => (nomatch h)
  | [x], _, k, h => by rw [List.mem_singleton.mp h]; exact Int.le_refl _
  | x :: y :: r, hp, k, h => by
    have hp2 := List.pairwise_cons.mp hp
    have e : (x :: y :: r).getLastD 0 = (y :: r).getLastD 0 := by
      rw [List.getLastD_eq_getLast?, List.getLastD_eq_getLast?, List.getLast?_cons_cons]
    rw [e]
    rcases List.mem_cons.mp h with z | z
    · rw [z]
      exact Int.le_trans (hp2.1 y List.mem_cons_self) (last_ge hp2.2 y List.mem_cons_self)
    · exact last_ge hp2.2 k z
/-- nearest is the greatest number of the elders that both have -/
theorem nearest_max {T : List (List (Tx × Tx))} {P : List (List Int)} {a b : Int} (hok : OkB T P) (a0 : 0 ≤ a) (ha : a < (T.length : Int)) (b0 : 0 ≤ b) (hb : b < (T.length : Int)) {k : Int} (h1 : Anc P a k) (h2 : Anc P b k) : k ≤ mB_nearest T P a b :=
  last_ge (srtZ_pw _) k ((mem_near hok a0 ha b0 hb).mpr ⟨h1, h2⟩)
theorem nearest_comm {T : List (List (Tx × Tx))} {P : List (List Int)} {a b : Int} (hok : OkB T P) (a0 : 0 ≤ a) (ha : a < (T.length : Int)) (b0 : 0 ≤ b) (hb : b < (T.length : Int)) : mB_nearest T P a b = mB_nearest T P b a := by
  have h1 := nearest_anc hok a0 ha b0 hb
  have h2 := nearest_anc hok b0 hb a0 ha
  exact Int.le_antisymm (nearest_max hok b0 hb a0 ha h1.2 h1.1) (nearest_max hok a0 ha b0 hb h2.2 h2.1)
/-- an elder that is one: nearest is it -/
theorem nearest_elder {T : List (List (Tx × Tx))} {P : List (List Int)} {a b : Int} (hok : OkB T P) (a0 : 0 ≤ a) (ha : a < (T.length : Int)) (b0 : 0 ≤ b) (hb : b < (T.length : Int)) (h : Anc P a b) : mB_nearest T P a b = b := by
  have h1 := nearest_anc hok a0 ha b0 hb
  have q := h1.2.rng hok b0 hb
  have r := nearest_max hok a0 ha b0 hb h .self
  omega

/-! ## what a book takes -/
structure goGrow (T : List (List (Tx × Tx))) (P : List (List Int)) (n : Int) (ds : List (List Tx)) : Prop where
  ok : OkB T P
  inn : 0 ≤ n ∧ n < (T.length : Int)
  cp : okRow ds ∧ Good (T.getD n.toNat []) ∧ (T.getD n.toNat []).length + ds.length ≤ 1000
  ch : m_changed (T.getD n.toNat []) ds = .ok (resD (m_changed (T.getD n.toNat []) ds))
/-! ## the law's own elders -/
structure OkP (P : List (List Int)) : Prop where
  big : P.length ≤ 2000
  lt : ∀ k i : Int, 0 ≤ k → k < (P.length : Int) → i ∈ P.getD k.toNat [] → 0 ≤ i ∧ i < k
  few : ∀ i : Nat, (P.getD i []).length ≤ 2
theorem okp {T : List (List (Tx × Tx))} {P : List (List Int)} (h : OkB T P) : OkP P := ⟨by have := h.len; have := h.big; omega, fun k i h0 hk hi => h.at h0 (by have := h.len; omega) hi, h.few⟩
theorem OkP.in_ {P : List (List Int)} (h : OkP P) {k : Nat} {i : Int} (hi : i ∈ P.getD k []) : 0 ≤ i ∧ i < (P.length : Int) := by
  have hk : k < P.length := by
    by_cases z : k < P.length
    · exact z
    · rw [List.getD_eq_getElem?_getD, List.getElem?_eq_none (by omega)] at hi
      cases hi
  have q := h.lt (k : Int) i (by omega) (by omega) (by rw [Int.toNat_natCast]; exact hi)
  omega
theorem anc_le {P : List (List Int)} (hP : OkP P) {n k : Int} (h0 : 0 ≤ n) (hn : n < (P.length : Int)) (h : Anc P n k) : 0 ≤ k ∧ k ≤ n := by
  induction h with
  | self => omega
  | up h m ih =>
    have q := hP.lt _ _ ih.1 (by omega) m
    omega

/-! ## the book's own roads -/
theorem anc_near {P : List (List Int)} {n k : Int} (h : Anc P n k) : n = k ∨ ∃ p ∈ P.getD n.toNat [], Anc P p k := by
  induction h with
  | self => exact Or.inl rfl
  | up h m ih =>
    rcases ih with e | ⟨p, hp, hk⟩
    · subst e
      exact Or.inr ⟨_, m, .self⟩
    · exact Or.inr ⟨p, hp, .up hk m⟩
theorem anc_one {P : List (List Int)} {n p k : Int} (hp : p ∈ P.getD n.toNat []) (h : Anc P p k) : Anc P n k := by
  induction h with
  | self => exact .up .self hp
  | up _ m ih => exact .up ih m
/-- what back holds: of each number a parent, towards e -/
structure Bck (P : List (List Int)) (e t : Int) (kvs : List (Key × V)) : Prop where
  snd : ∀ k v, valV kvs (Sum.inl k) = some v → ∃ p, v = .int p ∧ p ∈ P.getD k.toNat [] ∧ e < k ∧ (p = e ∨ (valV kvs (Sum.inl p)).isSome = true)
  cmp : ∀ k, e < k → k < t → Anc P k e → (valV kvs (Sum.inl k)).isSome = true
theorem bck_start (P : List (List Int)) (e : Int) : Bck P e (e + 1) [] := ⟨fun k v h => (nomatch h), fun k h1 h2 => by omega⟩
theorem valV_putI {kvs : List (Key × V)} {k j : Int} {v : V} : valV (putK kvs (Sum.inl k) v) (Sum.inl j) = if j = k then some v else valV kvs (Sum.inl j) := by
  rw [valV_put]
  by_cases e : j = k
  · rw [if_pos e, if_pos (congrArg Sum.inl e)]
  · rw [if_neg e, if_neg fun z => e (Sum.inl.inj z)]
theorem bck_put {P : List (List Int)} {e t p : Int} {kvs : List (Key × V)} (h : Bck P e t kvs) (ht : e < t) (hp : p ∈ P.getD t.toNat []) (hc : p = e ∨ (valV kvs (Sum.inl p)).isSome = true) : Bck P e t (putK kvs (Sum.inl t) (.int p)) := by
  have up : ∀ j : Int, (valV kvs (Sum.inl j)).isSome = true → (valV (putK kvs (Sum.inl t) (.int p)) (Sum.inl j)).isSome = true := fun j hj => by
    rw [valV_putI]
    split
    · rfl
    · exact hj
  refine ⟨fun k v hv => ?_, fun k h1 h2 ha => up k (h.cmp k h1 h2 ha)⟩
  rw [valV_putI] at hv
  split at hv
  · rename_i ek
    subst ek
    exact ⟨p, (Option.some.inj hv).symm, hp, ht, hc.imp id (up p)⟩
  · obtain ⟨q, a, b, c, d⟩ := h.snd k v hv
    exact ⟨q, a, b, c, d.imp id (up q)⟩
theorem road_anc {P : List (List Int)} {n j : Int} {r : List Int} (h : Road P n j r) : Anc P n j := by
  induction h with
  | one => exact .self
  | cons h m ih => exact .up ih m
theorem road_self {P : List (List Int)} {n : Int} {r : List Int} (hP : ∀ k i : Int, 0 ≤ k → k ≤ n → i ∈ P.getD k.toNat [] → 0 ≤ i ∧ i < k) (h0 : 0 ≤ n) (h : Road P n n r) : r = [n] := by
  generalize hj : n = j at h
  cases h with
  | one => rfl
  | cons h m =>
    exfalso
    subst hj
    have q := h.rng hP h0
    have := hP _ _ q.1.1 q.1.2 m
    omega

/-! ## the law's book -/
def vn (n : Nat) : Tx := l_7a38d8cb ++ dec (n : Int)
theorem vn_part (n : Nat) (h : n < 1000) : Part (vn n) := by
  have q := dec_size n 3 (by decide) (by omega)
  have d := dec_dig n
  have p := dec_pos n
  refine ⟨⟨?_, ?_⟩, fun c hc => ?_, fun z => ?_, fun z => ?_⟩
  · show 1 ≤ (l_7a38d8cb ++ dec (n : Int)).length
    rw [List.length_append]
    show 1 ≤ 1 + _
    omega
  · show (l_7a38d8cb ++ dec (n : Int)).length ≤ 12
    rw [List.length_append]
    show 1 + _ ≤ 12
    omega
  · rcases List.mem_append.mp hc with z | z
    · have e : c = 118 := List.mem_singleton.mp z
      rw [e]
      decide +kernel
    · have r := d c z
      have H : ∀ c < 58, 48 ≤ c → c ∈ lSigns := by decide +kernel
      exact H c (by omega) r.1
  · have e : (118 : Nat) = 46 := (List.cons.inj z).1
    cases e
  · have e : (118 : Nat) = 46 := (List.cons.inj z).1
    cases e
theorem vn_parts (n : Nat) (h : n < 1000) : Parts [vn n] := ⟨⟨by simp, by simp⟩, fun p hp => by rw [List.mem_singleton.mp hp]; exact vn_part n h⟩
theorem vn_pth (n : Nat) (h : n < 1000) : Pth (vn n) := ⟨[vn n], vn_parts n h, rfl⟩
theorem vn_cuts (n : Nat) (h : n < 1000) : cuts 47 (vn n) = [vn n] := (vn_parts n h).cuts
theorem vn_ben {m n : Nat} (h : n < 1000) (hm : m < 1000) : ¬ Ben (vn m) (vn n) := fun b => by
  have q := b.1
  rw [vn_cuts n h, vn_cuts m hm] at q
  exact absurd q (by show ¬ 1 < 1; decide)
theorem vn_inj {m n : Nat} (h : vn m = vn n) : m = n := dec_inj (List.append_cancel_left h)
theorem vn_size (n : Nat) (h : n < 1000) : (vn n).length ≤ 4 := by
  have q := dec_size n 3 (by decide) (by omega)
  show (l_7a38d8cb ++ dec (n : Int)).length ≤ 4
  rw [List.length_append]
  show 1 + _ ≤ 4
  omega
theorem dec_okV (n : Nat) (h : n < 10 ^ 10) : okV (dec (n : Int)) ∧ (dec (n : Int)).length ≤ 10 := by
  have q := dec_size n 10 (by decide) h
  exact ⟨⟨by omega, fun c hc => by have := dec_dig n c hc; omega⟩, q⟩
structure B9 (T : List (List (Tx × Tx))) (P : List (List Int)) : Prop where
  ok : OkB T P
  few : T.length ≤ 190
  good : ∀ i : Nat, i < T.length → Good (T.getD i [])
  nm : ∀ i : Nat, i < T.length → ∀ k ∈ dkeys (T.getD i []), ∃ m, 0 < m ∧ m < T.length ∧ k = vn m
  sub : ∀ i : Nat, i < T.length → ∀ j ∈ P.getD i [], ∀ k ∈ dkeys (T.getD j.toNat []), k ∈ dkeys (T.getD i [])
  con : ∀ i j : Nat, i < T.length → j < T.length → ∀ k a b, dget (T.getD i []) k = some a → dget (T.getD j []) k = some b → a = b
theorem sub_len {α : Type} [DecidableEq α] : ∀ {l m : List α}, l.Nodup → (∀ k ∈ l, k ∈ m) → l.length ≤ m.length
  | [], _, _, _ => Nat.zero_le _
  | x :: l, m, hn, h => by
    rw [List.nodup_cons] at hn
    have hx := h x List.mem_cons_self
    have h1 := sub_len (l := l) (m := m.erase x) hn.2 fun k hk => (List.mem_erase_of_ne fun z : k = x => hn.1 (z ▸ hk)).mpr (h k (List.mem_cons_of_mem _ hk))
    rw [List.length_erase_of_mem hx] at h1
    have h2 := List.length_pos_of_mem hx
    rw [List.length_cons]
    omega
theorem B9.len {T : List (List (Tx × Tx))} {P : List (List Int)} (h : B9 T P) {i : Nat} (hi : i < T.length) : (T.getD i []).length ≤ 190 := by
  have q := sub_len (h.good i hi).nd (m := (List.range T.length).map vn) fun k hk => by
    obtain ⟨m, _, hm, e⟩ := h.nm i hi k hk
    exact List.mem_map.mpr ⟨m, List.mem_range.mpr hm, e.symm⟩
  rw [List.length_map, List.length_range] at q
  have e := dkeys_len (T.getD i [])
  have := h.few
  omega
theorem B9.anc {T : List (List (Tx × Tx))} {P : List (List Int)} (h : B9 T P) {n a : Int} (h0 : 0 ≤ n) (hn : n < (T.length : Int)) (ha : Anc P n a) : ∀ k ∈ dkeys (T.getD a.toNat []), k ∈ dkeys (T.getD n.toNat []) := by
  induction ha with
  | self => exact fun _ h => h
  | up hk m ih =>
    have q := hk.rng h.ok h0 hn
    exact fun x hx => ih x (h.sub _ (by omega) _ m x hx)
theorem getD_app {α : Type} (l : List α) (x d : α) (i : Nat) : (l ++ [x]).getD i d = if i < l.length then l.getD i d else if i = l.length then x else d := by
  rw [List.getD_eq_getElem?_getD, List.getElem?_append]
  by_cases h : i < l.length
  · rw [if_pos h, if_pos h, List.getD_eq_getElem?_getD]
  · rw [if_neg h, if_neg h]
    by_cases e : i = l.length
    · rw [if_pos e, e, Nat.sub_self]
      rfl
    · rw [if_neg e, List.getElem?_eq_none (by rw [List.length_singleton]; omega)]
      rfl
theorem addOkB {T : List (List (Tx × Tx))} {P : List (List Int)} (h : OkB T P) (hl : T.length < 1900) (l : List (Tx × Tx)) {q : List Int} (h1 : q ≠ []) (h2 : q.length ≤ 2) (h3 : ∀ j ∈ q, 0 ≤ j ∧ j < (T.length : Int)) : OkB (T ++ [l]) (P ++ [q]) := by
  have e := h.len
  refine ⟨by rw [List.length_append, List.length_append, e]; rfl, by rw [List.length_append]; exact Nat.lt_of_lt_of_le h.pos (Nat.le_add_right _ _), by rw [List.length_append]; show T.length + 1 ≤ 2000; omega, fun i j hi hj => ?_, fun i => ?_, fun i h0 hi => ?_⟩
  · rw [getD_app] at hj
    split at hj
    · rename_i hlt
      exact h.lt i j hlt hj
    · split at hj
      · rename_i he
        have q := h3 j hj
        omega
      · cases hj
  · rw [getD_app]
    split
    · exact h.few i
    · split
      · exact h2
      · exact Nat.zero_le _
  · rw [getD_app]
    rw [List.length_append] at hi
    have hi2 : i < P.length + 1 := hi
    split
    · rename_i hlt
      exact h.ne i h0 hlt
    · rw [if_pos (by omega)]
      exact h1
/-- one deed of a row -/
theorem changed_one (t : List (Tx × Tx)) (d : List Tx) : m_changed t [d] = match m_done t d with
    | .ok l => .ok l
    | .exc k => .exc k := by
  unfold m_changed m_changed_v1
  have e : m_changed_step1 t d = (match m_done t d with
    | .ok l => Stp.go l
    | .exc k => Stp.ret (.exc k)) := by
    unfold m_changed_step1
    cases m_done t d <;> rfl
  cases h : m_done t d with
  | ok l =>
    rw [h] at e
    rw [runL_go e]
    rfl
  | exc k =>
    rw [h] at e
    rw [runL_ret e]
    rfl
theorem changed_nil (t : List (Tx × Tx)) : m_changed t [] = .ok t := rfl

theorem b9_start : B9 [[]] [[]] := by
  have z : ∀ i : Nat, i < ([[]] : List (List (Tx × Tx))).length → i = 0 := fun i hi => by
    have : i < 1 := hi
    omega
  refine ⟨⟨rfl, by decide, by decide, fun i j hi hj => ?_, fun i => ?_, fun i h0 hi => ?_⟩, by decide, fun i hi => ?_, fun i hi k hk => ?_, fun i hi j hj k hk => ?_, fun i j hi hj k a b ha hb => ?_⟩
  · rw [z i hi] at hj
    cases hj
  · cases i with
    | zero => exact Nat.zero_le _
    | succ i => exact Nat.zero_le _
  · have := z i hi
    omega
  · rw [z i hi]
    exact Good.nil
  · rw [z i hi] at hk
    cases hk
  · rw [z i hi] at hj
    cases hj
  · rw [z i hi] at ha
    cases ha
theorem B9.add {T : List (List (Tx × Tx))} {P : List (List Int)} (h : B9 T P) (hl : T.length < 190) {l : List (Tx × Tx)} (g : Good l) (nm : ∀ k ∈ dkeys l, ∃ m, 0 < m ∧ m < T.length + 1 ∧ k = vn m) {q : List Int} (h1 : q ≠ []) (h2 : q.length ≤ 2) (h3 : ∀ j ∈ q, 0 ≤ j ∧ j < (T.length : Int))
    (hs : ∀ j ∈ q, ∀ k ∈ dkeys (T.getD j.toNat []), k ∈ dkeys l) (hc : ∀ j : Nat, j < T.length → ∀ k a b, dget l k = some a → dget (T.getD j []) k = some b → a = b) : B9 (T ++ [l]) (P ++ [q]) := by
  have e := h.ok.len
  have len2 : (T ++ [l]).length = T.length + 1 := by rw [List.length_append]; rfl
  have at' : ∀ i : Nat, i < (T ++ [l]).length → (i < T.length ∧ (T ++ [l]).getD i [] = T.getD i []) ∨ (i = T.length ∧ (T ++ [l]).getD i [] = l) := fun i hi => by
    rw [getD_app]
    by_cases z : i < T.length
    · exact Or.inl ⟨z, if_pos z⟩
    · have z2 : i = T.length := by omega
      exact Or.inr ⟨z2, by rw [if_neg z, if_pos z2]⟩
  refine ⟨addOkB h.ok (by omega) l h1 h2 h3, by omega, fun i hi => ?_, fun i hi k hk => ?_, fun i hi j hj k hk => ?_, fun i j hi hj k a b ha hb => ?_⟩
  · rcases at' i hi with ⟨z, e1⟩ | ⟨z, e1⟩
    · rw [e1]; exact h.good i z
    · rw [e1]; exact g
  · rcases at' i hi with ⟨z, e1⟩ | ⟨z, e1⟩
    · rw [e1] at hk
      obtain ⟨m, a, b, c⟩ := h.nm i z k hk
      exact ⟨m, a, by omega, c⟩
    · rw [e1] at hk
      rw [len2]
      exact nm k hk
  · rcases at' i hi with ⟨z, e1⟩ | ⟨z, e1⟩
    · rw [getD_app, if_pos (by omega)] at hj
      have r := h.ok.lt i j (by omega) hj
      have lj : j.toNat < T.length := by omega
      rw [getD_app, if_pos lj] at hk
      rw [e1]
      exact h.sub i z j hj k hk
    · rw [getD_app, if_neg (by omega), if_pos (by omega)] at hj
      have r := h3 j hj
      have lj : j.toNat < T.length := by omega
      rw [getD_app, if_pos lj] at hk
      rw [e1]
      exact hs j hj k hk
  · rcases at' i hi with ⟨z, e1⟩ | ⟨z, e1⟩
    · rw [e1] at ha
      rcases at' j hj with ⟨z2, e2⟩ | ⟨z2, e2⟩
      · rw [e2] at hb; exact h.con i j z z2 k a b ha hb
      · rw [e2] at hb; exact (hc i z k b a hb ha).symm
    · rw [e1] at ha
      rcases at' j hj with ⟨z2, e2⟩ | ⟨z2, e2⟩
      · rw [e2] at hb; exact hc j z2 k a b ha hb
      · rw [e2] at hb
        rw [ha] at hb
        exact Option.some.inj hb
/-! ### growing -/
theorem key_of {l : List (Tx × Tx)} {k v : Tx} (h : dget l k = some v) : k ∈ dkeys l := (has_iff l k).mp (by unfold dhas; rw [h]; rfl)
structure Grown (T : List (List (Tx × Tx))) (P : List (List Int)) (n : Int) (ds : List (List Tx)) : Prop where
  go : goGrow T P n ds
  nx : T.length < 190 → B9 (mB_grow T P n ds).1 (mB_grow T P n ds).2
  par : (mB_grow T P n ds).2 = P ++ [[n]]
  len : (mB_grow T P n ds).1.length = T.length + 1
theorem grown_of {T : List (List (Tx × Tx))} {P : List (List Int)} (h : B9 T P) {n : Int} (hn : 0 ≤ n ∧ n < (T.length : Int)) {ds : List (List Tx)} {l : List (Tx × Tx)} (hr : okRow ds) (hd : ds.length ≤ 1) (hc : m_changed (T.getD n.toNat []) ds = .ok l) (hb : T.length < 190 → B9 (T ++ [l]) (P ++ [[n]])) : Grown T P n ds := by
  have e : mB_grow T P n ds = (T ++ [l], P ++ [[n]]) := by
    unfold mB_grow
    rw [hc]
    rfl
  have q := h.len (i := n.toNat) (by omega)
  refine ⟨⟨h.ok, hn, ⟨hr, h.good _ (by omega), by omega⟩, by rw [hc]; rfl⟩, fun hl => ?_, by rw [e], by rw [e]; exact List.length_append⟩
  rw [e]
  exact hb hl
theorem grow_none {T : List (List (Tx × Tx))} {P : List (List Int)} (h : B9 T P) {n : Int} (hn : 0 ≤ n ∧ n < (T.length : Int)) : Grown T P n [] :=
  grown_of h hn (fun d hm => (nomatch hm)) (Nat.zero_le _) rfl fun hl => h.add hl (h.good _ (by omega)) (fun k hk => by
    obtain ⟨m, a, b, c⟩ := h.nm _ (by omega) k hk
    exact ⟨m, a, by omega, c⟩) (fun z => nomatch z) (by show 1 ≤ 2; decide) (fun j hj => by rw [List.mem_singleton.mp hj]; exact hn) (fun j hj k hk => by rw [List.mem_singleton.mp hj] at hk; exact hk) (fun j hj k a b ha hb => h.con _ j (by omega) hj k a b ha hb)
theorem grow_put {T : List (List (Tx × Tx))} {P : List (List Int)} (h : B9 T P) {n : Int} (hn : 0 ≤ n ∧ n < (T.length : Int)) {v : Tx} (hv : okV v ∧ v.length ≤ 10) : Grown T P n [[lPut, vn T.length, v]] := by
  have hf := h.few
  have hp := vn_pth T.length (by omega)
  have hd : okD [lPut, vn T.length, v] := ⟨⟨Or.inl rfl, fun x hx => by
    rcases List.mem_cons.mp hx with e | hx
    · rw [e]; decide
    · rcases List.mem_cons.mp hx with e | hx
      · rw [e]; exact Nat.le_trans (vn_size T.length (by omega)) (by decide)
      · rw [List.mem_singleton.mp hx]; exact Nat.le_trans hv.2 (by decide)⟩, Or.inl hp, hv.1⟩
  have g := h.good n.toNat (by omega)
  have nm := h.nm n.toNat (by omega)
  have free : Free (dkeys (T.getD n.toNat [])) (vn T.length) := fun k hk => by
    obtain ⟨m, _, hm, e⟩ := nm k hk
    rw [e]
    exact ⟨vn_ben (by omega) (by omega), vn_ben (by omega) (by omega)⟩
  refine grown_of h hn (fun d hm => by rw [List.mem_singleton.mp hm]; exact hd) (Nat.le_refl _) (l := dput (T.getD n.toNat []) (vn T.length) v) ?_ fun hl => ?_
  · rw [changed_one, done_is _ _ g]
    unfold Due
    rw [if_pos (show Pth ([lPut, vn T.length, v].getD 1 []) from hp), if_neg (by show ¬ decide (lPut = lCut) = true; decide), if_pos (show Free (dkeys (T.getD n.toNat [])) ([lPut, vn T.length, v].getD 1 []) from free)]
    rfl
  · refine h.add hl (g.put hp hv.1) (fun k hk => ?_) (fun z => nomatch z) (by show 1 ≤ 2; decide) (fun j hj => by rw [List.mem_singleton.mp hj]; exact hn) (fun j hj k hk => ?_) (fun j hj k a b ha hb => ?_)
    · rcases mem_keys_put.mp hk with e | e
      · exact ⟨T.length, h.ok.pos, by omega, e⟩
      · obtain ⟨m, a, b, c⟩ := nm k e
        exact ⟨m, a, by omega, c⟩
    · rw [List.mem_singleton.mp hj] at hk
      exact mem_keys_put.mpr (Or.inr hk)
    · by_cases e : k = vn T.length
      · obtain ⟨m, _, hm, e2⟩ := h.nm j hj k (key_of hb)
        have := vn_inj (e.symm.trans e2)
        omega
      · rw [get_put, if_neg e] at ha
        exact h.con _ j (by omega) hj k a b ha hb
theorem new_at {α : Type} (l : List α) (x d : α) : (l ++ [x]).getD (l.length : Int).toNat d = x := by
  rw [Int.toNat_natCast, List.getD_eq_getElem?_getD, List.getElem?_append_right (Nat.le_refl _), Nat.sub_self]
  rfl
theorem near_new {T : List (List (Tx × Tx))} {P : List (List Int)} {l : List (Tx × Tx)} {q : List Int} (h : OkB T P) (h2 : OkB (T ++ [l]) (P ++ [q])) {n : Int} (hn : 0 ≤ n ∧ n < (T.length : Int)) (hq : n ∈ q) : mB_nearest (T ++ [l]) (P ++ [q]) (T.length : Int) n = n ∧ mB_nearest (T ++ [l]) (P ++ [q]) n (T.length : Int) = n := by
  have len2 : (T ++ [l]).length = T.length + 1 := by rw [List.length_append]; rfl
  have anc : Anc (P ++ [q]) (T.length : Int) n := .up .self (by rw [← h.len, new_at]; exact hq)
  have e := nearest_elder h2 (Int.natCast_nonneg _) (by omega) hn.1 (by omega) anc
  exact ⟨e, by rw [nearest_comm h2 hn.1 (by omega) (Int.natCast_nonneg _) (by omega)]; exact e⟩
def RdV (P : List (List Int)) (n e : Int) (H1 H2 : Hp) (v : V) : Prop := (v = .non ∧ ¬ Anc P n e) ∨ ∃ l p, v = .ref p ∧ Road P n e l ∧ H1 p = none ∧ H2 p = some (.lst (l.map V.int))
def EvRd (te : TE) (σ : L2.St) (H : Hp) (P : List (List Int)) (n e : Int) : Prop := ∀ H1, Ex H H1 → ∀ Q : VK, (∀ v H2, Ex H1 H2 → RdV P n e H1 H2 v → Q v H2) → te σ H1 Q

/-! ## what stands behind all that was asked -/
theorem lat_part : Part l_3f14ecc8 := by decide +kernel
theorem lat_parts : Parts [l_3f14ecc8] := ⟨⟨by simp, by simp⟩, fun p hp => by rw [List.mem_singleton.mp hp]; exact lat_part⟩
theorem lat_pth : Pth l_3f14ecc8 := ⟨[l_3f14ecc8], lat_parts, rfl⟩
theorem lat_cuts : cuts 47 l_3f14ecc8 = [l_3f14ecc8] := lat_parts.cuts
theorem lat_ben {n : Nat} (h : n < 1000) : ¬ Ben l_3f14ecc8 (vn n) ∧ ¬ Ben (vn n) l_3f14ecc8 := ⟨fun b => by
  have q := b.1
  rw [lat_cuts, vn_cuts n h] at q
  exact absurd q (by show ¬ 1 < 1; decide), fun b => by
  have q := b.1
  rw [lat_cuts, vn_cuts n h] at q
  exact absurd q (by show ¬ 1 < 1; decide)⟩
theorem lat_vn (n : Nat) : l_3f14ecc8 ≠ vn n := fun e => by
  have e1 : (108 : Nat) = 118 := (List.cons.inj e).1
  cases e1
theorem lat_none {T : List (List (Tx × Tx))} {P : List (List Int)} (h : B9 T P) {i : Nat} (hi : i < T.length) : dget (T.getD i []) l_3f14ecc8 = none := by
  cases hx : dget (T.getD i []) l_3f14ecc8 with
  | none => rfl
  | some v =>
    obtain ⟨m, _, _, e⟩ := h.nm i hi _ (key_of hx)
    exact (lat_vn m e).elim
theorem grow_lat {T : List (List (Tx × Tx))} {P : List (List Int)} (h : B9 T P) {n : Int} (hn : 0 ≤ n ∧ n < (T.length : Int)) : goGrow T P n [[lPut, l_3f14ecc8, lX]] ∧ mB_grow T P n [[lPut, l_3f14ecc8, lX]] = (T ++ [dput (T.getD n.toNat []) l_3f14ecc8 lX], P ++ [[n]]) := by
  have hf := h.few
  have hv : okV lX := by unfold okV; decide +kernel
  have hd : okD [lPut, l_3f14ecc8, lX] := ⟨⟨Or.inl rfl, by decide +kernel⟩, Or.inl lat_pth, hv⟩
  have g := h.good n.toNat (by omega)
  have nm := h.nm n.toNat (by omega)
  have len := h.len (i := n.toNat) (by omega)
  have free : Free (dkeys (T.getD n.toNat [])) l_3f14ecc8 := fun k hk => by
    obtain ⟨m, _, hm, e⟩ := nm k hk
    rw [e]
    have q := lat_ben (n := m) (by omega)
    exact ⟨by first | exact q.1 | exact q.2, by first | exact q.2 | exact q.1⟩
  have hc : m_changed (T.getD n.toNat []) [[lPut, l_3f14ecc8, lX]] = .ok (dput (T.getD n.toNat []) l_3f14ecc8 lX) := by
    rw [changed_one, done_is _ _ g]
    unfold Due
    rw [if_pos (show Pth ([lPut, l_3f14ecc8, lX].getD 1 []) from lat_pth), if_neg (by show ¬ decide (lPut = lCut) = true; decide), if_pos (show Free (dkeys (T.getD n.toNat [])) ([lPut, l_3f14ecc8, lX].getD 1 []) from free)]
    rfl
  refine ⟨⟨h.ok, hn, ⟨fun d hm => by rw [List.mem_singleton.mp hm]; exact hd, g, by show _ + 1 ≤ 1000; omega⟩, by rw [hc]; rfl⟩, ?_⟩
  unfold mB_grow
  rw [hc]
  rfl
theorem road_two {P : List (List Int)} {n N : Int} {l : List Int} (hP : OkP P) (h0 : 0 ≤ n) (hlt : n < N) (hN : N < (P.length : Int)) (hp : P.getD N.toNat [] = [n]) (h : Road P N n l) : l = [n, N] := by
  have low : ∀ k i : Int, 0 ≤ k → k ≤ N → i ∈ P.getD k.toNat [] → 0 ≤ i ∧ i < k := fun k i a b c => hP.lt k i a (by omega) c
  cases h with
  | one => omega
  | cons h m =>
    rename_i k r
    have a := road_anc h
    rcases anc_near a with e | ⟨p, hp1, ha⟩
    · subst e
      rw [road_self low (by omega) h]
    · rw [hp] at hp1
      have e := List.mem_singleton.mp hp1
      subst e
      have q := anc_le hP h0 (by omega) ha
      have r := low k p q.1 (by omega) m
      omega
structure Aft (T : List (List (Tx × Tx))) (T2 : List (List (Tx × Tx))) (P2 : List (List Int)) (n : Int) (t : List (Tx × Tx)) : Prop where
  ok : OkB T2 P2
  len : T2.length = T.length + 1
  tr : mB_tree T2 P2 (T.length : Int) = t
  par : mB_parents T2 P2 (T.length : Int) = [n]
  eld : mB_elders T2 P2 (T.length : Int) = mB_elders T2 P2 n ++ [(T.length : Int)]
  near : mB_nearest T2 P2 (T.length : Int) n = n
  anc : Anc P2 (T.length : Int) n
  nanc : ¬ Anc P2 n (T.length : Int)
  road : ∀ l, Road P2 (T.length : Int) n l → l = [n, (T.length : Int)]
  story : mB_story T2 P2 (T.length : Int) l_3f14ecc8 = [(T.length : Int)]
  go : goGrow T2 P2 (T.length : Int) []
theorem aft {T : List (List (Tx × Tx))} {P : List (List Int)} (h : B9 T P) {n : Int} (hn : 0 ≤ n ∧ n < (T.length : Int)) : Aft T (T ++ [dput (T.getD n.toNat []) l_3f14ecc8 lX]) (P ++ [[n]]) n (dput (T.getD n.toNat []) l_3f14ecc8 lX) := by
  have hf := h.few
  have hl := h.ok.len
  have hv : okV lX := by unfold okV; decide +kernel
  have g := h.good n.toNat (by omega)
  have tl := h.len (i := n.toNat) (by omega)
  have gt : Good (dput (T.getD n.toNat []) l_3f14ecc8 lX) := g.put lat_pth hv
  have pl := put_len (T.getD n.toNat []) l_3f14ecc8 lX
  have ok2 : OkB (T ++ [dput (T.getD n.toNat []) l_3f14ecc8 lX]) (P ++ [[n]]) := addOkB h.ok (by omega) _ (fun z => nomatch z) (by show 1 ≤ 2; decide) fun j hj => by rw [List.mem_singleton.mp hj]; exact hn
  have len2 : (T ++ [dput (T.getD n.toNat []) l_3f14ecc8 lX]).length = T.length + 1 := by rw [List.length_append]; rfl
  have tr : (T ++ [dput (T.getD n.toNat []) l_3f14ecc8 lX]).getD (T.length : Int).toNat [] = dput (T.getD n.toNat []) l_3f14ecc8 lX := new_at _ _ _
  have old : ∀ i : Nat, i < T.length → dget ((T ++ [dput (T.getD n.toNat []) l_3f14ecc8 lX]).getD i []) l_3f14ecc8 = none := fun i hi => by
    rw [getD_app, if_pos hi]
    exact lat_none h hi
  have par : (P ++ [[n]]).getD (T.length : Int).toNat [] = [n] := by rw [← hl]; exact new_at _ _ _
  have near := (near_new h.ok ok2 hn (q := [n]) List.mem_cons_self).1
  generalize hT2 : T ++ [dput (T.getD n.toNat []) l_3f14ecc8 lX] = T2 at ok2 len2 tr old near ⊢
  generalize hP2 : P ++ [[n]] = P2 at ok2 par near ⊢
  have hl2 := ok2.len
  have N0 : (0 : Int) ≤ (T.length : Int) := Int.natCast_nonneg _
  have N1 : (T.length : Int) < (T2.length : Int) := by omega
  have n1 : n < (T2.length : Int) := by omega
  have anc : Anc P2 (T.length : Int) n := .up .self (by rw [par]; exact List.mem_cons_self)
  have mem : ∀ k, Anc P2 (T.length : Int) k ↔ Anc P2 n k ∨ k = (T.length : Int) := fun k => ⟨fun a => by
    rcases anc_near a with e | ⟨p, hp, ha⟩
    · exact Or.inr e.symm
    · rw [par] at hp
      rw [List.mem_singleton.mp hp] at ha
      exact Or.inl ha, fun a => by
    rcases a with a | e
    · exact anc_one (by rw [par]; exact List.mem_cons_self) a
    · rw [e]; exact .self⟩
  have inn : ∀ k ∈ mB_elders T2 P2 n, 0 ≤ k ∧ k ≤ n := fun k hk => in_elders ok2 hn.1 n1 hk
  have eld : mB_elders T2 P2 (T.length : Int) = mB_elders T2 P2 n ++ [(T.length : Int)] := by
    have pw : (mB_elders T2 P2 n ++ [(T.length : Int)]).Pairwise (· ≤ ·) := List.pairwise_append.mpr ⟨pw_elders _ _ _, List.pairwise_singleton _ _, fun a ha b hb => by
      rw [List.mem_singleton.mp hb]
      have := inn a ha
      omega⟩
    have nd : (mB_elders T2 P2 n ++ [(T.length : Int)]).Nodup := List.nodup_append.mpr ⟨nd_elders ok2 hn.1 n1, List.pairwise_singleton _ _, fun a ha b hb e => by
      rw [List.mem_singleton.mp hb] at e
      have := inn a ha
      omega⟩
    have p : (mB_elders T2 P2 n ++ [(T.length : Int)]).Perm (mB_elders T2 P2 (T.length : Int)) := perm_mem nd (nd_elders ok2 N0 N1) fun k => by
      rw [List.mem_append, mem_elders ok2 hn.1 n1, mem_elders ok2 N0 N1, List.mem_singleton]
      exact (mem k).symm
    exact ((srtZ_uniq p pw).trans (srtZ_uniq (List.Perm.refl _) (pw_elders T2 P2 (T.length : Int))).symm).symm
  have hc : ∀ k : Int, 0 ≤ k → k < (T.length : Int) → mB_has_changed T2 P2 k l_3f14ecc8 = false := fun k k0 k1 => by
    have e2 : mB_has_changed_v2 T2 P2 k l_3f14ecc8 = none := old k.toNat (by omega)
    unfold mB_has_changed mB_has_changed_v1
    rw [e2]
    cases hq : P2.getD k.toNat [] with
    | nil => rfl
    | cons j r =>
      have oj := ok2.at k0 (by omega) (j := j) (by rw [hq]; exact List.mem_cons_self)
      rw [List.map_cons, List.all_cons, old j.toNat (by omega)]
      exact Bool.and_false _
  have hN : mB_has_changed T2 P2 (T.length : Int) l_3f14ecc8 = true := by
    have e2 : mB_has_changed_v2 T2 P2 (T.length : Int) l_3f14ecc8 = some lX := by
      show dget (T2.getD (T.length : Int).toNat []) l_3f14ecc8 = some lX
      rw [tr, get_put, if_pos rfl]
    unfold mB_has_changed mB_has_changed_v1
    rw [e2, par, List.map_cons, List.all_cons, old n.toNat (by omega)]
    rfl
  refine ⟨ok2, len2, tr, par, eld, near, anc, fun a => ?_, fun l hr => ?_, ?_, ⟨ok2, ⟨N0, N1⟩, ⟨fun d hm => (nomatch hm), ?_, ?_⟩, rfl⟩⟩
  · have q := a.rng ok2 hn.1 n1
    omega
  · exact road_two (okp ok2) hn.1 hn.2 (by omega) par hr
  · unfold mB_story
    rw [eld, List.filter_append, List.filter_eq_nil_iff.mpr (fun k hk => by
      have q := inn k hk
      rw [hc k q.1 (by omega)]
      decide), List.filter_cons, if_pos hN]
    rfl
  · rw [tr]; exact gt
  · rw [tr]; show _ + 0 ≤ 1000; omega
theorem rd_list {te : TE} {σ : L2.St} {H : Hp} {P : List (List Int)} {n e : Int} {L : List Int} (h : EvRd te σ H P n e) (a : Anc P n e) (hl : ∀ l, Road P n e l → l = L) : EvL te σ H (L.map V.int) := fun H1 e1 Q q => h H1 e1 _ fun v H2 e2 r => by
  rcases r with ⟨_, z⟩ | ⟨l, p, rfl, ro, np, hp⟩
  · exact absurd a z
  · rw [hl l ro] at hp
    exact q p H2 np e2 hp
theorem rd_none {te : TE} {σ : L2.St} {H : Hp} {P : List (List Int)} {n e : Int} (h : EvRd te σ H P n e) (a : ¬ Anc P n e) : Ev te σ H .non := fun H1 e1 Q q => h H1 e1 _ fun v H2 e2 r => by
  rcases r with ⟨rfl, _⟩ | ⟨l, p, rfl, ro, np, hp⟩
  · exact q H2 e2
  · exact absurd (road_anc ro) a

/-! ## the book beside -/
theorem er_ld {K : PySem.W.Frag} {H H3 : Hp} {C b bt bp ct : Addr} {T T2 : List (List (Tx × Tx))} {Pl : List (List Int)} (eB : Ex (ers H bt bp) H3) (hb : BkR K C H b bt bp T Pl) (h : IsLD H ct T2) (h1 : ct ≠ bt) (h2 : ct ≠ bp) : IsLD H3 ct T2 := by
  obtain ⟨ts, hc, hf⟩ := h
  obtain ⟨x, hx⟩ := ld_lst hb.2.1
  obtain ⟨y, hy⟩ := lu_lst hb.2.2
  refine ⟨ts, er_at eB hc h1 h2, Paired.mapP hf fun a l z => ?_⟩
  obtain ⟨o, z⟩ := z
  exact ⟨o, er_at eB z (fun e => by rw [e, hx] at z; cases z) (fun e => by rw [e, hy] at z; cases z)⟩
theorem bes_parts : Parts [l_d1c88699] := ⟨⟨by simp, by simp⟩, fun p hp => by rw [List.mem_singleton.mp hp]; decide +kernel⟩
theorem bes_pth : Pth l_d1c88699 := ⟨[l_d1c88699], bes_parts, rfl⟩
theorem bes_go : goGrow [[]] [[]] 0 [[lPut, l_d1c88699, l_e9d71f5e]] ∧ mB_grow [[]] [[]] 0 [[lPut, l_d1c88699, l_e9d71f5e]] = ([[], [(l_d1c88699, l_e9d71f5e)]], [[], [0]]) := by
  have hv : okV l_e9d71f5e := by unfold okV; decide +kernel
  have hd : okD [lPut, l_d1c88699, l_e9d71f5e] := ⟨⟨Or.inl rfl, by decide +kernel⟩, Or.inl bes_pth, hv⟩
  have g : Good ([] : List (Tx × Tx)) := Good.nil
  have free : Free (dkeys ([] : List (Tx × Tx))) l_d1c88699 := fun k hk => nomatch hk
  have hc : m_changed [] [[lPut, l_d1c88699, l_e9d71f5e]] = .ok [(l_d1c88699, l_e9d71f5e)] := by
    rw [changed_one, done_is _ _ g]
    unfold Due
    rw [if_pos (show Pth ([lPut, l_d1c88699, l_e9d71f5e].getD 1 []) from bes_pth), if_neg (by show ¬ decide (lPut = lCut) = true; decide), if_pos (show Free (dkeys ([] : List (Tx × Tx))) ([lPut, l_d1c88699, l_e9d71f5e].getD 1 []) from free)]
    rfl
  have hc2 : m_changed (([[]] : List (List (Tx × Tx))).getD (0 : Int).toNat []) [[lPut, l_d1c88699, l_e9d71f5e]] = .ok [(l_d1c88699, l_e9d71f5e)] := hc
  refine ⟨⟨b9_start.ok, by decide, ⟨fun d hm => by rw [List.mem_singleton.mp hm]; exact hd, g, by decide⟩, by rw [hc2]; rfl⟩, ?_⟩
  unfold mB_grow
  rw [hc2]
  rfl
theorem nv_okV : okV lNil ∧ lNil.length ≤ 10 := by unfold okV; decide +kernel

end K10


namespace K10
open PySem PySem.Spec PyProof.Rows L2 TL Evl Vf
/-! ## the text -/
def topS (i : Nat) : Stmt := PySem.Challenge.pw_threeroad_k10_no_version.main.body.getD i (.Pass ⟨0, 0, 0, 0⟩)
abbrev s_is_part : Stmt := topS 13
theorem sc_is_part : FnScope ["text", "sign"] ["text"] (defScope s_is_part) := ⟨rfl, rfl, rfl, by decide +kernel, rfl, by decide +kernel, by decide +kernel⟩
abbrev s_is_path : Stmt := topS 14
theorem sc_is_path : FnScope ["text", "parts", "part"] ["text"] (defScope s_is_path) := ⟨rfl, rfl, rfl, by decide +kernel, rfl, by decide +kernel, by decide +kernel⟩
abbrev s_above : Stmt := topS 15
theorem sc_above : FnScope ["path", "parts", "many"] ["path"] (defScope s_above) := ⟨rfl, rfl, rfl, by decide +kernel, rfl, by decide +kernel, by decide +kernel⟩
abbrev s_is_beneath : Stmt := topS 16
theorem sc_is_beneath : FnScope ["path", "upper"] ["path", "upper"] (defScope s_is_beneath) := ⟨rfl, rfl, rfl, by decide +kernel, rfl, by decide +kernel, by decide +kernel⟩
abbrev s_overlaps : Stmt := topS 18
theorem sc_overlaps : FnScope ["files", "path", "upper"] ["files"] (defScope s_overlaps) := ⟨rfl, rfl, rfl, by decide +kernel, rfl, by decide +kernel, by decide +kernel⟩
abbrev s_is_blocked : Stmt := topS 19
theorem sc_is_blocked : FnScope ["tree", "path", "name", "upper"] ["tree", "path"] (defScope s_is_blocked) := ⟨rfl, rfl, rfl, by decide +kernel, rfl, by decide +kernel, by decide +kernel⟩
abbrev s_done : Stmt := topS 20
theorem sc_done : FnScope ["tree", "deed", "path", "files"] ["tree", "deed"] (defScope s_done) := ⟨rfl, rfl, rfl, by decide +kernel, rfl, by decide +kernel, by decide +kernel⟩
abbrev s_changed : Stmt := topS 21
theorem sc_changed : FnScope ["tree", "deeds", "files", "deed"] ["tree", "deeds"] (defScope s_changed) := ⟨rfl, rfl, rfl, by decide +kernel, rfl, by decide +kernel, by decide +kernel⟩
abbrev s_mark_of : Stmt := topS 23
theorem sc_mark_of : FnScope ["before", "left", "right"] ["before", "left", "right"] (defScope s_mark_of) := ⟨rfl, rfl, rfl, by decide +kernel, rfl, by decide +kernel, by decide +kernel⟩
abbrev s_marks : Stmt := topS 24
theorem sc_marks : FnScope ["elder", "one", "other", "found", "path", "word"] ["elder", "one", "other"] (defScope s_marks) := ⟨rfl, rfl, rfl, by decide +kernel, rfl, by decide +kernel, by decide +kernel⟩
abbrev s_single_clashes : Stmt := topS 25
theorem sc_single_clashes : FnScope ["elder", "one", "other", "path", "word"] ["elder", "one", "other"] (defScope s_single_clashes) := ⟨rfl, rfl, rfl, by decide +kernel, rfl, by decide +kernel, by decide +kernel⟩
abbrev s_settle : Stmt := topS 26
theorem sc_settle : FnScope ["files", "path", "text"] ["files", "path", "text"] (defScope s_settle) := ⟨rfl, rfl, rfl, by decide +kernel, rfl, by decide +kernel, by decide +kernel⟩
abbrev s_agreed : Stmt := topS 27
theorem sc_agreed : FnScope ["elder", "one", "other", "files", "path", "word"] ["elder", "one", "other"] (defScope s_agreed) := ⟨rfl, rfl, rfl, by decide +kernel, rfl, by decide +kernel, by decide +kernel⟩
abbrev s_clashes : Stmt := topS 28
theorem sc_clashes : FnScope ["elder", "one", "other", "singles", "path"] ["elder", "one", "other"] (defScope s_clashes) := ⟨rfl, rfl, rfl, by decide +kernel, rfl, by decide +kernel, by decide +kernel⟩
abbrev s_joined : Stmt := topS 29
theorem sc_joined : FnScope ["elder", "one", "other", "picks", "clashing", "path", "files", "text", "clash"] ["elder", "one", "other", "picks"] (defScope s_joined) := ⟨rfl, rfl, rfl, by decide +kernel, rfl, by decide +kernel, by decide +kernel⟩
abbrev sB_init : Stmt := inClass (topS 31) 0
theorem scB_init : FnScope ["self"] ["self"] (defScope sB_init) := ⟨rfl, rfl, rfl, by decide +kernel, rfl, by decide +kernel, by decide +kernel⟩
abbrev sB_check : Stmt := inClass (topS 31) 1
theorem scB_check : FnScope ["self", "number"] ["self", "number"] (defScope sB_check) := ⟨rfl, rfl, rfl, by decide +kernel, rfl, by decide +kernel, by decide +kernel⟩
abbrev sB_keep : Stmt := inClass (topS 31) 2
theorem scB_keep : FnScope ["self", "parents", "files"] ["self", "parents", "files"] (defScope sB_keep) := ⟨rfl, rfl, rfl, by decide +kernel, rfl, by decide +kernel, by decide +kernel⟩
abbrev sB_has_changed : Stmt := inClass (topS 31) 3
theorem scB_has_changed : FnScope ["self", "number", "path", "parents", "text", "parent"] ["self", "number", "path"] (defScope sB_has_changed) := ⟨rfl, rfl, rfl, by decide +kernel, rfl, by decide +kernel, by decide +kernel⟩
abbrev sB_many : Stmt := inClass (topS 31) 4
theorem scB_many : FnScope ["self"] ["self"] (defScope sB_many) := ⟨rfl, rfl, rfl, by decide +kernel, rfl, by decide +kernel, by decide +kernel⟩
abbrev sB_tree : Stmt := inClass (topS 31) 5
theorem scB_tree : FnScope ["self", "number"] ["self", "number"] (defScope sB_tree) := ⟨rfl, rfl, rfl, by decide +kernel, rfl, by decide +kernel, by decide +kernel⟩
abbrev sB_parents : Stmt := inClass (topS 31) 6
theorem scB_parents : FnScope ["self", "number"] ["self", "number"] (defScope sB_parents) := ⟨rfl, rfl, rfl, by decide +kernel, rfl, by decide +kernel, by decide +kernel⟩
abbrev sB_elders : Stmt := inClass (topS 31) 9
theorem scB_elders : FnScope ["self", "number", "found", "at", "parent"] ["self", "number"] (defScope sB_elders) := ⟨rfl, rfl, rfl, by decide +kernel, rfl, by decide +kernel, by decide +kernel⟩
abbrev sB_nearest : Stmt := inClass (topS 31) 10
theorem scB_nearest : FnScope ["self", "one", "other"] ["self", "one", "other"] (defScope sB_nearest) := ⟨rfl, rfl, rfl, by decide +kernel, rfl, by decide +kernel, by decide +kernel⟩
abbrev sB_road : Stmt := inClass (topS 31) 11
theorem scB_road : FnScope ["self", "elder", "number", "back", "at", "road", "parent"] ["self", "elder", "number"] (defScope sB_road) := ⟨rfl, rfl, rfl, by decide +kernel, rfl, by decide +kernel, by decide +kernel⟩
abbrev sB_story : Stmt := inClass (topS 31) 12
theorem scB_story : FnScope ["self", "number", "path", "at"] ["self", "number", "path"] (defScope sB_story) := ⟨rfl, rfl, rfl, by decide +kernel, rfl, by decide +kernel, by decide +kernel⟩
abbrev sB_grow : Stmt := inClass (topS 31) 7
theorem scB_grow : FnScope ["self", "parent", "deeds"] ["self", "parent", "deeds"] (defScope sB_grow) := ⟨rfl, rfl, rfl, by decide +kernel, rfl, by decide +kernel, by decide +kernel⟩
abbrev sB_check_x : Stmt := inClass (topS 31) 1
theorem scB_check_x : FnScope ["self", "number"] ["self", "number"] (defScope sB_check_x) := ⟨rfl, rfl, rfl, by decide +kernel, rfl, by decide +kernel, by decide +kernel⟩
abbrev sB_tree_x : Stmt := inClass (topS 31) 5
theorem scB_tree_x : FnScope ["self", "number"] ["self", "number"] (defScope sB_tree_x) := ⟨rfl, rfl, rfl, by decide +kernel, rfl, by decide +kernel, by decide +kernel⟩
abbrev sB_parents_x : Stmt := inClass (topS 31) 6
theorem scB_parents_x : FnScope ["self", "number"] ["self", "number"] (defScope sB_parents_x) := ⟨rfl, rfl, rfl, by decide +kernel, rfl, by decide +kernel, by decide +kernel⟩
abbrev sB_elders_x : Stmt := inClass (topS 31) 9
theorem scB_elders_x : FnScope ["self", "number", "found", "at", "parent"] ["self", "number"] (defScope sB_elders_x) := ⟨rfl, rfl, rfl, by decide +kernel, rfl, by decide +kernel, by decide +kernel⟩
abbrev sB_grow_x : Stmt := inClass (topS 31) 7
theorem scB_grow_x : FnScope ["self", "parent", "deeds"] ["self", "parent", "deeds"] (defScope sB_grow_x) := ⟨rfl, rfl, rfl, by decide +kernel, rfl, by decide +kernel, by decide +kernel⟩
abbrev sB_merge_x : Stmt := inClass (topS 31) 8
theorem scB_merge_x : FnScope ["self", "one", "other", "picks", "elder", "files"] ["self", "one", "other", "picks"] (defScope sB_merge_x) := ⟨rfl, rfl, rfl, by decide +kernel, rfl, by decide +kernel, by decide +kernel⟩
abbrev sB_road_x : Stmt := inClass (topS 31) 11
theorem scB_road_x : FnScope ["self", "elder", "number", "back", "at", "road", "parent"] ["self", "elder", "number"] (defScope sB_road_x) := ⟨rfl, rfl, rfl, by decide +kernel, rfl, by decide +kernel, by decide +kernel⟩
abbrev sB_nearest_x : Stmt := inClass (topS 31) 10
theorem scB_nearest_x : FnScope ["self", "one", "other"] ["self", "one", "other"] (defScope sB_nearest_x) := ⟨rfl, rfl, rfl, by decide +kernel, rfl, by decide +kernel, by decide +kernel⟩
abbrev sB_story_x : Stmt := inClass (topS 31) 12
theorem scB_story_x : FnScope ["self", "number", "path", "at"] ["self", "number", "path"] (defScope sB_story_x) := ⟨rfl, rfl, rfl, by decide +kernel, rfl, by decide +kernel, by decide +kernel⟩
abbrev s_law_cell_at : Stmt := topS 33
theorem sc_law_cell_at : FnScope ["_law_script", "_law_k"] ["_law_script", "_law_k"] (defScope s_law_cell_at) := ⟨rfl, rfl, rfl, by decide +kernel, rfl, by decide +kernel, by decide +kernel⟩
abbrev s_law_asked : Stmt := topS 34
theorem sc_law_asked : FnScope ["_law_book", "_law_way", "_law_wrong", "_law_good"] ["_law_book", "_law_way", "_law_wrong", "_law_good"] (defScope s_law_asked) := ⟨rfl, rfl, rfl, by decide +kernel, rfl, by decide +kernel, by decide +kernel⟩
abbrev s_law_told : Stmt := topS 35
theorem sc_law_told : FnScope ["_law_book", "_law_way", "_law_wrong", "_law_good", "_law_some", "e", "_law_fits", "_law_word"] ["_law_book", "_law_way", "_law_wrong", "_law_good"] (defScope s_law_told) := ⟨rfl, rfl, rfl, by decide +kernel, rfl, by decide +kernel, by decide +kernel⟩
abbrev s_law_there_then : Stmt := topS 36
theorem sc_law_there_then : FnScope ["_law_book", "_law_many", "_law_good", "_law_tree"] ["_law_book", "_law_many", "_law_good"] (defScope s_law_there_then) := ⟨rfl, rfl, rfl, by decide +kernel, rfl, by decide +kernel, by decide +kernel⟩
abbrev s_law : Stmt := topS 37
theorem sc_law : FnScope ["_law_script", "_law_book", "_law_beside", "_law_many", "_law_k", "_law_cell", "_law_good", "_law_far", "_law_wrong", "_law_way", "_law_word"] ["_law_script"] (defScope s_law) := ⟨rfl, rfl, rfl, by decide +kernel, rfl, by decide +kernel, by decide +kernel⟩
/-- what the top leaves of names that are not defs -/
structure Bt (mg : Str → Option Value) : Prop where
  z_ValueError : mg "ValueError" = none
  z_all : mg "all" = none
  z_any : mg "any" = none
  z_bool : mg "bool" = none
  z_dict : mg "dict" = none
  z_int : mg "int" = none
  z_isinstance : mg "isinstance" = none
  z_len : mg "len" = none
  z_range : mg "range" = none
  z_reversed : mg "reversed" = none
  z_set : mg "set" = none
  z_sorted : mg "sorted" = none
  z_str : mg "str" = none
  g_MOST_PARTS : ∃ t, mg "MOST_PARTS" = some (.int 8 t)
  g_MOST_SIGNS : ∃ t, mg "MOST_SIGNS" = some (.int 12 t)
  g_SIGNS : ∃ t, mg "SIGNS" = some (.str (Str.ofString "abcdefghijklmnopqrstuvwxyzABCDEFGHIJKLMNOPQRSTUVWXYZ0123456789.-_") t)
structure EG (mg : Str → Option Value) (Cs : Nat → Addr) : Prop where
  g0 : mg "RoadError" = some (.ref (Cs 0))
  g1 : mg "NoPath" = some (.ref (Cs 1))
  g2 : mg "NoFile" = some (.ref (Cs 2))
  g3 : mg "InTheWay" = some (.ref (Cs 3))
  g4 : mg "NoClash" = some (.ref (Cs 4))
  g5 : mg "Clashed" = some (.ref (Cs 5))
  g6 : mg "NoVersion" = some (.ref (Cs 6))
  g7 : mg "SameVersion" = some (.ref (Cs 7))
section
variable {P : Program} {w : World} {K : PySem.W.Frag} {mg : Str → Option Value} {base : Heap}
local macro_rules | `(tactic| walk_at "vside") => `(tactic| first | omega | assumption | exact of_notF (by assumption) | (simp only [List.length_cons, List.length_nil, List.length_map, List.length_range, List.length_append, List.length_set, decide_eq_true_eq, Bool.and_eq_true, Bool.or_eq_true, Bool.not_eq_true', Bool.not_eq_false', Bool.or_eq_false_iff, decide_eq_false_iff_not] at *; omega))
def sp_is_part (K : PySem.W.Frag) : Sp := spP fun ws H v => ∃ (ptext : Tx), ws = [vs ptext] ∧ (ptext.length ≤ 30000) ∧ v = V.bl (m_is_part ptext)
theorem ok_is_part {f : Addr} {fd : FuncData} (F : Fun K "is_part" "is_part" s_is_part f fd) (z : Bt mg)  : FnOk P w K mg base CX0 1 f fd ["text"] (sp_is_part K) := by
  refine F.ok (k := 0) sc_is_part (fun ws H Q E h => ?_) (fun cdv A outer s H ws Q E hr h => ?_)
  · obtain ⟨_, ⟨_, rfl, _⟩, _⟩ := h
    rfl
  · obtain ⟨_, ⟨ptext, rfl, hpre, rfl⟩, k0⟩ := h
    obtain ⟨tk_MOST_PARTS, z_g_MOST_PARTS⟩ := z.g_MOST_PARTS
    obtain ⟨tk_MOST_SIGNS, z_g_MOST_SIGNS⟩ := z.g_MOST_SIGNS
    obtain ⟨tk_SIGNS, z_g_SIGNS⟩ := z.g_SIGNS
    have L_lDot := len_lDot
    have L_lDots := len_lDots
    have L_lSigns := len_lSigns
    refine ⟨_, (pss_cons (ps_if (pt_cmpR (op_inK K) (pv 0) (pe_tup (pa_cons pe_str (pa_cons pe_str pa_nil))) (by rfl)) (pss_one (ps_ret pe_bl)) pss_nil)
      (pss_one (ps_ret (pe_and (pe_chain op_le op_le pe_int (pe_callB call_lenT (by rfl) z.z_len PySem.boot_len (pa_cons (pv 0) pa_nil)) (pe_glob (v := .int 12) (by rfl) z_g_MOST_SIGNS ⟨_, rfl⟩)) (pe_one (pe_callB (cr_allK K rfl) (by rfl) z.z_all (by decide +kernel) (pa_cons (pe_lc (own := [("sign", 1)]) (g := gName 1) (tt := tYes) rfl sc_is_part.nd (pi_str (pv 0)) (blkOk_by (own := [("sign", 1)]) (N := ["text", "sign"]) (sc := defScope s_is_part) (by decide +kernel)) (fun _ _ _ _ _ => pg_name (i := 1) sc_is_part.nd rfl (Or.inl rfl)) (fun _ _ _ _ _ => pts_nil) (fun _ _ _ _ _ => (pe_cmpR op_inT (pv 1) (pe_glob (v := .str (Str.ofString "abcdefghijklmnopqrstuvwxyzABCDEFGHIJKLMNOPQRSTUVWXYZ0123456789.-_")) (by rfl) z_g_SIGNS ⟨_, rfl⟩) (by rfl)))) pa_nil))))))), ?_⟩
    refine q_when (b := (decide (ptext ∈ [lDot, lDots]))) (et_test (e_inU (l := [lDot, lDots]) (ev_var rfl) (eu_tup (ea_cons (ev_is (w := vs lDot) e_lit rfl) (ea_cons (ev_is (w := vs lDots) e_lit rfl) ea_nil)) (by simp)))) (fun hb1 H1 e1a => ?_) (fun hb1 H1 e1a => ?_)
    · have e1 := Ex.trans (Ex.refl H) e1a
      have r1 := rx_of e1
      have k1a := ret_T k0 hb1
      exact s_ret ev_c fun H2 e2a => (RetV.go k1a (Ex.trans e1 e2a))
    · have e1 := Ex.trans (Ex.refl H) e1a
      have r1 := rx_of e1
      have k2b := ret_F k0 hb1
      exact s_ret (ev_andV (e_chain ev_c (e_lenT (ev_var rfl) (by walk_at "vside")) ev_c (fun _ _ => rv_I0) (fun _ _ => rv_I0)) (fun hc => (e_all (l := (ptext.map (fun k0 : Nat => (decide (k0 ∈ lSigns))))) (l_mapS (f2 := V.bl) (fun k0 : Nat => (decide (k0 ∈ lSigns))) (ev_var rfl) (by walk_at "vside") (fun k0 hm => (e_inT (ev_var rfl) (ev_is (w := vs lSigns) e_lit rfl))))))) fun H3 e3a => (RetV.go k2b (Ex.trans e1 e3a))
def sp_is_path (K : PySem.W.Frag) : Sp := spP fun ws H v => ∃ (ptext : Tx), ws = [vs ptext] ∧ (ptext.length ≤ 900) ∧ v = V.bl (m_is_path ptext)
theorem ok_is_path {f : Addr} {fd : FuncData} (F : Fun K "is_path" "is_path" s_is_path f fd) (z : Bt mg) (C_is_part : Cal P w K mg base 1 "is_part" ["text"] (sp_is_part K)) : FnOk P w K mg base CX0 2 f fd ["text"] (sp_is_path K) := by
  refine F.ok (k := 1) sc_is_path (fun ws H Q E h => ?_) (fun cdv A outer s H ws Q E hr h => ?_)
  · obtain ⟨_, ⟨_, rfl, _⟩, _⟩ := h
    rfl
  · obtain ⟨_, ⟨ptext, rfl, hpre, rfl⟩, k0⟩ := h
    obtain ⟨tk_MOST_PARTS, z_g_MOST_PARTS⟩ := z.g_MOST_PARTS
    obtain ⟨tk_MOST_SIGNS, z_g_MOST_SIGNS⟩ := z.g_MOST_SIGNS
    obtain ⟨tk_SIGNS, z_g_SIGNS⟩ := z.g_SIGNS
    have L_lSl := len_lSl
    have hc1 := cuts_len 47 ptext
    refine ⟨_, (pss_cons (ps_set (i := 1) sc_is_path.nd rfl (Or.inl rfl) (pe_splitT (pv 0) pe_str))
      (pss_one (ps_ret (pe_and (pe_cmpR op_le (pe_callB (call_lenK K) (by rfl) z.z_len PySem.boot_len (pa_cons (pv 1) pa_nil)) (pe_glob (v := .int 8) (by rfl) z_g_MOST_PARTS ⟨_, rfl⟩) (nomark _)) (pe_one (pe_callB (cr_allK K rfl) (by rfl) z.z_all (by decide +kernel) (pa_cons (pe_lc (own := [("part", 2)]) (g := gName 2) (tt := tYes) rfl sc_is_path.nd (pi_listK K (pv 1)) (blkOk_by (own := [("part", 2)]) (N := ["text", "parts", "part"]) (sc := defScope s_is_path) (by decide +kernel)) (fun _ _ _ _ _ => pg_name (i := 2) sc_is_path.nd rfl (Or.inl rfl)) (fun _ _ _ _ _ => pts_nil) (fun _ _ _ _ _ => (pe_cal C_is_part (hr.mono (by decide)) (by rfl) (pa_cons (pv 2) pa_nil)))) pa_nil))))))), ?_⟩
    refine q_asgL (xs := List.map vs (m_is_path_v1 ptext)) (el_is (l_split (c := 47) (ev_var rfl) (ev_is (w := vs [47]) (ev_is (w := vs lSl) e_lit rfl) (by first | rfl | decide)) (by decide) (by walk_at "vside")) rfl) fun p1_arts H1 n1a e1a h1_arts => ?_
    have n1 := fresh_back (Ex.refl H) n1a
    have e1 := Ex.trans (Ex.refl H) e1a
    have r1 := rx_of e1
    have fm_is_path_v1 : List.length (m_is_path_v1 ptext) = List.length ((cuts 47 ptext)) := rfl
    exact s_ret (ev_andV (e_le (e_lenL (f := vs) (l := (m_is_path_v1 ptext)) (ev_var rfl) (sq_of h1_arts)) ev_c) (fun hc => (e_all (l := ((m_is_path_v1 ptext).map (fun k0 : Tx => (m_is_part k0)))) (l_mapL (f := vs) (f2 := V.bl) [] (fun k0 : Tx => (m_is_part k0)) (ev_var rfl) (sq_of h1_arts) (by walk_at "vside") (fun k0 hm => have := cuts_mem 47 hm; (ev_call (ea_cons (ev_var rfl) ea_nil) (sv_of fun HC eC => ⟨_, rfl, (by walk_at "vside"), rfl⟩))))))) fun H2 e2a => (RetV.go k0 (Ex.trans e1 e2a))
def sp_above (K : PySem.W.Frag) : Sp := spN fun ws H v => ∃ (ppath : Tx), ws = [vs ppath] ∧ (ppath.length ≤ 900) ∧ v = List.map vs (m_above ppath)
theorem ok_above {f : Addr} {fd : FuncData} (F : Fun K "above" "above" s_above f fd) (z : Bt mg)  : FnOk P w K mg base CX0 1 f fd ["path"] (sp_above K) := by
  refine F.ok (k := 0) sc_above (fun ws H Q E h => ?_) (fun cdv A outer s H ws Q E hr h => ?_)
  · obtain ⟨_, ⟨_, rfl, _⟩, _⟩ := h
    rfl
  · obtain ⟨_, ⟨ppath, rfl, hpre, rfl⟩, k0⟩ := h
    obtain ⟨tk_MOST_PARTS, z_g_MOST_PARTS⟩ := z.g_MOST_PARTS
    obtain ⟨tk_MOST_SIGNS, z_g_MOST_SIGNS⟩ := z.g_MOST_SIGNS
    obtain ⟨tk_SIGNS, z_g_SIGNS⟩ := z.g_SIGNS
    have L_lSl := len_lSl
    have hc1 := cuts_len 47 ppath
    refine ⟨_, (pss_cons (ps_set (i := 1) sc_above.nd rfl (Or.inr rfl) (pe_splitT (pv 0) pe_str))
      (pss_one (ps_ret (pe_lc (own := [("many", 2)]) (g := gName 2) (tt := tYes) rfl sc_above.nd (pi_range2 (by rfl) z.z_range (pa_cons pe_int (pa_cons (pe_callB (call_lenK K) (by rfl) z.z_len PySem.boot_len (pa_cons (pv 1) pa_nil)) pa_nil))) (blkOk_by (own := [("many", 2)]) (N := ["path", "parts", "many"]) (sc := defScope s_above) (by decide +kernel)) (fun _ _ _ _ _ => pg_name (i := 2) sc_above.nd rfl (Or.inl rfl)) (fun _ _ _ _ _ => pts_nil) (fun _ _ _ _ _ => (pe_joinK K pe_str (pe_slice (sl_listK K) (pv 1) po_none (po_some (pv 2))))))))), ?_⟩
    refine q_asgL (xs := List.map vs (m_above_v1 ppath)) (el_is (l_split (c := 47) (ev_var rfl) (ev_is (w := vs [47]) (ev_is (w := vs lSl) e_lit rfl) (by first | rfl | decide)) (by decide) (by walk_at "vside")) rfl) fun p1_arts H1 n1a e1a h1_arts => ?_
    have n1 := fresh_back (Ex.refl H) n1a
    have e1 := Ex.trans (Ex.refl H) e1a
    have r1 := rx_of e1
    have fm_above_v1 : List.length (m_above_v1 ppath) = List.length ((cuts 47 ppath)) := rfl
    exact s_retL (l_mapR2 (f := vs) (fun k0 : Nat => (joinL lSl (cutG (m_above_v1 ppath) none (some ((1 : Int) + (k0 : Int)))))) (ea_cons ev_c (ea_cons (e_lenL (f := vs) (l := (m_above_v1 ppath)) (ev_var rfl) (sq_of h1_arts)) ea_nil)) (by walk_at "vside") (fun k0 hk => have := cut_sum (m_above_v1 ppath) none (some ((1 : Int) + (k0 : Int))); have := cut_len (m_above_v1 ppath) none (some ((1 : Int) + (k0 : Int))); have := above_sum ppath; (e_joinN (l := (cutG (m_above_v1 ppath) none (some ((1 : Int) + (k0 : Int))))) (ev_is (w := vs lSl) e_lit rfl) (l_slR (f := vs) (l := (m_above_v1 ppath)) (ev_var rfl) (sq_of h1_arts) eo_none (eo_some (ev_var rfl))) (by walk_at "vside")))) fun pR H2 nR e2a hR => RetL.go k0 e1 nR e2a hR
def sp_is_beneath (K : PySem.W.Frag) : Sp := spP fun ws H v => ∃ (ppath : Tx) (pupper : Tx), ws = [vs ppath, vs pupper] ∧ (pupper.length ≤ 900) ∧ v = V.bl (m_is_beneath ppath pupper)
theorem ok_is_beneath {f : Addr} {fd : FuncData} (F : Fun K "is_beneath" "is_beneath" s_is_beneath f fd) (z : Bt mg)  : FnOk P w K mg base CX0 1 f fd ["path", "upper"] (sp_is_beneath K) := by
  refine F.ok (k := 0) sc_is_beneath (fun ws H Q E h => ?_) (fun cdv A outer s H ws Q E hr h => ?_)
  · obtain ⟨_, ⟨_, _, rfl, _⟩, _⟩ := h
    rfl
  · obtain ⟨_, ⟨ppath, pupper, rfl, hpre, rfl⟩, k0⟩ := h
    obtain ⟨tk_MOST_PARTS, z_g_MOST_PARTS⟩ := z.g_MOST_PARTS
    obtain ⟨tk_MOST_SIGNS, z_g_MOST_SIGNS⟩ := z.g_MOST_SIGNS
    obtain ⟨tk_SIGNS, z_g_SIGNS⟩ := z.g_SIGNS
    have L_lSl := len_lSl
    refine ⟨_, (pss_one (ps_ret (pe_startsT (pv 0) (pe_op op_addT (pv 1) pe_str)))), ?_⟩
    exact s_ret (e_starts (ev_var rfl) (e_addT (ev_var rfl) (ev_is (w := vs lSl) e_lit rfl) (by walk_at "vside"))) fun H1 e1a => (RetV.go k0 (Ex.trans (Ex.refl H) e1a))
def sp_overlaps (K : PySem.W.Frag) : Sp := spU2 K fun ws H v => ∃ (apfiles : Addr) (pfiles : List (Tx × Tx)), ws = [.ref apfiles] ∧ Rd H apfiles (.dK (kd vs pfiles)) ∧ (pfiles.length ≤ 4000 ∧ ∀ k ∈ dkeys pfiles, k.length ≤ 900 ∧ (cuts 47 k).length ≤ 8) ∧ v = List.map (List.map vs) (m_overlaps pfiles)
theorem ok_overlaps {f : Addr} {fd : FuncData} (F : Fun K "overlaps" "overlaps" s_overlaps f fd) (z : Bt mg) (C_above : Cal P w K mg base 1 "above" ["path"] (sp_above K)) : FnOk P w K mg base CX0 2 f fd ["files"] (sp_overlaps K) := by
  refine F.ok (k := 1) sc_overlaps (fun ws H Q E h => ?_) (fun cdv A outer s H ws Q E hr h => ?_)
  · obtain ⟨_, ⟨_, _, rfl, _⟩, _⟩ := h
    rfl
  · obtain ⟨_, ⟨apfiles, pfiles, rfl, hSpfiles, hpre, rfl⟩, k0⟩ := h
    obtain ⟨tk_MOST_PARTS, z_g_MOST_PARTS⟩ := z.g_MOST_PARTS
    obtain ⟨tk_MOST_SIGNS, z_g_MOST_SIGNS⟩ := z.g_MOST_SIGNS
    obtain ⟨tk_SIGNS, z_g_SIGNS⟩ := z.g_SIGNS
    have gl := hpre.1
    refine ⟨_, (pss_one (ps_ret (pe_may (pe_lc2 (own := [("path", 1), ("upper", 2)]) (vs1 := [2]) (g := gName 1) (g1 := gName 2) (tt := tYes) rfl sc_overlaps.nd (pi_keys (pv 0)) (blkOk_by (own := [("path", 1), ("upper", 2)]) (N := ["files", "path", "upper"]) (sc := defScope s_overlaps) (by decide +kernel)) (by decide) (fun _ _ _ _ _ => pg_name (i := 1) sc_overlaps.nd rfl (Or.inl rfl)) (fun _ _ _ _ _ => pts_nil) (fun _ _ _ _ _ => (pi_listK K (pe_cal C_above (hr.mono (by decide)) (by rfl) (pa_cons (pv 1) pa_nil)))) (fun _ _ _ _ _ => pg_name (i := 2) sc_overlaps.nd rfl (Or.inl rfl)) (fun _ _ _ _ _ => pts_one (pt_cmp (pc_din (hu_of hr) (pv 2) (pv 0)))) (fun _ _ _ _ _ => (pe_tup (pa_cons (pv 2) (pa_cons (pv 1) pa_nil)))))))), ?_⟩
    exact s_retU2 (eu2_is (u_lc2K (f := vs) (l := pfiles) (fun k0 : Tx => (m_above k0)) (fun k0 k1 => (dhas pfiles k1)) (fun k0 k1 => List.map vs [k1, k0]) 8 rfl ((RX.refl H) _ _ hSpfiles) (fun k0 hm => (by have gk := hpre.2 k0 hm; have ga := above_cuts k0; walk_at "vside")) (by walk_at "vside") (by decide) (fun k0 hm HLk0 lkk0 => have gk := hpre.2 k0 hm; have ga := above_cuts k0; (el_call (ea_cons (ev_var rfl) ea_nil) (sl_of fun HC eC => ⟨_, rfl, (by walk_at "vside"), rfl⟩))) (fun k0 hm k1 hm2 HLk0 lkk0 => have gk := hpre.2 k0 hm; have ga := above_cuts k0; (et_B (e_inD (f := vs) (l := pfiles) (k := k1) (ev_var rfl) (ev_var rfl) ((RX.trans (RX.refl H) (Lk.rx lkk0)) _ _ hSpfiles)))) (fun k0 hm k1 hm2 HLk0 lkk0 hc => have gk := hpre.2 k0 hm; have ga := above_cuts k0; (eu_tup (ea_cons (ev_var rfl) (ea_cons (ev_var rfl) ea_nil)) (by simp)))) (flat_map2 (dkeys pfiles) (fun k0 : Tx => (m_above k0)) (fun k0 k1 => [k1, k0]) (List.map vs) (fun k0 k1 => (dhas pfiles k1)))) fun pR H1 nR e1a hR => RetU2.go k0 (Ex.refl H) nR e1a hR
def sp_is_blocked (K : PySem.W.Frag) : Sp := spP fun ws H v => ∃ (aptree : Addr) (ptree : List (Tx × Tx)) (ppath : Tx), ws = [.ref aptree, vs ppath] ∧ Rd H aptree (.dK (kd vs ptree)) ∧ (ppath.length ≤ 900 ∧ ptree.length ≤ 1000 ∧ ∀ k ∈ dkeys ptree, k.length ≤ 900) ∧ v = V.bl (m_is_blocked ptree ppath)
theorem ok_is_blocked {f : Addr} {fd : FuncData} (F : Fun K "is_blocked" "is_blocked" s_is_blocked f fd) (z : Bt mg) (C_above : Cal P w K mg base 1 "above" ["path"] (sp_above K)) (C_is_beneath : Cal P w K mg base 1 "is_beneath" ["path", "upper"] (sp_is_beneath K)) : FnOk P w K mg base CX0 2 f fd ["tree", "path"] (sp_is_blocked K) := by
  refine F.ok (k := 1) sc_is_blocked (fun ws H Q E h => ?_) (fun cdv A outer s H ws Q E hr h => ?_)
  · obtain ⟨_, ⟨_, _, _, rfl, _⟩, _⟩ := h
    rfl
  · obtain ⟨_, ⟨aptree, ptree, ppath, rfl, hSptree, hpre, rfl⟩, k0⟩ := h
    obtain ⟨tk_MOST_PARTS, z_g_MOST_PARTS⟩ := z.g_MOST_PARTS
    obtain ⟨tk_MOST_SIGNS, z_g_MOST_SIGNS⟩ := z.g_MOST_SIGNS
    obtain ⟨tk_SIGNS, z_g_SIGNS⟩ := z.g_SIGNS
    have hp1 := hpre.1
    have hp2 := hpre.2.1
    have hpc := above_cnt ppath
    refine ⟨_, (pss_cons (ps_if (pt_val (pe_callB (cr_anyK K rfl) (by rfl) z.z_any (by decide +kernel) (pa_cons (pe_lc (own := [("upper", 3)]) (g := gName 3) (tt := tYes) rfl sc_is_blocked.nd (pi_listK K (pe_cal C_above (hr.mono (by decide)) (by rfl) (pa_cons (pv 1) pa_nil))) (blkOk_by (own := [("upper", 3)]) (N := ["tree", "path", "name", "upper"]) (sc := defScope s_is_blocked) (by decide +kernel)) (fun _ _ _ _ _ => pg_name (i := 3) sc_is_blocked.nd rfl (Or.inl rfl)) (fun _ _ _ _ _ => pts_nil) (fun _ _ _ _ _ => (pe_cmp (pc_din (hu_of hr) (pv 3) (pv 0)) rfl))) pa_nil))) (pss_one (ps_ret pe_bl)) pss_nil)
      (pss_one (ps_ret (pe_callB (cr_anyK K rfl) (by rfl) z.z_any (by decide +kernel) (pa_cons (pe_may (pe_lc (own := [("name", 2)]) (g := gName 2) (tt := tYes) rfl sc_is_blocked.nd (pi_keys (pv 0)) (blkOk_by (own := [("name", 2)]) (N := ["tree", "path", "name", "upper"]) (sc := defScope s_is_blocked) (by decide +kernel)) (fun _ _ _ _ _ => pg_name (i := 2) sc_is_blocked.nd rfl (Or.inl rfl)) (fun _ _ _ _ _ => pts_nil) (fun _ _ _ _ _ => (pe_cal C_is_beneath (hr.mono (by decide)) (by rfl) (pa_cons (pv 2) (pa_cons (pv 1) pa_nil)))))) pa_nil))))), ?_⟩
    refine q_when (b := (((m_above ppath).map (fun k0 : Tx => (dhas ptree k0))).any id)) (et_B (e_any (m := ((m_above ppath).map (fun k0 : Tx => (dhas ptree k0)))) (l_mapN (K := K) (f := vs) (m := (m_above ppath)) (f2 := V.bl) (fun k0 : Tx => (dhas ptree k0)) [] (el_call (ea_cons (ev_var rfl) ea_nil) (sl_of fun HC eC => ⟨_, rfl, (by walk_at "vside"), rfl⟩)) (by walk_at "vside") (fun k0 hm => (e_inD (f := vs) (l := ptree) (k := k0) (ev_var rfl) (ev_var rfl) ((RX.refl H) _ _ hSptree)))))) (fun hb1 H1 e1a => ?_) (fun hb1 H1 e1a => ?_)
    · have e1 := Ex.trans (Ex.refl H) e1a
      have r1 := rx_of e1
      have k1a := ret_T k0 hb1
      exact s_ret ev_c fun H2 e2a => (RetV.go k1a (Ex.trans e1 e2a))
    · have e1 := Ex.trans (Ex.refl H) e1a
      have r1 := rx_of e1
      have k2b := ret_F k0 hb1
      exact s_ret (e_any (m := ((dkeys ptree).map (fun k0 : Tx => (m_is_beneath k0 ppath)))) (l_mapK (f := vs) (l := ptree) (f2 := V.bl) (fun k0 : Tx => (m_is_beneath k0 ppath)) rfl (r1 _ _ hSptree) (by walk_at "vside") (fun k0 hm HLk0 lkk0 => have gk := hpre.2.2 k0 hm; (ev_call (ea_cons (ev_var rfl) (ea_cons (ev_var rfl) ea_nil)) (sv_of fun HC eC => ⟨_, _, rfl, (by walk_at "vside"), rfl⟩))))) fun H3 e3a => (RetV.go k2b (Ex.trans e1 e3a))
def rp_done : List (Tx × Tx) → Hp → VK → Prop := fun a H Q => RetK (kd vs a) H Q
def R_done (K : PySem.W.Frag) : List V → Hp → Res (List (Tx × Tx)) → Prop := fun ws H r => ∃ (aptree : Addr) (ptree : List (Tx × Tx)) (apdeed : Addr) (pdeed : List Tx), ws = [.ref aptree, .ref apdeed] ∧ Rd H aptree (.dK (kd vs ptree)) ∧ SqT K H apdeed (List.map vs pdeed) ∧ (okDeed pdeed ∧ Good ptree ∧ ptree.length ≤ 1000) ∧ r = (m_done ptree pdeed)
def sp_done (K : PySem.W.Frag) (Cs : Nat → Addr) : Sp := spX Cs rp_done (R_done K)
theorem ok_done {f : Addr} {fd : FuncData} {Cs : Nat → Addr} (G : EG mg Cs) (F : Fun K "done" "done" s_done f fd) (z : Bt mg) (C_is_path : Cal P w K mg base 2 "is_path" ["text"] (sp_is_path K)) (C_is_blocked : Cal P w K mg base 2 "is_blocked" ["tree", "path"] (sp_is_blocked K)) (R1 : ErrR K Cs 1) (R2 : ErrR K Cs 2) (R3 : ErrR K Cs 3) : FnOk P w K mg base (L2N.CX P w) 3 f fd ["tree", "deed"] (sp_done K Cs) := by
  refine okN F (k := 2) sc_done (fun ws H Q E h => ?_) (fun cdv A outer s H ws Q E hr h => ?_)
  · obtain ⟨_, ⟨_, _, _, _, rfl, _⟩, _⟩ := h
    rfl
  · obtain ⟨_, ⟨aptree, ptree, apdeed, pdeed, rfl, hSptree, hSpdeed, hpre, rfl⟩, k0⟩ := h
    obtain ⟨tk_MOST_PARTS, z_g_MOST_PARTS⟩ := z.g_MOST_PARTS
    obtain ⟨tk_MOST_SIGNS, z_g_MOST_SIGNS⟩ := z.g_MOST_SIGNS
    obtain ⟨tk_SIGNS, z_g_SIGNS⟩ := z.g_SIGNS
    have L_lCut := len_lCut
    have hd := hpre.1
    have hg := hpre.2.1
    have hl := hpre.2.2
    have hd2 := deed_two hd
    refine ⟨_, (pss_cons (ps_set (i := 2) sc_done.nd rfl (Or.inl rfl) (pe_ix (ix_tupK K) (pv 1) pe_int (fun _ _ => rfl)))
      (pss_cons (ps_if (pt_not (pt_val (pe_cal C_is_path (hr.mono (by decide)) (by rfl) (pa_cons (pv 2) pa_nil)))) (pss_one (L2N.ps_raise rfl (L2N.takes_of rfl rfl rfl rfl) (pmk_any PySem.F.excBase_ValueError R1.x G.g1 R1.kp (raises_own R1.b R1.t) (by exact rfl) (pe_joined (PJ.cons pe_str (PJ.cons (pe_fmt (pv 2)) PJ.nil)))))) pss_nil)
      (pss_cons (ps_set (i := 3) sc_done.nd rfl (Or.inl rfl) (pe_callTy call_dictD (by rfl) z.z_dict (by decide +kernel) (pa_cons (pv 0) pa_nil)))
      (pss_cons (ps_if (pt_cmpR op_eq (pe_ix (ix_tupK K) (pv 1) pe_int (fun _ _ => rfl)) pe_str (nomark _)) (pss_cons (ps_if (pt_cmp (pc_dnotin (hu_of hr) (pv 2) (pv 3))) (pss_one (L2N.ps_raise rfl (L2N.takes_of rfl rfl rfl rfl) (pmk_any PySem.F.excBase_ValueError R2.x G.g2 R2.kp (raises_own R2.b R2.t) (by exact rfl) (pe_joined (PJ.cons pe_str (PJ.cons (pe_fmt (pv 2)) PJ.nil)))))) pss_nil)
      (pss_one (ps_ddel (pv 3) (pv 2)))) (pss_cons (ps_if (pt_val (pe_cal C_is_blocked (hr.mono (by decide)) (by rfl) (pa_cons (pv 0) (pa_cons (pv 2) pa_nil)))) (pss_one (L2N.ps_raise rfl (L2N.takes_of rfl rfl rfl rfl) (pmk_any PySem.F.excBase_ValueError R3.x G.g3 R3.kp (raises_own R3.b R3.t) (by exact rfl) (pe_joined (PJ.cons pe_str (PJ.cons (pe_fmt (pv 2)) PJ.nil)))))) pss_nil)
      (pss_one (ps_dput (hu_of hr) (pv 3) (pv 2) (pe_ix (ix_tupK K) (pv 1) pe_int (fun _ _ => rfl)) rfl))))
      (pss_one (ps_ret (pv 3))))))), ?_⟩
    refine q_asg (v := vs (m_done_v1 pdeed)) (ev_is (e_ixU (f := vs) (l := pdeed) [] (ev_var rfl) (rx_t (RX.refl H) hSpdeed) ev_c (by walk_at "vside")) rfl) fun H1 e1a => ?_
    have e1 := Ex.trans (Ex.refl H) e1a
    have r1 := rx_of e1
    have fm_done_v1 : List.length (m_done_v1 pdeed) = List.length ((pdeed.getD (1 : Int).toNat [])) := rfl
    have g1 := deed_path hd
    have gw : (m_done_v1 pdeed).length ≤ 900 ∧ ptree.length ≤ 1000 ∧ ∀ k ∈ dkeys ptree, k.length ≤ 900 := ⟨g1, hl, hg.le9⟩
    refine q_when (b := (!(m_is_path (m_done_v1 pdeed)))) (et_not (et_B (ev_call (ea_cons (ev_var rfl) ea_nil) (sv_of fun HC eC => ⟨_, rfl, (by walk_at "vside"), rfl⟩)))) (fun hb2 H2 e2a => ?_) (fun hb2 H2 e2a => ?_)
    · have e2 := Ex.trans e1 e2a
      have r2 := rx_of e2
      have k1a := retX_T k0 hb2
      exact x_msg (s := "no path: ") (p := (m_done_v1 pdeed)) (ev_var rfl) (by rw [show (tx "no path: ").length = 9 by decide +kernel]; walk_at "vside") fun HX eX => PX.exc k1a (Ex.trans e2 eX)
    · have e2 := Ex.trans e1 e2a
      have r2 := rx_of e2
      have k2b := retX_F k0 hb2
      refine q_asgK (kvs := kd vs (m_done_v2 ptree)) (ek_is (k_copy (f := vs) (l := ptree) (ev_var rfl) (r2 _ _ hSptree)) rfl) fun p3_iles H3 n3a e3a h3_iles => ?_
      have n3 := fresh_back e2 n3a
      have e3 := Ex.trans e2 e3a
      have r3 := rx_of e3
      have g2 : (m_done_v2 ptree).length = ptree.length := rfl
      refine q_if (b := (decide ((pdeed.getD (0 : Int).toNat []) = lCut))) (et_test (e_eqT (e_ixU (f := vs) (l := pdeed) [] (ev_var rfl) (rx_t r3 hSpdeed) ev_c (by walk_at "vside")) (ev_is (w := vs lCut) e_lit rfl))) (fun hb4 H4 e4a => ?_) (fun hb4 H4 e4a => ?_)
      · have e4 := Ex.trans e3 e4a
        have r4 := rx_of e4
        have h3_iles := e4a _ _ h3_iles
        have k3a := retX_T k2b hb4
        refine q_when (b := (!dhas (m_done_v2 ptree) (m_done_v1 pdeed))) (et_B (e_niD (f := vs) (l := (m_done_v2 ptree)) (k := (m_done_v1 pdeed)) (ev_var rfl) (ev_var rfl) (Or.inl h3_iles))) (fun hb5 H5 e5a => ?_) (fun hb5 H5 e5a => ?_)
        · have e5 := Ex.trans e4 e5a
          have r5 := rx_of e5
          have h3_iles := e5a _ _ h3_iles
          have k4a := retX_T k3a hb5
          exact x_msg (s := "no file: ") (p := (m_done_v1 pdeed)) (ev_var rfl) (by rw [show (tx "no file: ").length = 9 by decide +kernel]; walk_at "vside") fun HX eX => PX.exc k4a (Ex.trans e5 eX)
        · have e5 := Ex.trans e4 e5a
          have r5 := rx_of e5
          have h3_iles := e5a _ _ h3_iles
          have gin := has_of_not hb5
          have k5b := retX_F k3a hb5
          refine s_delD (f := vs) (l := (m_done_v2 ptree)) (k := (m_done_v1 pdeed)) (ev_var rfl) (ev_var rfl) h3_iles (by walk_at "vside") fun H6 m6 => ?_
          have e6 := Mu.ex m6 e5 n3
          have r6 := rx_of e6
          have h3_iles : H6 p3_iles = some (.dK (kd vs (m_done_v3 ptree pdeed))) := Mu.at m6
          exact s_ret (ev_var rfl) fun H7 e7a => (PX.ret k5b) _ _ n3 (Ex.trans e6 e7a) (e7a _ _ h3_iles)
      · have e4 := Ex.trans e3 e4a
        have r4 := rx_of e4
        have h3_iles := e4a _ _ h3_iles
        have g3 := deed_three hd hb4
        have k6b := retX_F k2b hb4
        refine q_when (b := (m_is_blocked ptree (m_done_v1 pdeed))) (et_B (ev_call (ea_cons (ev_var rfl) (ea_cons (ev_var rfl) ea_nil)) (sv_of fun HC eC => ⟨_, _, _, rfl, ex_rd eC (r4 _ _ hSptree), (by walk_at "vside"), rfl⟩))) (fun hb8 H8 e8a => ?_) (fun hb8 H8 e8a => ?_)
        · have e8 := Ex.trans e4 e8a
          have r8 := rx_of e8
          have h3_iles := e8a _ _ h3_iles
          have k7a := retX_T k6b hb8
          exact x_msg (s := "a file is in the way of ") (p := (m_done_v1 pdeed)) (ev_var rfl) (by rw [show (tx "a file is in the way of ").length = 24 by decide +kernel]; walk_at "vside") fun HX eX => PX.exc k7a (Ex.trans e8 eX)
        · have e8 := Ex.trans e4 e8a
          have r8 := rx_of e8
          have h3_iles := e8a _ _ h3_iles
          have k8b := retX_F k6b hb8
          refine s_putD (f := vs) (l := (m_done_v2 ptree)) (k := (m_done_v1 pdeed)) (v := (pdeed.getD (2 : Int).toNat [])) (e_ixU (f := vs) (l := pdeed) [] (ev_var rfl) (rx_t r8 hSpdeed) ev_c (by walk_at "vside")) (ev_var rfl) (ev_var rfl) h3_iles (by walk_at "vside") fun H9 m9 => ?_
          have e9 := Mu.ex m9 e8 n3
          have r9 := rx_of e9
          have h3_iles : H9 p3_iles = some (.dK (kd vs (m_done_v4 ptree pdeed))) := Mu.at m9
          exact s_ret (ev_var rfl) fun H10 e10a => (PX.ret k8b) _ _ n3 (Ex.trans e9 e10a) (e10a _ _ h3_iles)
def rp_changed : List (Tx × Tx) → Hp → VK → Prop := fun a H Q => RetK (kd vs a) H Q
def R_changed (K : PySem.W.Frag) : List V → Hp → Res (List (Tx × Tx)) → Prop := fun ws H r => ∃ (aptree : Addr) (ptree : List (Tx × Tx)) (apdeeds : Addr) (pdeeds : List (List Tx)), ws = [.ref aptree, .ref apdeeds] ∧ Rd H aptree (.dK (kd vs ptree)) ∧ IsLUr K H apdeeds (List.map (List.map vs) pdeeds) ∧ (okRow pdeeds ∧ Good ptree ∧ ptree.length + pdeeds.length ≤ 1000) ∧ r = (m_changed ptree pdeeds)
def sp_changed (K : PySem.W.Frag) (Cs : Nat → Addr) : Sp := spX Cs rp_changed (R_changed K)
theorem ok_changed {f : Addr} {fd : FuncData} {Cs : Nat → Addr} (G : EG mg Cs) (F : Fun K "changed" "changed" s_changed f fd) (z : Bt mg) (C_done : CalX P w K mg base 3 "done" ["tree", "deed"] (sp_done K Cs)) : FnOk P w K mg base (L2N.CX P w) 4 f fd ["tree", "deeds"] (sp_changed K Cs) := by
  refine okN F (k := 3) sc_changed (fun ws H Q E h => ?_) (fun cdv A outer s H ws Q E hr h => ?_)
  · obtain ⟨_, ⟨_, _, _, _, rfl, _⟩, _⟩ := h
    rfl
  · obtain ⟨_, ⟨aptree, ptree, apdeeds, pdeeds, rfl, hSptree, hSpdeeds, hpre, rfl⟩, k0⟩ := h
    obtain ⟨tk_MOST_PARTS, z_g_MOST_PARTS⟩ := z.g_MOST_PARTS
    obtain ⟨tk_MOST_SIGNS, z_g_MOST_SIGNS⟩ := z.g_MOST_SIGNS
    obtain ⟨tk_SIGNS, z_g_SIGNS⟩ := z.g_SIGNS
    have hp1 := hpre.1
    have hp2 := hpre.2.1
    have hp3 := hpre.2.2
    refine ⟨_, (pss_cons (ps_set (i := 2) sc_changed.nd rfl (Or.inl rfl) (pe_callTy call_dictD (by rfl) z.z_dict (by decide +kernel) (pa_cons (pv 0) pa_nil)))
      (pss_cons (ps_for PassesOwn.leaving rfl (pi_listK K (pv 1)) (pg_name (i := 3) sc_changed.nd rfl (Or.inl rfl))
      (pss_one (ps_set (i := 2) sc_changed.nd rfl (Or.inl rfl) (pe_calX C_done (L2N.takes_of rfl rfl rfl rfl) (hr.mono (by decide)) (by rfl) (pa_cons (pv 2) (pa_cons (pv 3) pa_nil))))))
      (pss_one (ps_ret (pv 2))))), ?_⟩
    refine q_asgK (kvs := kd vs (m_changed_v1 ptree)) (ek_is (k_copy (f := vs) (l := ptree) (ev_var rfl) ((RX.refl H) _ _ hSptree)) rfl) fun p1_iles H1 n1a e1a h1_iles => ?_
    have n1 := fresh_back (Ex.refl H) n1a
    have e1 := Ex.trans (Ex.refl H) e1a
    have r1 := rx_of e1
    refine q_loopU (K := K) (R := (Res (List (Tx × Tx)))) (l := pdeeds) m_changed_step1 (m_changed_v1 ptree) (fun tsU => (fun (s1 : List (Tx × Tx)) (σ1 : L2.St) (H1L : Hp) => ∃ (j1_0 : Option V) (pM1_iles : Addr), σ1 = [some (.ref aptree), some (.ref apdeeds), some (.ref pM1_iles), j1_0] ∧ Ex H H1L ∧ RX H H1L ∧ H1L pM1_iles = some (.dK (kd vs s1)) ∧ H pM1_iles = none)) (ev_var rfl) hSpdeeds r1 (fun tsU H3 e3a hA hB => ⟨_, _, rfl, (Ex.trans e1 e3a), (rx_of (Ex.trans e1 e3a)), e3a _ _ h1_iles, n1⟩) (fun tsU s σ HQ hA hB hq => by obtain ⟨j1_0, pM1_iles, rfl, e1L, r1L, hM1_iles, nM1_iles⟩ := hq; exact ⟨rx_l r1L hA, tups_mono (fun _ _ => rx_t r1L) hB⟩) (fun tsU => ?_) (fun tsU => ?_)
    · intro Nx1 Bk1 i1 s1 y1 a1U σ1 H1L hy1 hrun1 hq1 ha1U hnx1 hbk1 hrt1
      obtain ⟨j1_0, pM1_iles, rfl, e1L, r1L, hM1_iles, nM1_iles⟩ := hq1
      have hm1 := List.mem_of_getElem? hy1
      have hlt1 := (List.getElem?_eq_some_iff.mp hy1).1
      have g1 := changed_loop hpre hrun1 hy1
      have kq1_0 : m_changed_step1 s1 y1 = (resM (m_done s1 y1) (fun lT2 => (Stp.go lT2)) (fun kT2 => (Stp.ret (.exc kT2)))) := rfl
      refine s_asgX (r := (m_done s1 y1)) (ea_cons (ev_var rfl) (ea_cons (ev_var rfl) ea_nil)) (fun HC eC => ⟨_, _, _, _, rfl, ex_rd eC (Or.inl hM1_iles), ex_t eC ha1U, (by walk_at "vside"), rfl⟩) (fun lT2 hT2 H2b e2b => fun p2_iles H2 n2a e2a h2_iles => ?_) (fun kT2 hT2 H2 e2a => ?_)
      · have n2a := fresh_back e2b n2a
        have e2a := Ex.trans e2b e2a
        have n2 := fresh_back e1L n2a
        have e2 := Ex.trans e1L e2a
        have r2 := rx_of e2
        have ha1U := ex_t e2a ha1U
        have kq1_1 := kq_ok kq1_0 hT2
        exact hnx1 lT2 _ _ kq1_1 ⟨_, _, rfl, e2, r2, h2_iles, n2⟩
      · have kq1_2 := kq_exc kq1_0 hT2
        have kr1 := hrt1 _ kq1_2
        exact PX.exc (retX_run k0 kr1) (Ex.trans e1L e2a)
    · intro s1 σ1 H1L hr1 hq1
      obtain ⟨j1_0, pM1_iles, rfl, e1L, r1L, hM1_iles, nM1_iles⟩ := hq1
      have k2r := retX_go k0 hr1
      exact s_ret (ev_var rfl) fun H5 e5a => (PX.ret k2r) _ _ nM1_iles (Ex.trans e1L e5a) (e5a _ _ hM1_iles)
def sp_mark_of (K : PySem.W.Frag) : Sp := spP fun ws H v => ∃ (pbefore : Option Tx) (pleft : Option Tx) (pright : Option Tx), ws = [vo pbefore, vo pleft, vo pright] ∧ v = vo (m_mark_of pbefore pleft pright)
theorem ok_mark_of {f : Addr} {fd : FuncData} (F : Fun K "mark_of" "mark_of" s_mark_of f fd) (z : Bt mg)  : FnOk P w K mg base CX0 1 f fd ["before", "left", "right"] (sp_mark_of K) := by
  refine F.ok (k := 0) sc_mark_of (fun ws H Q E h => ?_) (fun cdv A outer s H ws Q E hr h => ?_)
  · obtain ⟨_, ⟨_, _, _, rfl, _⟩, _⟩ := h
    rfl
  · obtain ⟨_, ⟨pbefore, pleft, pright, rfl, rfl⟩, k0⟩ := h
    obtain ⟨tk_MOST_PARTS, z_g_MOST_PARTS⟩ := z.g_MOST_PARTS
    obtain ⟨tk_MOST_SIGNS, z_g_MOST_SIGNS⟩ := z.g_MOST_SIGNS
    obtain ⟨tk_SIGNS, z_g_SIGNS⟩ := z.g_SIGNS
    have L_l_b79634d7 := len_l_b79634d7
    have L_l_fe05bcdc := len_l_fe05bcdc
    have L_l_d0941e68 := len_l_d0941e68
    have L_l_4581fc00 := len_l_4581fc00
    refine ⟨_, (pss_cons (ps_if (pt_cmpR op_eq (pv 1) (pv 2) (nomark _)) (pss_one (ps_ret (pe_ifExp (pt_cmpR op_eq (pv 1) (pv 0) (nomark _)) pe_non pe_str))) pss_nil)
      (pss_cons (ps_if (pt_cmpR op_eq (pv 2) (pv 0) (nomark _)) (pss_one (ps_ret pe_str)) pss_nil)
      (pss_cons (ps_if (pt_cmpR op_eq (pv 1) (pv 0) (nomark _)) (pss_one (ps_ret pe_str)) pss_nil)
      (pss_one (ps_ret pe_str))))), ?_⟩
    refine q_when (b := (decide (pleft = pright))) (et_test (e_eqOO (x := pleft) (y := pright) (ev_var rfl) (ev_var rfl))) (fun hb1 H1 e1a => ?_) (fun hb1 H1 e1a => ?_)
    · have e1 := Ex.trans (Ex.refl H) e1a
      have r1 := rx_of e1
      have k1a := ret_T k0 hb1
      exact s_ret (e_if (f := vo) (et_test (e_eqOO (x := pleft) (y := pbefore) (ev_var rfl) (ev_var rfl))) (fun hc => ev_c) (fun hc => (ev_is (w := vs l_b79634d7) e_lit rfl))) fun H2 e2a => (RetV.go k1a (Ex.trans e1 e2a))
    · have e1 := Ex.trans (Ex.refl H) e1a
      have r1 := rx_of e1
      have k2b := ret_F k0 hb1
      refine q_when (b := (decide (pright = pbefore))) (et_test (e_eqOO (x := pright) (y := pbefore) (ev_var rfl) (ev_var rfl))) (fun hb3 H3 e3a => ?_) (fun hb3 H3 e3a => ?_)
      · have e3 := Ex.trans e1 e3a
        have r3 := rx_of e3
        have k3a := ret_T k2b hb3
        exact s_ret (ev_is (w := vs l_fe05bcdc) e_lit rfl) fun H4 e4a => (RetV.go (show RetV (vs l_fe05bcdc) _ _ from k3a) (Ex.trans e3 e4a))
      · have e3 := Ex.trans e1 e3a
        have r3 := rx_of e3
        have k4b := ret_F k2b hb3
        refine q_when (b := (decide (pleft = pbefore))) (et_test (e_eqOO (x := pleft) (y := pbefore) (ev_var rfl) (ev_var rfl))) (fun hb5 H5 e5a => ?_) (fun hb5 H5 e5a => ?_)
        · have e5 := Ex.trans e3 e5a
          have r5 := rx_of e5
          have k5a := ret_T k4b hb5
          exact s_ret (ev_is (w := vs l_d0941e68) e_lit rfl) fun H6 e6a => (RetV.go (show RetV (vs l_d0941e68) _ _ from k5a) (Ex.trans e5 e6a))
        · have e5 := Ex.trans e3 e5a
          have r5 := rx_of e5
          have k6b := ret_F k4b hb5
          exact s_ret (ev_is (w := vs l_4581fc00) e_lit rfl) fun H7 e7a => (RetV.go (show RetV (vs l_4581fc00) _ _ from k6b) (Ex.trans e5 e7a))
def sp_marks (K : PySem.W.Frag) : Sp := spU2 K fun ws H v => ∃ (apelder : Addr) (pelder : List (Tx × Tx)) (apone : Addr) (pone : List (Tx × Tx)) (apother : Addr) (pother : List (Tx × Tx)), ws = [.ref apelder, .ref apone, .ref apother] ∧ Rd H apelder (.dK (kd vs pelder)) ∧ Rd H apone (.dK (kd vs pone)) ∧ Rd H apother (.dK (kd vs pother)) ∧ (pelder.length ≤ 1000 ∧ pone.length ≤ 1000 ∧ pother.length ≤ 1000) ∧ v = List.map (List.map vs) (m_marks pelder pone pother)
theorem ok_marks {f : Addr} {fd : FuncData} (F : Fun K "marks" "marks" s_marks f fd) (z : Bt mg) (C_mark_of : Cal P w K mg base 1 "mark_of" ["before", "left", "right"] (sp_mark_of K)) : FnOk P w K mg base CX0 2 f fd ["elder", "one", "other"] (sp_marks K) := by
  refine F.ok (k := 1) sc_marks (fun ws H Q E h => ?_) (fun cdv A outer s H ws Q E hr h => ?_)
  · obtain ⟨_, ⟨_, _, _, _, _, _, rfl, _⟩, _⟩ := h
    rfl
  · obtain ⟨_, ⟨apelder, pelder, apone, pone, apother, pother, rfl, hSpelder, hSpone, hSpother, hpre, rfl⟩, k0⟩ := h
    obtain ⟨tk_MOST_PARTS, z_g_MOST_PARTS⟩ := z.g_MOST_PARTS
    obtain ⟨tk_MOST_SIGNS, z_g_MOST_SIGNS⟩ := z.g_MOST_SIGNS
    obtain ⟨tk_SIGNS, z_g_SIGNS⟩ := z.g_SIGNS
    have hp1 := hpre.1
    have hp2 := hpre.2.1
    have hp3 := hpre.2.2
    have hk1 := dkeys_len pelder
    have hk2 := dkeys_len pone
    have hk3 := dkeys_len pother
    have hu1 := uniT_len (dkeys pone) (dkeys pelder)
    have hu2 := uniT_len (dkeys pother) (uniT (dkeys pelder) (dkeys pone))
    refine ⟨_, (pss_cons (ps_set (i := 3) sc_marks.nd rfl (Or.inl rfl) (pe_lst pa_nil))
      (pss_cons (ps_for PassesOwn.never rfl (pi_listK K (pe_callB (call_srtM rfl) (by rfl) z.z_sorted (by decide +kernel) (pa_cons (pe_op op_orM (pe_op op_orM (pe_callTy call_setD (by rfl) z.z_set (by decide +kernel) (pa_cons (pv 0) pa_nil)) (pe_callTy call_setD (by rfl) z.z_set (by decide +kernel) (pa_cons (pv 1) pa_nil))) (pe_callTy call_setD (by rfl) z.z_set (by decide +kernel) (pa_cons (pv 2) pa_nil))) pa_nil))) (pg_name (i := 4) sc_marks.nd rfl (Or.inl rfl))
      (pss_cons (ps_set (i := 5) sc_marks.nd rfl (Or.inl rfl) (pe_cal C_mark_of (hr.mono (by decide)) (by rfl) (pa_cons (pe_dget1 (hu_of hr) (pv 0) (pv 4) ⟨rfl, rfl, rfl, rfl⟩) (pa_cons (pe_dget1 (hu_of hr) (pv 1) (pv 4) ⟨rfl, rfl, rfl, rfl⟩) (pa_cons (pe_dget1 (hu_of hr) (pv 2) (pv 4) ⟨rfl, rfl, rfl, rfl⟩) pa_nil)))))
      (pss_cut (ps_if (pt_cmpR op_notN1 (pv 5) pe_non (nomark _)) (pss_one (ps_expr (pe_bm PySem.F.plainAttrs_list PySem.F.slot_list_append PySem.F.type_list_append mt_append (pv 3) (pa_cons (pe_tup (pa_cons (pv 4) (pa_cons (pv 5) pa_nil))) pa_nil)))) pss_nil)
      pss_nil)))
      (pss_one (ps_ret (pv 3))))), ?_⟩
    refine q_asgU2 (K := K) (l := (List.map (List.map vs) m_marks_v1)) (eu2_is (u2_lst er_nil (by simp)) rfl) fun p1_ound H1 n1a e1a h1_ound => ?_
    have n1 := fresh_back (Ex.refl H) n1a
    have e1 := Ex.trans (Ex.refl H) e1a
    have r1 := rx_of e1
    have fm_marks_v1 : List.length m_marks_v1 = List.length ([]) := rfl
    refine q_loopN (R := Unit) (f := vs) (l := (srt (uniT (uniT (dkeys pelder) (dkeys pone)) (dkeys pother)))) (m_marks_step1 pelder pone pother) m_marks_v1 (fun pN1 => (fun (s1 : List (List Tx)) (σ1 : L2.St) (H1L : Hp) => ∃ (j1_0 j1_1 : Option V), σ1 = [some (.ref apelder), some (.ref apone), some (.ref apother), some (.ref p1_ound), j1_0, j1_1] ∧ Ex H H1L ∧ RX H H1L ∧ IsLU K H1L p1_ound (List.map (List.map vs) s1) ∧ H1L pN1 = some (.lst (List.map vs (srt (uniT (uniT (dkeys pelder) (dkeys pone)) (dkeys pother))))))) (l_srtS (l := (uniT (uniT (dkeys pelder) (dkeys pone)) (dkeys pother))) (s_orS (l := (uniT (dkeys pelder) (dkeys pone))) (m := (dkeys pother)) (s_orS (l := (dkeys pelder)) (m := (dkeys pone)) (s_setD (f := vs) (dl := pelder) (ev_var rfl) (r1 _ _ hSpelder) (by walk_at "vside")) (s_setD (f := vs) (dl := pone) (ev_var rfl) (r1 _ _ hSpone) (by walk_at "vside")) (by walk_at "vside")) (s_setD (f := vs) (dl := pother) (ev_var rfl) (r1 _ _ hSpother) (by walk_at "vside")) (by walk_at "vside"))) (fun pN1 H5 nN1 e5a hN1 => ⟨_, _, rfl, (Ex.trans e1 e5a), (rx_of (Ex.trans e1 e5a)), IsLU.ex h1_ound e5a, hN1⟩) (fun pN1 s σ H hq => by obtain ⟨j1_0, j1_1, rfl, e1L, r1L, h1_ound, hNL1⟩ := hq; exact sq_of hNL1) (fun pN1 nNa1 => ?_) (fun pN1 nNa1 => ?_)
    · have nN1 := rx_free r1 nNa1
      have d_p1_ound_pN1 := IsLU.ne h1_ound nNa1
      intro Nx1 Bk1 i1 s1 y1 σ1 H1L hy1 hrun1 hq1 hnx1 hbk1 hrt1
      obtain ⟨j1_0, j1_1, rfl, e1L, r1L, h1_ound, hNL1⟩ := hq1
      have hm1 := List.mem_of_getElem? hy1
      have hlt1 := (List.getElem?_eq_some_iff.mp hy1).1
      have g1 := marks_loop hpre hrun1 hy1
      have kq1_0 : (m_marks_step1 pelder pone pother) s1 y1 = (Stp.go (m_marks_v4 pelder y1 pone pother s1)) := rfl
      refine q_asg (v := vo (m_marks_v2 pelder y1 pone pother)) (ev_is (ev_call (ea_cons (e_get1 (l := pelder) (k := y1) (ev_var rfl) (ev_var rfl) (r1L _ _ hSpelder)) (ea_cons (e_get1 (l := pone) (k := y1) (ev_var rfl) (ev_var rfl) (r1L _ _ hSpone)) (ea_cons (e_get1 (l := pother) (k := y1) (ev_var rfl) (ev_var rfl) (r1L _ _ hSpother)) ea_nil))) (sv_of fun HC eC => ⟨_, _, _, rfl, rfl⟩)) rfl) fun H2 e2a => ?_
      have e2 := Ex.trans e1L e2a
      have r2 := rx_of e2
      have h1_ound := IsLU.ex h1_ound e2a
      have hNL1 := e2a _ _ hNL1
      refine q_cut (M := (fun (σ3m : L2.St) (H3m : Hp) => ∃ (jm3_word : Option V), σ3m = [some (.ref apelder), some (.ref apone), some (.ref apother), some (.ref p1_ound), some (vs y1), jm3_word] ∧ Ex H H3m ∧ RX H H3m ∧ IsLU K H3m p1_ound (List.map (List.map vs) (m_marks_v4 pelder y1 pone pother s1)) ∧ H3m pN1 = some (.lst (List.map vs (srt (uniT (uniT (dkeys pelder) (dkeys pone)) (dkeys pother))))))) ?_ ?_
      · refine s_when (b := ((m_marks_v2 pelder y1 pone pother).isSome)) (et_test (e_notN (x := (m_marks_v2 pelder y1 pone pother)) (ev_var rfl) ev_c)) (fun hb3 H3 e3a => ?_) (fun hb3 H3 e3a => ?_)
        · have e3 := Ex.trans e2 e3a
          have r3 := rx_of e3
          have h1_ound := IsLU.ex h1_ound e3a
          have hNL1 := e3a _ _ hNL1
          rw [vo_some (x := (m_marks_v2 pelder y1 pone pother)) hb3]
          have hLU4 := h1_ound
          obtain ⟨ts4, h1_ound, _⟩ := id hLU4
          refine s_appLU (K := K) (l := (List.map (List.map vs) s1)) (xs := List.map vs [y1, ((m_marks_v2 pelder y1 pone pother).getD [])]) hLU4 (ev_var rfl) (tu_new (eu_tup (ea_cons (ev_var rfl) (ea_cons (ev_var rfl) ea_nil)) (by simp))) (by simp only [List.length_map]; walk_at "vside") fun us4 H4 m4 hN4 => ?_
          have e4 := Mu.ex m4 e3 n1
          have r4 := rx_of e4
          have hNL1 := Mu.keep m4 (by first | exact d_pN1_p1_ound | exact Ne.symm d_p1_ound_pN1) hNL1
          have h1_ound : IsLU K H4 p1_ound (List.map (List.map vs) (m_marks_v3 s1 y1 pelder pone pother)) := by show IsLU K H4 p1_ound (List.map (List.map vs) (s1 ++ [[y1, ((m_marks_v2 pelder y1 pone pother).getD [])]])); rw [List.map_append]; exact hN4
          have fm_marks_v3 : List.length (m_marks_v3 s1 y1 pelder pone pother) = List.length (s1 ++ [[y1, ((m_marks_v2 pelder y1 pone pother).getD [])]]) := rfl
          have hV3_0 : (m_marks_v4 pelder y1 pone pother s1) = (m_marks_v3 s1 y1 pelder pone pother) := if_pos hb3
          exact ⟨_, rfl, e4, r4, (by rw [hV3_0]; exact h1_ound), hNL1⟩
        · have e3 := Ex.trans e2 e3a
          have r3 := rx_of e3
          have h1_ound := IsLU.ex h1_ound e3a
          have hNL1 := e3a _ _ hNL1
          have hV3_0 : (m_marks_v4 pelder y1 pone pother s1) = s1 := if_neg (by rw [hb3]; exact Bool.false_ne_true)
          exact ⟨_, rfl, e3, r3, (by rw [hV3_0]; exact h1_ound), hNL1⟩
      · intro σ3m H3m hq3m
        obtain ⟨jm3_word, rfl, e3m, r3m, h1_ound, hNL1⟩ := hq3m
        exact hnx1 (m_marks_v4 pelder y1 pone pother s1) _ _ kq1_0 ⟨_, _, rfl, e3m, r3m, h1_ound, hNL1⟩
    · intro s1 σ1 H1L hr1 hq1
      obtain ⟨j1_0, j1_1, rfl, e1L, r1L, h1_ound, hNL1⟩ := hq1
      obtain rfl : (m_marks_v5 pelder pone pother) = s1 := (outL_of hr1).symm
      exact s_ret (ev_var rfl) fun H7 e7a => k0 _ _ n1 (Ex.trans e1L e7a) (IsLU.ex h1_ound e7a)
def sp_single_clashes (K : PySem.W.Frag) : Sp := spN fun ws H v => ∃ (apelder : Addr) (pelder : List (Tx × Tx)) (apone : Addr) (pone : List (Tx × Tx)) (apother : Addr) (pother : List (Tx × Tx)), ws = [.ref apelder, .ref apone, .ref apother] ∧ Rd H apelder (.dK (kd vs pelder)) ∧ Rd H apone (.dK (kd vs pone)) ∧ Rd H apother (.dK (kd vs pother)) ∧ (pelder.length ≤ 1000 ∧ pone.length ≤ 1000 ∧ pother.length ≤ 1000) ∧ v = List.map vs (m_single_clashes pelder pone pother)
theorem ok_single_clashes {f : Addr} {fd : FuncData} (F : Fun K "single_clashes" "single_clashes" s_single_clashes f fd) (z : Bt mg) (C_marks : Cal P w K mg base 2 "marks" ["elder", "one", "other"] (sp_marks K)) : FnOk P w K mg base CX0 3 f fd ["elder", "one", "other"] (sp_single_clashes K) := by
  refine F.ok (k := 2) sc_single_clashes (fun ws H Q E h => ?_) (fun cdv A outer s H ws Q E hr h => ?_)
  · obtain ⟨_, ⟨_, _, _, _, _, _, rfl, _⟩, _⟩ := h
    rfl
  · obtain ⟨_, ⟨apelder, pelder, apone, pone, apother, pother, rfl, hSpelder, hSpone, hSpother, hpre, rfl⟩, k0⟩ := h
    obtain ⟨tk_MOST_PARTS, z_g_MOST_PARTS⟩ := z.g_MOST_PARTS
    obtain ⟨tk_MOST_SIGNS, z_g_MOST_SIGNS⟩ := z.g_MOST_SIGNS
    obtain ⟨tk_SIGNS, z_g_SIGNS⟩ := z.g_SIGNS
    have L_l_4581fc00 := len_l_4581fc00
    have gm := marks_len (e := pelder) (o := pone) (t := pother) hpre
    refine ⟨_, (pss_one (ps_ret (pe_lc (own := [("path", 3), ("word", 4)]) (g := gTup K 2 (gCons (gName 3) (gCons (gName 4) gNil))) rfl sc_single_clashes.nd (pi_listK K (pe_cal C_marks (hr.mono (by decide)) (by rfl) (pa_cons (pv 0) (pa_cons (pv 1) (pa_cons (pv 2) pa_nil))))) (blkOk_by (own := [("path", 3), ("word", 4)]) (N := ["elder", "one", "other", "path", "word"]) (sc := defScope s_single_clashes) (by decide +kernel)) (fun _ _ _ _ _ => pg_tupK K rfl (pgs_cons (pg_name (i := 3) sc_single_clashes.nd rfl (Or.inl rfl)) (pgs_cons (pg_name (i := 4) sc_single_clashes.nd rfl (Or.inl rfl)) pgs_nil))) (fun _ _ _ _ _ => pts_one (pt_cmpR op_eq (pv 4) pe_str (nomark _))) (fun _ _ _ _ _ => (pv 3))))), ?_⟩
    exact s_retL (l_filP (K := K) (l := (m_marks pelder pone pother)) (f2 := vs) (fun k0 : List Tx => (decide ((k0.getD 1 []) = l_4581fc00))) (fun k0 : List Tx => (k0.getD 0 [])) (eu2_call (ea_cons (ev_var rfl) (ea_cons (ev_var rfl) (ea_cons (ev_var rfl) ea_nil))) (su2_of fun HC eC => ⟨_, _, _, _, _, _, rfl, ex_rd eC ((RX.refl H) _ _ hSpelder), ex_rd eC ((RX.refl H) _ _ hSpone), ex_rd eC ((RX.refl H) _ _ hSpother), (by walk_at "vside"), rfl⟩)) marks_two (by walk_at "vside") (fun k0 hm => (et_test (e_eqT (ev_var rfl) (ev_is (w := vs l_4581fc00) e_lit rfl)))) (fun k0 hm hc => (ev_var rfl))) fun pR H1 nR e1a hR => RetL.go k0 (Ex.refl H) nR e1a hR
def sp_settle (K : PySem.W.Frag) : Sp := spM fun ws H d kvs => ∃ (apfiles : Addr) (pfiles : List (Tx × Tx)) (ppath : Tx) (ptext : Option Tx), ws = [.ref apfiles, vs ppath, vo ptext] ∧ H apfiles = some (.dK (kd vs pfiles)) ∧ pfiles.length ≤ 10000 ∧ d = apfiles ∧ kvs = kd vs (m_settle pfiles ppath ptext)
theorem ok_settle {f : Addr} {fd : FuncData} (F : Fun K "settle" "settle" s_settle f fd) (z : Bt mg) : FnOk P w K mg base CX0 1 f fd ["files", "path", "text"] (sp_settle K) := by
  refine F.ok (k := 0) sc_settle (fun ws H Q E h => ?_) (fun cdv A outer s H ws Q E hr h => ?_)
  · obtain ⟨_, _, ⟨_, _, _, _, rfl, _⟩, _⟩ := h
    rfl
  · obtain ⟨_, _, ⟨apfiles, pfiles, ppath, ptext, rfl, hF, hL, rfl, rfl⟩, k0⟩ := h
    refine ⟨_, (pss_one (ps_if (pt_cmpR op_isN1 (pv 2) pe_non (nomark _)) (pss_one (ps_expr (pe_dpop2 (pv 0) (pv 1) pe_non ⟨rfl, rfl, rfl, rfl⟩))) (pss_one (ps_dput (hu_of hr) (pv 0) (pv 1) (pv 2) rfl)))), ?_⟩
    refine s_if (b := (!ptext.isSome)) (et_test (e_isN (x := ptext) (ev_var rfl) ev_c)) (fun hb H1 e1 => ?_) (fun hb H1 e1 => ?_)
    · refine s_pop2D (f := vs) (l := pfiles) (ev_var rfl) (ev_var rfl) ev_c (e1 _ _ hF) fun H2 m2 => ?_
      refine k0 H2 ?_
      have hn : ptext = none := by cases ptext with | none => rfl | some t => cases hb
      subst hn
      obtain ⟨H3, e3, rfl⟩ := m2
      exact ⟨H3, e1.trans e3, rfl⟩
    · have hs : ptext.isSome = true := by cases ptext with | none => cases hb | some t => rfl
      obtain ⟨t, rfl⟩ := Option.isSome_iff_exists.mp hs
      refine s_putD (f := vs) (l := pfiles) (k := ppath) (v := t) (ev_var rfl) (ev_var rfl) (ev_var rfl) (e1 _ _ hF) (by omega) fun H2 m2 => ?_
      refine k0 H2 ?_
      obtain ⟨H3, e3, rfl⟩ := m2
      exact ⟨H3, e1.trans e3, rfl⟩
def sp_agreed (K : PySem.W.Frag) : Sp := spK fun ws H v => ∃ (apelder : Addr) (pelder : List (Tx × Tx)) (apone : Addr) (pone : List (Tx × Tx)) (apother : Addr) (pother : List (Tx × Tx)), ws = [.ref apelder, .ref apone, .ref apother] ∧ Rd H apelder (.dK (kd vs pelder)) ∧ Rd H apone (.dK (kd vs pone)) ∧ Rd H apother (.dK (kd vs pother)) ∧ (P3 pelder pone pother) ∧ v = kd vs (m_agreed pelder pone pother)
theorem ok_agreed {f : Addr} {fd : FuncData} (F : Fun K "agreed" "agreed" s_agreed f fd) (z : Bt mg) (C_marks : Cal P w K mg base 2 "marks" ["elder", "one", "other"] (sp_marks K)) (C_settle : Cal P w K mg base 1 "settle" ["files", "path", "text"] (sp_settle K)) : FnOk P w K mg base CX0 3 f fd ["elder", "one", "other"] (sp_agreed K) := by
  refine F.ok (k := 2) sc_agreed (fun ws H Q E h => ?_) (fun cdv A outer s H ws Q E hr h => ?_)
  · obtain ⟨_, ⟨_, _, _, _, _, _, rfl, _⟩, _⟩ := h
    rfl
  · obtain ⟨_, ⟨apelder, pelder, apone, pone, apother, pother, rfl, hSpelder, hSpone, hSpother, hpre, rfl⟩, k0⟩ := h
    obtain ⟨tk_MOST_PARTS, z_g_MOST_PARTS⟩ := z.g_MOST_PARTS
    obtain ⟨tk_MOST_SIGNS, z_g_MOST_SIGNS⟩ := z.g_MOST_SIGNS
    obtain ⟨tk_SIGNS, z_g_SIGNS⟩ := z.g_SIGNS
    have L_l_4581fc00 := len_l_4581fc00
    have L_l_d0941e68 := len_l_d0941e68
    have hl := hpre.2
    have gml := marks_len hpre.2
    refine ⟨_, (pss_cons (ps_set (i := 3) sc_agreed.nd rfl (Or.inl rfl) (pe_callTy call_dictD (by rfl) z.z_dict (by decide +kernel) (pa_cons (pv 0) pa_nil)))
      (pss_cons (ps_for PassesOwn.never rfl (pi_listK K (pe_cal C_marks (hr.mono (by decide)) (by rfl) (pa_cons (pv 0) (pa_cons (pv 1) (pa_cons (pv 2) pa_nil))))) (pg_tupK K rfl (pgs_cons (pg_name (i := 4) sc_agreed.nd rfl (Or.inl rfl)) (pgs_cons (pg_name (i := 5) sc_agreed.nd rfl (Or.inl rfl)) pgs_nil)))
      (pss_cut (ps_if (pt_cmpR op_eq (pv 5) pe_str (nomark _)) (pss_one (ps_expr (pe_cal C_settle (hr.mono (by decide)) (by rfl) (pa_cons (pv 3) (pa_cons (pv 4) (pa_cons pe_non pa_nil)))))) (pss_cut (ps_if (pt_cmpR op_eq (pv 5) pe_str (nomark _)) (pss_one (ps_expr (pe_cal C_settle (hr.mono (by decide)) (by rfl) (pa_cons (pv 3) (pa_cons (pv 4) (pa_cons (pe_dget1 (hu_of hr) (pv 2) (pv 4) ⟨rfl, rfl, rfl, rfl⟩) pa_nil)))))) (pss_one (ps_expr (pe_cal C_settle (hr.mono (by decide)) (by rfl) (pa_cons (pv 3) (pa_cons (pv 4) (pa_cons (pe_dget1 (hu_of hr) (pv 1) (pv 4) ⟨rfl, rfl, rfl, rfl⟩) pa_nil)))))))
      pss_nil))
      pss_nil))
      (pss_one (ps_ret (pv 3))))), ?_⟩
    refine q_asgK (kvs := kd vs (m_agreed_v1 pelder)) (ek_is (k_copy (f := vs) (l := pelder) (ev_var rfl) ((RX.refl H) _ _ hSpelder)) rfl) fun p1_iles H1 n1a e1a h1_iles => ?_
    have n1 := fresh_back (Ex.refl H) n1a
    have e1 := Ex.trans (Ex.refl H) e1a
    have r1 := rx_of e1
    refine q_loopP (K := K) (R := Unit) (l := (m_marks pelder pone pother)) (m_agreed_step1 pone pother) (m_agreed_v1 pelder) (fun pP1 tsP1 => (fun (s1 : List (Tx × Tx)) (σ1 : L2.St) (H1L : Hp) => ∃ (j1_0 j1_1 : Option V), σ1 = [some (.ref apelder), some (.ref apone), some (.ref apother), some (.ref p1_iles), j1_0, j1_1] ∧ Ex H H1L ∧ RX H H1L ∧ H1L p1_iles = some (.dK (kd vs s1)) ∧ IsLV K H1L pP1 tsP1 (List.map (List.map vs) (m_marks pelder pone pother)))) (eu2_call (ea_cons (ev_var rfl) (ea_cons (ev_var rfl) (ea_cons (ev_var rfl) ea_nil))) (su2_of fun HC eC => ⟨_, _, _, _, _, _, rfl, ex_rd eC (r1 _ _ hSpelder), ex_rd eC (r1 _ _ hSpone), ex_rd eC (r1 _ _ hSpother), (by walk_at "vside"), rfl⟩)) marks_two (fun pP1 tsP1 H7 nP1 e7a hP1 => ⟨_, _, rfl, (Ex.trans e1 e7a), (rx_of (Ex.trans e1 e7a)), e7a _ _ h1_iles, hP1⟩) (fun pP1 tsP1 s σ H hq => by obtain ⟨j1_0, j1_1, rfl, e1L, r1L, h1_iles, hPL1⟩ := hq; exact hPL1) (fun pP1 tsP1 nPa1 => ?_) (fun pP1 tsP1 nPa1 => ?_)
    · have nP1 := rx_free r1 nPa1
      have d_p1_iles_pP1 := ne_of_none h1_iles nPa1
      intro Nx1 Bk1 i1 s1 y1 σ1 H1L hy1 hrun1 hq1 hnx1 hbk1 hrt1
      obtain ⟨j1_0, j1_1, rfl, e1L, r1L, h1_iles, hPL1⟩ := hq1
      have hm1 := List.mem_of_getElem? hy1
      have hlt1 := (List.getElem?_eq_some_iff.mp hy1).1
      have g1 := agreed_loop hpre.2 hrun1 hy1
      have kq1_0 : (m_agreed_step1 pone pother) s1 y1 = (Stp.go (m_agreed_v6 y1 s1 pother pone)) := rfl
      refine q_cut (M := (fun (σ2m : L2.St) (H2m : Hp) => σ2m = [some (.ref apelder), some (.ref apone), some (.ref apother), some (.ref p1_iles), some (vs (y1.getD 0 [])), some (vs (y1.getD 1 []))] ∧ Ex H H2m ∧ RX H H2m ∧ H2m p1_iles = some (.dK (kd vs (m_agreed_v6 y1 s1 pother pone))) ∧ IsLV K H2m pP1 tsP1 (List.map (List.map vs) (m_marks pelder pone pother)))) ?_ ?_
      · refine s_if (b := (decide ((y1.getD 1 []) = l_4581fc00))) (et_test (e_eqT (ev_var rfl) (ev_is (w := vs l_4581fc00) e_lit rfl))) (fun hb2 H2 e2a => ?_) (fun hb2 H2 e2a => ?_)
        · have e2 := Ex.trans e1L e2a
          have r2 := rx_of e2
          have h1_iles := e2a _ _ h1_iles
          have hPL1 := IsLV.ex hPL1 e2a
          refine s_callM (d := p1_iles) (kvs := kd vs (m_agreed_v2 s1 y1)) (ea_cons (ev_var rfl) (ea_cons (ev_var rfl) (ea_cons ev_c ea_nil))) (fun HC eC => ⟨_, s1, (y1.getD 0 []), none, rfl, eC _ _ h1_iles, (by walk_at "vside"), rfl, rfl⟩) fun H3 m3 => ?_
          have e3 := Mu.ex m3 e2 n1
          have r3 := rx_of e3
          have hPL1 := IsLV.mu hPL1 m3 (by first | exact d_pP1_p1_iles | exact Ne.symm d_p1_iles_pP1) h1_iles trivial
          have h1_iles : H3 p1_iles = some (.dK (kd vs (m_agreed_v2 s1 y1))) := Mu.at m3
          have hV2_0 : (m_agreed_v6 y1 s1 pother pone) = (m_agreed_v2 s1 y1) := if_pos hb2
          exact ⟨rfl, e3, r3, (by rw [hV2_0]; exact h1_iles), hPL1⟩
        · have e2 := Ex.trans e1L e2a
          have r2 := rx_of e2
          have h1_iles := e2a _ _ h1_iles
          have hPL1 := IsLV.ex hPL1 e2a
          refine q_cut (M := (fun (σ4m : L2.St) (H4m : Hp) => σ4m = [some (.ref apelder), some (.ref apone), some (.ref apother), some (.ref p1_iles), some (vs (y1.getD 0 [])), some (vs (y1.getD 1 []))] ∧ Ex H H4m ∧ RX H H4m ∧ H4m p1_iles = some (.dK (kd vs (m_agreed_v5 y1 s1 pother pone))) ∧ IsLV K H4m pP1 tsP1 (List.map (List.map vs) (m_marks pelder pone pother)))) ?_ ?_
          · refine s_if (b := (decide ((y1.getD 1 []) = l_d0941e68))) (et_test (e_eqT (ev_var rfl) (ev_is (w := vs l_d0941e68) e_lit rfl))) (fun hb4 H4 e4a => ?_) (fun hb4 H4 e4a => ?_)
            · have e4 := Ex.trans e2 e4a
              have r4 := rx_of e4
              have h1_iles := e4a _ _ h1_iles
              have hPL1 := IsLV.ex hPL1 e4a
              refine s_callM (d := p1_iles) (kvs := kd vs (m_agreed_v3 s1 y1 pother)) (ea_cons (ev_var rfl) (ea_cons (ev_var rfl) (ea_cons (e_get1 (l := pother) (k := (y1.getD 0 [])) (ev_var rfl) (ev_var rfl) (r4 _ _ hSpother)) ea_nil))) (fun HC eC => ⟨_, s1, (y1.getD 0 []), (dget pother (y1.getD 0 [])), rfl, eC _ _ h1_iles, (by walk_at "vside"), rfl, rfl⟩) fun H5 m5 => ?_
              have e5 := Mu.ex m5 e4 n1
              have r5 := rx_of e5
              have hPL1 := IsLV.mu hPL1 m5 (by first | exact d_pP1_p1_iles | exact Ne.symm d_p1_iles_pP1) h1_iles trivial
              have h1_iles : H5 p1_iles = some (.dK (kd vs (m_agreed_v3 s1 y1 pother))) := Mu.at m5
              have hV4_0 : (m_agreed_v5 y1 s1 pother pone) = (m_agreed_v3 s1 y1 pother) := if_pos hb4
              exact ⟨rfl, e5, r5, (by rw [hV4_0]; exact h1_iles), hPL1⟩
            · have e4 := Ex.trans e2 e4a
              have r4 := rx_of e4
              have h1_iles := e4a _ _ h1_iles
              have hPL1 := IsLV.ex hPL1 e4a
              refine s_callM (d := p1_iles) (kvs := kd vs (m_agreed_v4 s1 y1 pone)) (ea_cons (ev_var rfl) (ea_cons (ev_var rfl) (ea_cons (e_get1 (l := pone) (k := (y1.getD 0 [])) (ev_var rfl) (ev_var rfl) (r4 _ _ hSpone)) ea_nil))) (fun HC eC => ⟨_, s1, (y1.getD 0 []), (dget pone (y1.getD 0 [])), rfl, eC _ _ h1_iles, (by walk_at "vside"), rfl, rfl⟩) fun H6 m6 => ?_
              have e6 := Mu.ex m6 e4 n1
              have r6 := rx_of e6
              have hPL1 := IsLV.mu hPL1 m6 (by first | exact d_pP1_p1_iles | exact Ne.symm d_p1_iles_pP1) h1_iles trivial
              have h1_iles : H6 p1_iles = some (.dK (kd vs (m_agreed_v4 s1 y1 pone))) := Mu.at m6
              have hV4_0 : (m_agreed_v5 y1 s1 pother pone) = (m_agreed_v4 s1 y1 pone) := if_neg (by rw [hb4]; exact Bool.false_ne_true)
              exact ⟨rfl, e6, r6, (by rw [hV4_0]; exact h1_iles), hPL1⟩
          · intro σ4m H4m hq4m
            obtain ⟨rfl, e4m, r4m, h1_iles, hPL1⟩ := hq4m
            have hV2_0 : (m_agreed_v6 y1 s1 pother pone) = (m_agreed_v5 y1 s1 pother pone) := if_neg (by rw [hb2]; exact Bool.false_ne_true)
            exact ⟨rfl, e4m, r4m, (by rw [hV2_0]; exact h1_iles), hPL1⟩
      · intro σ2m H2m hq2m
        obtain ⟨rfl, e2m, r2m, h1_iles, hPL1⟩ := hq2m
        exact hnx1 (m_agreed_v6 y1 s1 pother pone) _ _ kq1_0 ⟨_, _, rfl, e2m, r2m, h1_iles, hPL1⟩
    · intro s1 σ1 H1L hr1 hq1
      obtain ⟨j1_0, j1_1, rfl, e1L, r1L, h1_iles, hPL1⟩ := hq1
      obtain rfl : (m_agreed_v7 pone pother pelder) = s1 := (outL_of hr1).symm
      exact s_ret (ev_var rfl) fun H9 e9a => k0 _ _ n1 (Ex.trans e1L e9a) (e9a _ _ h1_iles)
def sp_clashes (K : PySem.W.Frag) : Sp := spU2 K fun ws H v => ∃ (apelder : Addr) (pelder : List (Tx × Tx)) (apone : Addr) (pone : List (Tx × Tx)) (apother : Addr) (pother : List (Tx × Tx)), ws = [.ref apelder, .ref apone, .ref apother] ∧ Rd H apelder (.dK (kd vs pelder)) ∧ Rd H apone (.dK (kd vs pone)) ∧ Rd H apother (.dK (kd vs pother)) ∧ (P3 pelder pone pother) ∧ v = List.map (List.map vs) (m_clashes pelder pone pother)
theorem ok_clashes {f : Addr} {fd : FuncData} (F : Fun K "clashes" "clashes" s_clashes f fd) (z : Bt mg) (C_single_clashes : Cal P w K mg base 3 "single_clashes" ["elder", "one", "other"] (sp_single_clashes K)) (C_agreed : Cal P w K mg base 3 "agreed" ["elder", "one", "other"] (sp_agreed K)) (C_overlaps : Cal P w K mg base 2 "overlaps" ["files"] (sp_overlaps K)) : FnOk P w K mg base CX0 4 f fd ["elder", "one", "other"] (sp_clashes K) := by
  refine F.ok (k := 3) sc_clashes (fun ws H Q E h => ?_) (fun cdv A outer s H ws Q E hr h => ?_)
  · obtain ⟨_, ⟨_, _, _, _, _, _, rfl, _⟩, _⟩ := h
    rfl
  · obtain ⟨_, ⟨apelder, pelder, apone, pone, apother, pother, rfl, hSpelder, hSpone, hSpother, hpre, rfl⟩, k0⟩ := h
    obtain ⟨tk_MOST_PARTS, z_g_MOST_PARTS⟩ := z.g_MOST_PARTS
    obtain ⟨tk_MOST_SIGNS, z_g_MOST_SIGNS⟩ := z.g_MOST_SIGNS
    obtain ⟨tk_SIGNS, z_g_SIGNS⟩ := z.g_SIGNS
    have hl := hpre.2
    have gs := single_len hpre.2
    have gao := agreed_ok hpre
    have gov := over_len gao
    refine ⟨_, (pss_cons (ps_setLc (i := 3) (own := [("path", 4)]) (g := gName 4) (tt := tYes) rfl sc_clashes.nd rfl rfl (sw_true rfl rfl rfl (by decide +kernel)) (pi_listK K (pe_cal C_single_clashes (hr.mono (by decide)) (by rfl) (pa_cons (pv 0) (pa_cons (pv 1) (pa_cons (pv 2) pa_nil))))) (blkOk_by (own := [("path", 4)]) (N := ["elder", "one", "other", "singles", "path"]) (sc := defScope s_clashes) (by decide +kernel)) (fun _ _ _ _ _ => pg_name (i := 4) sc_clashes.nd rfl (Or.inl rfl)) (fun _ _ _ _ _ => pts_nil) (fun _ _ _ _ _ => (pe_tup (pa_cons (pv 4) pa_nil))))
      (pss_one (ps_ret (pe_callB call_srtU (by rfl) z.z_sorted (by decide +kernel) (pa_cons (pe_op op_cat (pv 3) (pe_cal C_overlaps (hr.mono (by decide)) (by rfl) (pa_cons (pe_cal C_agreed (hr.mono (by decide)) (by rfl) (pa_cons (pv 0) (pa_cons (pv 1) (pa_cons (pv 2) pa_nil)))) pa_nil))) pa_nil))))), ?_⟩
    refine q_asgU2 (K := K) (l := (List.map (List.map vs) (m_clashes_v1 pelder pone pother))) (eu2_is (eu2_is (u_mapN (K := K) (f := vs) (m := (m_single_clashes pelder pone pother)) (fun k0 => List.map vs [k0]) [] (el_call (ea_cons (ev_var rfl) (ea_cons (ev_var rfl) (ea_cons (ev_var rfl) ea_nil))) (sl_of fun HC eC => ⟨_, _, _, _, _, _, rfl, ex_rd eC ((RX.refl H) _ _ hSpelder), ex_rd eC ((RX.refl H) _ _ hSpone), ex_rd eC ((RX.refl H) _ _ hSpother), (by walk_at "vside"), rfl⟩)) (by walk_at "vside") (fun k0 hm => (eu_tup (ea_cons (ev_var rfl) ea_nil) (by simp)))) (List.map_map (g := List.map vs) (f := (fun k0 : Tx => [k0])) (l := (m_single_clashes pelder pone pother))).symm) rfl) fun p1_ingles H1 n1a e1a h1_ingles => ?_
    have n1 := fresh_back (Ex.refl H) n1a
    have e1 := Ex.trans (Ex.refl H) e1a
    have r1 := rx_of e1
    have fm_clashes_v1 : List.length (m_clashes_v1 pelder pone pother) = List.length (((m_single_clashes pelder pone pother).map (fun k0 : Tx => [k0]))) := rfl
    exact s_retU2 (u_srt (l := ((m_clashes_v1 pelder pone pother) ++ (m_overlaps (m_agreed pelder pone pother)))) (eu2_is (u2_cat (l := (List.map (List.map vs) (m_clashes_v1 pelder pone pother))) (l2 := (List.map (List.map vs) (m_overlaps (m_agreed pelder pone pother)))) (ev_var rfl) h1_ingles (u_callA (ax_k (ek_call (ea_cons (ev_var rfl) (ea_cons (ev_var rfl) (ea_cons (ev_var rfl) ea_nil))) (sk_of fun HC eC => ⟨_, _, _, _, _, _, rfl, ex_rd eC (r1 _ _ hSpelder), ex_rd eC (r1 _ _ hSpone), ex_rd eC (r1 _ _ hSpother), (by walk_at "vside"), rfl⟩)) ax_nil) (fun ws HC eC hP => by obtain ⟨pA0, _, rfl, hA0, rfl⟩ := hP; exact ⟨_, _, rfl, (Or.inl hA0), (by walk_at "vside"), rfl⟩)) (by simp only [List.length_map]; walk_at "vside")) List.map_append.symm) clashes_ne (by walk_at "vside")) fun pR H2 nR e2a hR => RetU2.go k0 e1 nR e2a hR
def rp_joined : List (Tx × Tx) → Hp → VK → Prop := fun a H Q => RetK (kd vs a) H Q
def R_joined (K : PySem.W.Frag) : List V → Hp → Res (List (Tx × Tx)) → Prop := fun ws H r => ∃ (apelder : Addr) (pelder : List (Tx × Tx)) (apone : Addr) (pone : List (Tx × Tx)) (apother : Addr) (pother : List (Tx × Tx)) (appicks : Addr) (ppicks : List (Tx × Option Tx)), ws = [.ref apelder, .ref apone, .ref apother, .ref appicks] ∧ Rd H apelder (.dK (kd vs pelder)) ∧ Rd H apone (.dK (kd vs pone)) ∧ Rd H apother (.dK (kd vs pother)) ∧ Rd H appicks (.dK (kd vo ppicks)) ∧ (P4 pelder pone pother ∧ okPicks ppicks) ∧ r = (m_joined pelder pone pother ppicks)
def sp_joined (K : PySem.W.Frag) (Cs : Nat → Addr) : Sp := spX Cs rp_joined (R_joined K)
theorem ok_joined {f : Addr} {fd : FuncData} {Cs : Nat → Addr} (G : EG mg Cs) (F : Fun K "joined" "joined" s_joined f fd) (z : Bt mg) (C_clashes : Cal P w K mg base 4 "clashes" ["elder", "one", "other"] (sp_clashes K)) (C_single_clashes : Cal P w K mg base 3 "single_clashes" ["elder", "one", "other"] (sp_single_clashes K)) (C_agreed : Cal P w K mg base 3 "agreed" ["elder", "one", "other"] (sp_agreed K)) (C_settle : Cal P w K mg base 1 "settle" ["files", "path", "text"] (sp_settle K)) (C_overlaps : Cal P w K mg base 2 "overlaps" ["files"] (sp_overlaps K)) (R4 : ErrR K Cs 4) (R5 : ErrR K Cs 5) : FnOk P w K mg base (L2N.CX P w) 5 f fd ["elder", "one", "other", "picks"] (sp_joined K Cs) := by
  refine okN F (k := 4) sc_joined (fun ws H Q E h => ?_) (fun cdv A outer s H ws Q E hr h => ?_)
  · obtain ⟨_, ⟨_, _, _, _, _, _, _, _, rfl, _⟩, _⟩ := h
    rfl
  · obtain ⟨_, ⟨apelder, pelder, apone, pone, apother, pother, appicks, ppicks, rfl, hSpelder, hSpone, hSpother, hSppicks, hpre, rfl⟩, k0⟩ := h
    obtain ⟨tk_MOST_PARTS, z_g_MOST_PARTS⟩ := z.g_MOST_PARTS
    obtain ⟨tk_MOST_SIGNS, z_g_MOST_SIGNS⟩ := z.g_MOST_SIGNS
    obtain ⟨tk_SIGNS, z_g_SIGNS⟩ := z.g_SIGNS
    have hp3 := hpre.1.1
    have hl := hpre.1.1.2
    have hcl := clashing_len hpre.1.1
    have hjo := jv4_over hpre.1 hpre.2
    have hjk := jv4_okT hpre.1 hpre.2
    refine ⟨_, (pss_cons (ps_setLc2 (i := 4) (own := [("clash", 8), ("path", 5)]) (vs1 := [5]) (g := gName 8) (g1 := gName 5) (tt := tYes) (tt1 := tYes) rfl sc_joined.nd rfl rfl (sw_true rfl rfl rfl (by decide +kernel)) (pi_listK K (pe_cal C_clashes (hr.mono (by decide)) (by rfl) (pa_cons (pv 0) (pa_cons (pv 1) (pa_cons (pv 2) pa_nil))))) (blkOk_by (own := [("clash", 8), ("path", 5)]) (N := ["elder", "one", "other", "picks", "clashing", "path", "files", "text", "clash"]) (sc := defScope s_joined) (by decide +kernel)) (by decide) (fun _ _ _ _ _ => pg_name (i := 8) sc_joined.nd rfl (Or.inl rfl)) (fun _ _ _ _ _ => pts_nil) (fun _ _ _ _ _ => (pi_tupK K (pv 8))) (fun _ _ _ _ _ => pg_name (i := 5) sc_joined.nd rfl (Or.inl rfl)) (fun _ _ _ _ _ => pts_nil) (fun _ _ _ _ _ => (pv 5)))
      (pss_cons (ps_may (ps_for PassesOwn.leaving rfl (pi_keys (pv 3)) (pg_name (i := 5) sc_joined.nd rfl (Or.inl rfl))
      (pss_one (ps_if (pt_cmpR (op_niK K) (pv 5) (pv 4) (by rfl)) (pss_one (L2N.ps_raise rfl (takes_un (L2N.takes_of rfl rfl rfl rfl)) (pmk_any PySem.F.excBase_ValueError R4.x G.g4 R4.kp (raises_own R4.b R4.t) (by exact rfl) (pe_joined (PJ.cons pe_str (PJ.cons (pe_fmt (pv 5)) PJ.nil)))))) pss_nil))))
      (pss_cons (ps_for PassesOwn.leaving rfl (pi_listK K (pe_cal C_single_clashes (hr.mono (by decide)) (by rfl) (pa_cons (pv 0) (pa_cons (pv 1) (pa_cons (pv 2) pa_nil))))) (pg_name (i := 5) sc_joined.nd rfl (Or.inl rfl))
      (pss_one (ps_if (pt_cmp (pc_dnotin (hu_of hr) (pv 5) (pv 3))) (pss_one (L2N.ps_raise rfl (L2N.takes_of rfl rfl rfl rfl) (pmk_any PySem.F.excBase_ValueError R5.x G.g5 R5.kp (raises_own R5.b R5.t) (by exact rfl) (pe_joined (PJ.cons pe_str (PJ.cons (pe_fmt (pv 5)) PJ.nil)))))) pss_nil)))
      (pss_cons (ps_set (i := 6) sc_joined.nd rfl (Or.inl rfl) (pe_cal C_agreed (hr.mono (by decide)) (by rfl) (pa_cons (pv 0) (pa_cons (pv 1) (pa_cons (pv 2) pa_nil)))))
      (pss_cons (ps_may (ps_for PassesOwn.leaving rfl (pi_items (pv 3)) (pg_tupK K rfl (pgs_cons (pg_name (i := 5) sc_joined.nd rfl (Or.inl rfl)) (pgs_cons (pg_name (i := 7) sc_joined.nd rfl (Or.inl rfl)) pgs_nil)))
      (pss_one (ps_expr (pe_cal C_settle (hr.mono (by decide)) (by rfl) (pa_cons (pv 6) (pa_cons (pv 5) (pa_cons (pv 7) pa_nil))))))))
      (pss_cons (ps_if (pt_cmpR (op_neDK K hr.units) (pe_cal C_overlaps (hr.mono (by decide)) (by rfl) (pa_cons (pv 6) pa_nil)) (pe_lst pa_nil) (nomark _)) (pss_one (L2N.ps_raise rfl (L2N.takes_of rfl rfl rfl rfl) (L2N.pmk_own PySem.F.excBase_ValueError R5.x G.g5 R5.kp (raises_own R5.b R5.t) (by exact rfl)))) pss_nil)
      (pss_one (ps_ret (pv 6))))))))), ?_⟩
    refine q_asgL (xs := List.map vs (m_joined_v1 pelder pone pother)) (el_is (l_flatU (l := (m_clashes pelder pone pother)) (eu2_call (ea_cons (ev_var rfl) (ea_cons (ev_var rfl) (ea_cons (ev_var rfl) ea_nil))) (su2_of fun HC eC => ⟨_, _, _, _, _, _, rfl, ex_rd eC ((RX.refl H) _ _ hSpelder), ex_rd eC ((RX.refl H) _ _ hSpone), ex_rd eC ((RX.refl H) _ _ hSpother), (by walk_at "vside"), rfl⟩)) (by walk_at "vside") (fun _ _ => ev_var rfl) (fun _ _ _ => ev_var rfl)) rfl) fun p1_lashing H1 n1a e1a h1_lashing => ?_
    have n1 := fresh_back (Ex.refl H) n1a
    have e1 := Ex.trans (Ex.refl H) e1a
    have r1 := rx_of e1
    have fm_joined_v1 : List.length (m_joined_v1 pelder pone pother) = List.length (((m_clashes pelder pone pother)).flatten) := rfl
    refine q_loopK (R := (Res (List (Tx × Tx)))) (f := vo) (l := ppicks) (m_joined_step1 pelder pone pother) () (fun U1 o1 => (fun (s1 : Unit) (σ1 : L2.St) (H1L : Hp) => ∃ (j1_0 : Option V), σ1 = [some (.ref apelder), some (.ref apone), some (.ref apother), some (.ref appicks), some (.ref p1_lashing), j1_0, none, none, none] ∧ Ex H (unl [(appicks, U1)] H1L) ∧ RX H H1L ∧ H1L appicks = some (.frz o1 (.dK (kd vo ppicks))) ∧ H1L p1_lashing = some (.lst (List.map vs (m_joined_v1 pelder pone pother))))) rfl (r1 _ _ hSppicks) (fun U1 o1 hU1 hUd1 => ?_) (fun U1 o1 s σ H hq => by obtain ⟨j1_0, rfl, e1L, r1L, hW1, h1_lashing⟩ := hq; exact hW1) (fun U1 o1 Rt1 hU1 hUd1 hRt1 => ?_) (fun U1 o1 s1 σ1 H1L hU1 hUd1 hr1 hq1 => ?_)
    · exact ⟨_, rfl, unl_lock (ls := []) e1 hU1, rx_may r1 hU1 hUd1, upd_same, upd_keep (Ne.symm (ne_rdn hSppicks n1)) h1_lashing⟩
    · intro Nx1 Bk1 i1 s1 y1 σ1 H1L hy1 hrun1 hq1 hnx1 hbk1 hrt1
      obtain ⟨j1_0, rfl, e1L, r1L, hW1, h1_lashing⟩ := hq1
      have hm1 := List.mem_of_getElem? hy1
      have hlt1 := (List.getElem?_eq_some_iff.mp hy1).1
      have g1 := (hpre.2.2 y1 hm1).1.1
      have kq1_0 : (m_joined_step1 pelder pone pother) s1 y1 = (if (!decide (y1 ∈ (m_joined_v1 pelder pone pother))) = true then (Stp.ret (.exc 4)) else (Stp.go ())) := rfl
      refine s_when (b := (!decide (y1 ∈ (m_joined_v1 pelder pone pother)))) (et_test (e_niR (l := (m_joined_v1 pelder pone pother)) (ev_var rfl) (ev_var rfl) (sq_of h1_lashing))) (fun hb2 H2 e2a => ?_) (fun hb2 H2 e2a => ?_)
      · have e2 := unl_grow (ls := [(appicks, U1)]) e1L e2a
        have r2 := RX.trans r1L (rx_of e2a)
        have hW1 := e2a _ _ hW1
        have h1_lashing := e2a _ _ h1_lashing
        have kq1_1 := kq_T kq1_0 hb2
        have kr1 := hrt1 _ kq1_1
        exact x_msg (s := "no clash at ") (p := y1) (ev_var rfl) (by rw [show (tx "no clash at ").length = 12 by decide +kernel]; walk_at "vside") fun HX eX => exc_may (B := fun HB => E (.ref (Cs 4)) none HB) e1 hU1 hUd1 (eX _ _ hW1) (unl_grow (ls := [(appicks, U1)]) e2 eX) fun H2 e2 => PX.exc (retX_run k0 kr1) e2
      · have e2 := unl_grow (ls := [(appicks, U1)]) e1L e2a
        have r2 := RX.trans r1L (rx_of e2a)
        have hW1 := e2a _ _ hW1
        have h1_lashing := e2a _ _ h1_lashing
        have kq1_2 := kq_F kq1_0 hb2
        exact hnx1 () _ _ kq1_2 ⟨_, rfl, e2, r2, hW1, h1_lashing⟩
    · obtain ⟨j1_0, rfl, e1L, r1L, hW1, h1_lashing⟩ := hq1
      have h1_lashing := upd_keep (u := U1) (Ne.symm (ne_rdn hSppicks n1)) h1_lashing
      have e1L := unl_open (ls := []) e1L
      have r1L := rx_of e1L
      have k2r := retX_go k0 hr1
      refine q_loopN (R := (Res (List (Tx × Tx)))) (f := vs) (l := (m_single_clashes pelder pone pother)) (m_joined_step2 ppicks) () (fun pN2 => (fun (s2 : Unit) (σ2 : L2.St) (H2L : Hp) => ∃ (j2_0 : Option V), σ2 = [some (.ref apelder), some (.ref apone), some (.ref apother), some (.ref appicks), some (.ref p1_lashing), j2_0, none, none, none] ∧ Ex H H2L ∧ RX H H2L ∧ H2L p1_lashing = some (.lst (List.map vs (m_joined_v1 pelder pone pother))) ∧ H2L pN2 = some (.lst (List.map vs (m_single_clashes pelder pone pother))))) (el_call (ea_cons (ev_var rfl) (ea_cons (ev_var rfl) (ea_cons (ev_var rfl) ea_nil))) (sl_of fun HC eC => ⟨_, _, _, _, _, _, rfl, ex_rd eC (r1L _ _ hSpelder), ex_rd eC (r1L _ _ hSpone), ex_rd eC (r1L _ _ hSpother), (by walk_at "vside"), rfl⟩)) (fun pN2 H6 nN2 e6a hN2 => ⟨_, rfl, (Ex.trans e1L e6a), (rx_of (Ex.trans e1L e6a)), e6a _ _ h1_lashing, hN2⟩) (fun pN2 s σ H hq => by obtain ⟨j2_0, rfl, e2L, r2L, h1_lashing, hNL2⟩ := hq; exact sq_of hNL2) (fun pN2 nNa2 => ?_) (fun pN2 nNa2 => ?_)
      · have nN2 := rx_free r1L nNa2
        have d_p1_lashing_pN2 := ne_of_none h1_lashing nNa2
        intro Nx2 Bk2 i2 s2 y2 σ2 H2L hy2 hrun2 hq2 hnx2 hbk2 hrt2
        obtain ⟨j2_0, rfl, e2L, r2L, h1_lashing, hNL2⟩ := hq2
        have hm2 := List.mem_of_getElem? hy2
        have hlt2 := (List.getElem?_eq_some_iff.mp hy2).1
        have g2 := single_short hpre.1 hm2
        have kq2_0 : (m_joined_step2 ppicks) s2 y2 = (if (!dhas ppicks y2) = true then (Stp.ret (.exc 5)) else (Stp.go ())) := rfl
        refine s_when (b := (!dhas ppicks y2)) (et_B (e_niD (f := vo) (l := ppicks) (k := y2) (ev_var rfl) (ev_var rfl) (r2L _ _ hSppicks))) (fun hb5 H5 e5a => ?_) (fun hb5 H5 e5a => ?_)
        · have e5 := Ex.trans e2L e5a
          have r5 := rx_of e5
          have h1_lashing := e5a _ _ h1_lashing
          have hNL2 := e5a _ _ hNL2
          have kq2_1 := kq_T kq2_0 hb5
          have kr2 := hrt2 _ kq2_1
          exact x_msg (s := "no pick for ") (p := y2) (ev_var rfl) (by rw [show (tx "no pick for ").length = 12 by decide +kernel]; walk_at "vside") fun HX eX => PX.exc (retX_run k2r kr2) (Ex.trans e5 eX)
        · have e5 := Ex.trans e2L e5a
          have r5 := rx_of e5
          have h1_lashing := e5a _ _ h1_lashing
          have hNL2 := e5a _ _ hNL2
          have kq2_2 := kq_F kq2_0 hb5
          exact hnx2 () _ _ kq2_2 ⟨_, rfl, e5, r5, h1_lashing, hNL2⟩
      · intro s2 σ2 H2L hr2 hq2
        obtain ⟨j2_0, rfl, e2L, r2L, h1_lashing, hNL2⟩ := hq2
        have k4r := retX_go k2r hr2
        refine q_asgK (kvs := kd vs (m_joined_v2 pelder pone pother)) (ek_is (ek_call (ea_cons (ev_var rfl) (ea_cons (ev_var rfl) (ea_cons (ev_var rfl) ea_nil))) (sk_of fun HC eC => ⟨_, _, _, _, _, _, rfl, ex_rd eC (r2L _ _ hSpelder), ex_rd eC (r2L _ _ hSpone), ex_rd eC (r2L _ _ hSpother), (by walk_at "vside"), rfl⟩)) rfl) fun p8_iles H8 n8a e8a h8_iles => ?_
        have n8 := fresh_back e2L n8a
        have d_p1_lashing_p8_iles := ne_of_none h1_lashing n8a
        have e8 := Ex.trans e2L e8a
        have r8 := rx_of e8
        have h1_lashing := e8a _ _ h1_lashing
        refine q_loopI (K := K) (R := Unit) (f := vo) (l := ppicks) m_joined_step3 (m_joined_v2 pelder pone pother) (fun U3 o3 => (fun (s3 : List (Tx × Tx)) (σ3 : L2.St) (H3L : Hp) => ∃ (j3_0 j3_1 : Option V), σ3 = [some (.ref apelder), some (.ref apone), some (.ref apother), some (.ref appicks), some (.ref p1_lashing), j3_0, some (.ref p8_iles), j3_1, none] ∧ Ex H (unl [(appicks, U3)] H3L) ∧ RX H H3L ∧ H3L appicks = some (.frz o3 (.dK (kd vo ppicks))) ∧ H3L p1_lashing = some (.lst (List.map vs (m_joined_v1 pelder pone pother))) ∧ H3L p8_iles = some (.dK (kd vs s3)))) rfl (r8 _ _ hSppicks) (fun U3 o3 hU3 hUd3 => ?_) (fun U3 o3 s σ H hq => by obtain ⟨j3_0, j3_1, rfl, e3L, r3L, hW3, h1_lashing, h8_iles⟩ := hq; exact hW3) (fun U3 o3 s σ H1g H2g hq eg => by obtain ⟨j3_0, j3_1, rfl, e3L, r3L, hW3, h1_lashing, h8_iles⟩ := hq; exact ⟨_, _, rfl, unl_grow (ls := [(appicks, U3)]) e3L eg, RX.trans r3L (rx_of eg), eg _ _ hW3, eg _ _ h1_lashing, eg _ _ h8_iles⟩) (fun U3 o3 Rt3 hU3 hUd3 hRt3 => ?_) (fun U3 o3 s3 σ3 H3L hU3 hUd3 hr3 hq3 => ?_)
        · exact ⟨_, _, rfl, unl_lock (ls := []) e8 hU3, rx_may r8 hU3 hUd3, upd_same, upd_keep (Ne.symm (ne_rdn hSppicks n1)) h1_lashing, upd_keep (Ne.symm (ne_rdn hSppicks n8)) h8_iles⟩
        · intro Nx3 Bk3 i3 s3 y3 σ3 H3L hy3 hrun3 hq3 hnx3 hbk3 hrt3
          obtain ⟨j3_0, j3_1, rfl, e3L, r3L, hW3, h1_lashing, h8_iles⟩ := hq3
          have hm3 := List.mem_of_getElem? hy3
          have hlt3 := (List.getElem?_eq_some_iff.mp hy3).1
          have g3 := jloop hpre.1 hpre.2 hrun3 hy3
          have kq3_0 : m_joined_step3 s3 y3 = (Stp.go (m_joined_v3 s3 y3)) := rfl
          refine s_callM (d := p8_iles) (kvs := kd vs (m_joined_v3 s3 y3)) (ea_cons (ev_var rfl) (ea_cons (ev_var rfl) (ea_cons (ev_var rfl) ea_nil))) (fun HC eC => ⟨_, s3, y3.1, y3.2, rfl, eC _ _ h8_iles, (by walk_at "vside"), rfl, rfl⟩) fun H9 m9 => ?_
          have e9 := Mu.unl (ls := [(appicks, U3)]) m9 e3L n8
          have r9 := Mu.rx m9 r3L n8
          have hW3 := Mu.keep m9 (ne_rdn hSppicks n8) hW3
          have h1_lashing := Mu.keep m9 (by first | exact d_p1_lashing_p8_iles | exact Ne.symm d_p8_iles_p1_lashing) h1_lashing
          have h8_iles : H9 p8_iles = some (.dK (kd vs (m_joined_v3 s3 y3))) := Mu.at m9
          exact hnx3 (m_joined_v3 s3 y3) _ _ kq3_0 ⟨_, _, rfl, e9, r9, hW3, h1_lashing, h8_iles⟩
        · obtain ⟨j3_0, j3_1, rfl, e3L, r3L, hW3, h1_lashing, h8_iles⟩ := hq3
          have h1_lashing := upd_keep (u := U3) (Ne.symm (ne_rdn hSppicks n1)) h1_lashing
          have h8_iles := upd_keep (u := U3) (Ne.symm (ne_rdn hSppicks n8)) h8_iles
          have e3L := unl_open (ls := []) e3L
          have r3L := rx_of e3L
          obtain rfl : (m_joined_v4 ppicks pelder pone pother) = s3 := (outL_of hr3).symm
          refine q_when (b := (!decide ((m_overlaps (m_joined_v4 ppicks pelder pone pother)) = []))) (et_test (e_neNil (l := (m_overlaps (m_joined_v4 ppicks pelder pone pother))) (eu2_call (ea_cons (ev_var rfl) ea_nil) (su2_of fun HC eC => ⟨_, _, rfl, ex_rd eC (Or.inl h8_iles), (by walk_at "vside"), rfl⟩)) (el_lst ea_nil (by decide)) (by walk_at "vside"))) (fun hb12 H12 e12a => ?_) (fun hb12 H12 e12a => ?_)
          · have e12 := Ex.trans e3L e12a
            have r12 := rx_of e12
            have h1_lashing := e12a _ _ h1_lashing
            have h8_iles := e12a _ _ h8_iles
            have k5a := retX_T k4r hb12
            exact PX.exc k5a e12
          · have e12 := Ex.trans e3L e12a
            have r12 := rx_of e12
            have h1_lashing := e12a _ _ h1_lashing
            have h8_iles := e12a _ _ h8_iles
            have k6b := retX_F k4r hb12
            exact s_ret (ev_var rfl) fun H13 e13a => (PX.ret k6b) _ _ n8 (Ex.trans e12 e13a) (e13a _ _ h8_iles)
theorem okB_init {f : Addr} {fd : FuncData} {C : Addr} (Tb : BkT K mg C) (F : Fun K "__init__" "Book.__init__" sB_init f fd) (z : Bt mg) : FnOk P w K mg base CX0 1 f fd ["self"] (spInit K C) := by
  refine F.ok (k := 0) scB_init (fun ws H Q E h => ?_) (fun cdv A outer s H ws Q E hr h => ?_)
  · obtain ⟨_, _, rfl, _⟩ := h
    rfl
  · obtain ⟨p, dx, rfl, hp, k⟩ := h
    exact ⟨_, (pss_cons (ps_fldK (K := K) (pv 0) (pe_lst (pa_cons pe_dnewK pa_nil))) (pss_one (ps_freeze (ps_fldK (K := K) (pv 0) (pe_lst (pa_cons (pe_tup pa_nil) pa_nil)))))), init_read Tb rfl hp k⟩
def spB_check (K : PySem.W.Frag) (C : Addr) : Sp := spP fun ws H v => ∃ (apself apselft apselfp : Addr) (pselfT : List (List (Tx × Tx))) (pselfP : List (List Int)) (pnumber : Int), ws = [.ref apself, V.int pnumber] ∧ (BkR K C H apself apselft apselfp pselfT pselfP) ∧ ((0 ≤ pnumber ∧ pnumber < (pselfT.length : Int))) ∧ v = nonV (mB_check pselfT pselfP pnumber)
theorem okB_check {f : Addr} {fd : FuncData} {C : Addr} (Tb : BkT K mg C) (F : Fun K "_check" "Book._check" sB_check f fd) (z : Bt mg)  : FnOk P w K mg base CX0 1 f fd ["self", "number"] (spB_check K C) := by
  refine F.ok (k := 0) scB_check (fun ws H Q E h => ?_) (fun cdv A outer s H ws Q E hr h => ?_)
  · obtain ⟨_, ⟨_, _, _, _, _, _, rfl, _⟩, _⟩ := h
    rfl
  · obtain ⟨_, ⟨apself, apselft, apselfp, pselfT, pselfP, pnumber, rfl, hSpself, hpre, rfl⟩, k0⟩ := h
    obtain ⟨tk_MOST_PARTS, z_g_MOST_PARTS⟩ := z.g_MOST_PARTS
    obtain ⟨tk_MOST_SIGNS, z_g_MOST_SIGNS⟩ := z.g_MOST_SIGNS
    obtain ⟨tk_SIGNS, z_g_SIGNS⟩ := z.g_SIGNS
    refine ⟨_, (pss_one (ps_if (PW.pt (pw_or (pt_val (pe_callB (call_isiK' K) (by rfl) z.z_isinstance (by decide +kernel) (pa_cons (pv 1) (pa_cons (pe_bltn (v := .ty "bool") (by rfl) z.z_bool (by decide +kernel) rfl) pa_nil)))) (pw_or1 (pt_not (pt_chain op_le op_lt pe_int (pv 1) (pe_callB (call_lenK K) (by rfl) z.z_len PySem.boot_len (pa_cons (pe_fldK (K := K) (pv 0)) pa_nil))))))) (pss_one ps_dead) pss_nil)), ?_⟩
    refine s_when (b := (false || (!(decide ((0 : Int) ≤ pnumber) && decide (pnumber < (pselfT.length : Int)))))) (et_or (et_B (e_isi (ev_var rfl) ev_c (.ty _) (fun _ _ => TyX.base (TyOf.int _)) (kit_ty (by decide +kernel)))) (fun hc => (et_not (et_test (e_chain ev_c (ev_var rfl) (e_lenLD (e_fldT Tb (ev_var rfl) (BkR.ex hSpself (Ex.refl H)).1) (BkR.ex hSpself (Ex.refl H)).2.1) (fun _ _ => rv_I0) (fun _ _ => rv_I0)))))) (fun hb1 H1 e1a => ?_) (fun hb1 H1 e1a => ?_)
    · have e1 := Ex.trans (Ex.refl H) e1a
      have r1 := rx_of e1
      have k1a := ret_T k0 hb1
      exact False.elim (by simp at *; omega)
    · have e1 := Ex.trans (Ex.refl H) e1a
      have r1 := rx_of e1
      have k2b := ret_F k0 hb1
      exact RetV.go k2b e1
abbrev spB_keep (K : PySem.W.Frag) (C : Addr) : Sp := spKeep K C
theorem okB_keep {f : Addr} {fd : FuncData} {C : Addr} (Tb : BkT K mg C) (F : Fun K "_keep" "Book._keep" sB_keep f fd) (z : Bt mg) : FnOk P w K mg base CX0 1 f fd ["self", "parents", "files"] (spB_keep K C) := by
  refine F.ok (k := 0) scB_keep (fun ws H Q E h => ?_) (fun cdv A outer s H ws Q E hr h => ?_)
  · obtain ⟨_, _, _, _, _, _, _, _, _, rfl, _⟩ := h
    rfl
  · obtain ⟨b, bt, bp, pa, d, T, Pl, ps, l, rfl, hb, hp, hd, hz, k⟩ := h
    exact ⟨_, (pss_cons (ps_freeze (ps_expr (pe_bm PySem.F.plainAttrs_list PySem.F.slot_list_append PySem.F.type_list_append mt_append (pe_fldK (K := K) (pv 0)) (pa_cons (pv 2) pa_nil)))) (pss_cons (ps_expr (pe_bm PySem.F.plainAttrs_list PySem.F.slot_list_append PySem.F.type_list_append mt_append (pe_fldK (K := K) (pv 0)) (pa_cons (pv 1) pa_nil))) (pss_one (ps_ret (pe_op op_sub (pe_callB (call_lenK K) (by rfl) z.z_len PySem.boot_len (pa_cons (pe_fldK (K := K) (pv 0)) pa_nil)) pe_int))))), keep_read Tb rfl rfl rfl hb hp hd hz k⟩
def spB_has_changed (K : PySem.W.Frag) (C : Addr) : Sp := spP fun ws H v => ∃ (apself apselft apselfp : Addr) (pselfT : List (List (Tx × Tx))) (pselfP : List (List Int)) (pnumber : Int) (ppath : Tx), ws = [.ref apself, V.int pnumber, vs ppath] ∧ (BkR K C H apself apselft apselfp pselfT pselfP) ∧ (OkB pselfT pselfP ∧ (0 ≤ pnumber ∧ pnumber < (pselfT.length : Int))) ∧ v = V.bl (mB_has_changed pselfT pselfP pnumber ppath)
theorem okB_has_changed {f : Addr} {fd : FuncData} {C : Addr} (Tb : BkT K mg C) (F : Fun K "_has_changed" "Book._has_changed" sB_has_changed f fd) (z : Bt mg)  : FnOk P w K mg base CX0 1 f fd ["self", "number", "path"] (spB_has_changed K C) := by
  refine F.ok (k := 0) scB_has_changed (fun ws H Q E h => ?_) (fun cdv A outer s H ws Q E hr h => ?_)
  · obtain ⟨_, ⟨_, _, _, _, _, _, _, rfl, _⟩, _⟩ := h
    rfl
  · obtain ⟨_, ⟨apself, apselft, apselfp, pselfT, pselfP, pnumber, ppath, rfl, hSpself, hpre, rfl⟩, k0⟩ := h
    obtain ⟨tk_MOST_PARTS, z_g_MOST_PARTS⟩ := z.g_MOST_PARTS
    obtain ⟨tk_MOST_SIGNS, z_g_MOST_SIGNS⟩ := z.g_MOST_SIGNS
    obtain ⟨tk_SIGNS, z_g_SIGNS⟩ := z.g_SIGNS
    have hok := hpre.1
    have hol := hok.len
    have hob := hok.big
    have hin := hpre.2
    have hfw := hok.few pnumber.toNat
    refine ⟨_, (pss_cons (ps_set (i := 3) scB_has_changed.nd rfl (Or.inl rfl) (pe_ix (ix_listK K) (pe_fldK (K := K) (pv 0)) (pv 1) (fun _ _ => rfl)))
      (pss_cons (ps_set (i := 4) scB_has_changed.nd rfl (Or.inr rfl) (pe_dget1 (hu_of hr) (pe_ix (ix_listK K) (pe_fldK (K := K) (pv 0)) (pv 1) (fun _ _ => rfl)) (pv 2) ⟨rfl, rfl, rfl, rfl⟩))
      (pss_one (ps_ret (pe_and (pe_cmpR op_gt (pe_callB (call_lenK K) (by rfl) z.z_len PySem.boot_len (pa_cons (pv 3) pa_nil)) pe_int (nomark _)) (pe_one (pe_callB (cr_allK K rfl) (by rfl) z.z_all (by decide +kernel) (pa_cons (pe_lc (own := [("parent", 5)]) (g := gName 5) (tt := tYes) rfl scB_has_changed.nd (pi_tupK K (pv 3)) (blkOk_by (own := [("parent", 5)]) (N := ["self", "number", "path", "parents", "text", "parent"]) (sc := defScope sB_has_changed) (by decide +kernel)) (fun _ _ _ _ _ => pg_name (i := 5) scB_has_changed.nd rfl (Or.inl rfl)) (fun _ _ _ _ _ => pts_nil) (fun _ _ _ _ _ => (pe_cmpR op_ne (pe_dget1 (hu_of hr) (pe_ix (ix_listK K) (pe_fldK (K := K) (pv 0)) (pv 5) (fun _ _ => rfl)) (pv 2) ⟨rfl, rfl, rfl, rfl⟩) (pv 4) (nomark _)))) pa_nil)))))))), ?_⟩
    refine q_asgTu (K := K) (xs := List.map V.int (mB_has_changed_v1 pselfT pselfP pnumber)) (tu_is (tu_is (tu_ixR (l := List.map (List.map V.int) pselfP) (e_fldP Tb (ev_var rfl) (BkR.ex hSpself (Ex.refl H)).1) (IsLU.r (BkR.ex hSpself (Ex.refl H)).2.2) (ev_var rfl) (by simp only [List.length_map]; walk_at "vside")) (getD_mapU _ _ _)) rfl) fun p1_arents H1 e1a h1_arents => ?_
    have e1 := Ex.trans (Ex.refl H) e1a
    have r1 := rx_of e1
    have hf1 : (mB_has_changed_v1 pselfT pselfP pnumber).length ≤ 2 := hfw
    refine q_asg (v := vo (mB_has_changed_v2 pselfT pselfP pnumber ppath)) (ev_is (e_getD1 (l := (pselfT.getD pnumber.toNat [])) (k := ppath) (d_ix (K := K) (e_fldT Tb (ev_var rfl) (BkR.ex hSpself e1).1) (BkR.ex hSpself e1).2.1 (ev_var rfl) (by walk_at "vside")) (ev_var rfl)) rfl) fun H2 e2a => ?_
    have e2 := Ex.trans e1 e2a
    have r2 := rx_of e2
    have h1_arents := ex_t e2a h1_arents
    exact s_ret (ev_andV (e_gt (e_lenTu (f := V.int) (xs := (mB_has_changed_v1 pselfT pselfP pnumber)) (ev_var rfl) h1_arents) ev_c) (fun hc => (e_all (l := ((mB_has_changed_v1 pselfT pselfP pnumber).map (fun k0 : Int => (!decide ((dget (pselfT.getD k0.toNat []) ppath) = (mB_has_changed_v2 pselfT pselfP pnumber ppath)))))) (l_mapT (K := K) (f := V.int) (f2 := V.bl) 0 (fun k0 : Int => (!decide ((dget (pselfT.getD k0.toNat []) ppath) = (mB_has_changed_v2 pselfT pselfP pnumber ppath)))) (ev_var rfl) h1_arents (by walk_at "vside") (fun k0 hm => have gk := hok.at hin.1 hin.2 hm; (e_neOO (x := (dget (pselfT.getD k0.toNat []) ppath)) (y := (mB_has_changed_v2 pselfT pselfP pnumber ppath)) (e_getD1 (l := (pselfT.getD k0.toNat [])) (k := ppath) (d_ix (K := K) (e_fldT Tb (ev_var rfl) (BkR.ex hSpself e2).1) (BkR.ex hSpself e2).2.1 (ev_var rfl) (by walk_at "vside")) (ev_var rfl)) (ev_var rfl))))))) fun H3 e3a => (RetV.go k0 (Ex.trans e2 e3a))
def spB_many (K : PySem.W.Frag) (C : Addr) : Sp := spP fun ws H v => ∃ (apself apselft apselfp : Addr) (pselfT : List (List (Tx × Tx))) (pselfP : List (List Int)), ws = [.ref apself] ∧ (BkR K C H apself apselft apselfp pselfT pselfP) ∧ v = V.int (mB_many pselfT pselfP)
theorem okB_many {f : Addr} {fd : FuncData} {C : Addr} (Tb : BkT K mg C) (F : Fun K "many" "Book.many" sB_many f fd) (z : Bt mg)  : FnOk P w K mg base CX0 1 f fd ["self"] (spB_many K C) := by
  refine F.ok (k := 0) scB_many (fun ws H Q E h => ?_) (fun cdv A outer s H ws Q E hr h => ?_)
  · obtain ⟨_, ⟨_, _, _, _, _, rfl, _⟩, _⟩ := h
    rfl
  · obtain ⟨_, ⟨apself, apselft, apselfp, pselfT, pselfP, rfl, hSpself, rfl⟩, k0⟩ := h
    obtain ⟨tk_MOST_PARTS, z_g_MOST_PARTS⟩ := z.g_MOST_PARTS
    obtain ⟨tk_MOST_SIGNS, z_g_MOST_SIGNS⟩ := z.g_MOST_SIGNS
    obtain ⟨tk_SIGNS, z_g_SIGNS⟩ := z.g_SIGNS
    refine ⟨_, (pss_one (ps_ret (pe_callB (call_lenK K) (by rfl) z.z_len PySem.boot_len (pa_cons (pe_fldK (K := K) (pv 0)) pa_nil)))), ?_⟩
    exact s_ret (e_lenLD (e_fldT Tb (ev_var rfl) (BkR.ex hSpself (Ex.refl H)).1) (BkR.ex hSpself (Ex.refl H)).2.1) fun H1 e1a => (RetV.go k0 (Ex.trans (Ex.refl H) e1a))
def spB_tree (K : PySem.W.Frag) (C : Addr) : Sp := spK fun ws H v => ∃ (apself apselft apselfp : Addr) (pselfT : List (List (Tx × Tx))) (pselfP : List (List Int)) (pnumber : Int), ws = [.ref apself, V.int pnumber] ∧ (BkR K C H apself apselft apselfp pselfT pselfP) ∧ ((0 ≤ pnumber ∧ pnumber < (pselfT.length : Int))) ∧ v = kd vs (mB_tree pselfT pselfP pnumber)
theorem okB_tree {f : Addr} {fd : FuncData} {C : Addr} (Tb : BkT K mg C) (F : Fun K "tree" "Book.tree" sB_tree f fd) (z : Bt mg) (CB_check : CalM P w K mg base 1 C "_check" ["self", "number"] (spB_check K C)) : FnOk P w K mg base CX0 2 f fd ["self", "number"] (spB_tree K C) := by
  refine F.ok (k := 1) scB_tree (fun ws H Q E h => ?_) (fun cdv A outer s H ws Q E hr h => ?_)
  · obtain ⟨_, ⟨_, _, _, _, _, _, rfl, _⟩, _⟩ := h
    rfl
  · obtain ⟨_, ⟨apself, apselft, apselfp, pselfT, pselfP, pnumber, rfl, hSpself, hpre, rfl⟩, k0⟩ := h
    obtain ⟨tk_MOST_PARTS, z_g_MOST_PARTS⟩ := z.g_MOST_PARTS
    obtain ⟨tk_MOST_SIGNS, z_g_MOST_SIGNS⟩ := z.g_MOST_SIGNS
    obtain ⟨tk_SIGNS, z_g_SIGNS⟩ := z.g_SIGNS
    refine ⟨_, (pss_cons (ps_expr (pe_calM CB_check (hr.mono (by decide)) (pv 0) (pa_cons (pv 1) pa_nil)))
      (pss_one (ps_ret (pe_callTy call_dictD (by rfl) z.z_dict (by decide +kernel) (pa_cons (pe_ix (ix_listK K) (pe_fldK (K := K) (pv 0)) (pv 1) (fun _ _ => rfl)) pa_nil))))), ?_⟩
    refine q_none (ev_met (ev_var rfl) (BkR.ex hSpself (Ex.refl H)).1 (by decide +kernel) (by decide +kernel) (ev_call (ea_cons ev_k (ea_cons (ev_var rfl) ea_nil)) (sv_of fun HC eC => ⟨_, _, _, _, _, _, rfl, BkR.ex (BkR.ex hSpself (Ex.refl H)) eC, (by walk_at "vside"), rfl⟩))) fun H1 e1a => ?_
    have e1 := Ex.trans (Ex.refl H) e1a
    have r1 := rx_of e1
    exact s_retK (k_copyD (l := (pselfT.getD pnumber.toNat [])) (d_ix (K := K) (e_fldT Tb (ev_var rfl) (BkR.ex hSpself e1).1) (BkR.ex hSpself e1).2.1 (ev_var rfl) (by walk_at "vside"))) fun pR H2 nR e2a hR => RetK.go k0 e1 nR e2a hR
def spB_parents (K : PySem.W.Frag) (C : Addr) : Sp := spTu K fun ws H v => ∃ (apself apselft apselfp : Addr) (pselfT : List (List (Tx × Tx))) (pselfP : List (List Int)) (pnumber : Int), ws = [.ref apself, V.int pnumber] ∧ (BkR K C H apself apselft apselfp pselfT pselfP) ∧ (OkB pselfT pselfP ∧ (0 ≤ pnumber ∧ pnumber < (pselfT.length : Int))) ∧ v = List.map V.int (mB_parents pselfT pselfP pnumber)
theorem okB_parents {f : Addr} {fd : FuncData} {C : Addr} (Tb : BkT K mg C) (F : Fun K "parents" "Book.parents" sB_parents f fd) (z : Bt mg) (CB_check : CalM P w K mg base 1 C "_check" ["self", "number"] (spB_check K C)) : FnOk P w K mg base CX0 2 f fd ["self", "number"] (spB_parents K C) := by
  refine F.ok (k := 1) scB_parents (fun ws H Q E h => ?_) (fun cdv A outer s H ws Q E hr h => ?_)
  · obtain ⟨_, ⟨_, _, _, _, _, _, rfl, _⟩, _⟩ := h
    rfl
  · obtain ⟨_, ⟨apself, apselft, apselfp, pselfT, pselfP, pnumber, rfl, hSpself, hpre, rfl⟩, k0⟩ := h
    obtain ⟨tk_MOST_PARTS, z_g_MOST_PARTS⟩ := z.g_MOST_PARTS
    obtain ⟨tk_MOST_SIGNS, z_g_MOST_SIGNS⟩ := z.g_MOST_SIGNS
    obtain ⟨tk_SIGNS, z_g_SIGNS⟩ := z.g_SIGNS
    have hok := hpre.1
    have hol := hok.len
    have hob := hok.big
    have hin := hpre.2
    refine ⟨_, (pss_cons (ps_expr (pe_calM CB_check (hr.mono (by decide)) (pv 0) (pa_cons (pv 1) pa_nil)))
      (pss_one (ps_ret (pe_ix (ix_listK K) (pe_fldK (K := K) (pv 0)) (pv 1) (fun _ _ => rfl))))), ?_⟩
    refine q_none (ev_met (ev_var rfl) (BkR.ex hSpself (Ex.refl H)).1 (by decide +kernel) (by decide +kernel) (ev_call (ea_cons ev_k (ea_cons (ev_var rfl) ea_nil)) (sv_of fun HC eC => ⟨_, _, _, _, _, _, rfl, BkR.ex (BkR.ex hSpself (Ex.refl H)) eC, (by walk_at "vside"), rfl⟩))) fun H1 e1a => ?_
    have e1 := Ex.trans (Ex.refl H) e1a
    have r1 := rx_of e1
    exact s_retTu (tu_is (tu_ixR (l := List.map (List.map V.int) pselfP) (e_fldP Tb (ev_var rfl) (BkR.ex hSpself e1).1) (IsLU.r (BkR.ex hSpself e1).2.2) (ev_var rfl) (by simp only [List.length_map]; walk_at "vside")) (getD_mapU _ _ _)) fun pR H2 e2a hR => RetTu.go k0 e1 e2a hR
def spB_elders (K : PySem.W.Frag) (C : Addr) : Sp := spN fun ws H v => ∃ (apself apselft apselfp : Addr) (pselfT : List (List (Tx × Tx))) (pselfP : List (List Int)) (pnumber : Int), ws = [.ref apself, V.int pnumber] ∧ (BkR K C H apself apselft apselfp pselfT pselfP) ∧ (OkB pselfT pselfP ∧ (0 ≤ pnumber ∧ pnumber < (pselfT.length : Int))) ∧ v = List.map V.int (mB_elders pselfT pselfP pnumber)
theorem okB_elders {f : Addr} {fd : FuncData} {C : Addr} (Tb : BkT K mg C) (F : Fun K "elders" "Book.elders" sB_elders f fd) (z : Bt mg) (CB_check : CalM P w K mg base 1 C "_check" ["self", "number"] (spB_check K C)) : FnOk P w K mg base CX0 2 f fd ["self", "number"] (spB_elders K C) := by
  refine okZ F (k := 1) scB_elders (fun ws H Q E h => ?_) (fun cdv hcd A outer s H ws Q E hr h => ?_)
  · obtain ⟨_, ⟨_, _, _, _, _, _, rfl, _⟩, _⟩ := h
    rfl
  · obtain ⟨_, ⟨apself, apselft, apselfp, pselfT, pselfP, pnumber, rfl, hSpself, hpre, rfl⟩, k0⟩ := h
    obtain ⟨tk_MOST_PARTS, z_g_MOST_PARTS⟩ := z.g_MOST_PARTS
    obtain ⟨tk_MOST_SIGNS, z_g_MOST_SIGNS⟩ := z.g_MOST_SIGNS
    obtain ⟨tk_SIGNS, z_g_SIGNS⟩ := z.g_SIGNS
    have hok := hpre.1
    have hol := hok.len
    have hob := hok.big
    have hin := hpre.2
    refine ⟨_, (pss_cons (ps_expr (pe_calM CB_check (hr.mono (by decide)) (pv 0) (pa_cons (pv 1) pa_nil)))
      (pss_cons (ps_set (i := 2) scB_elders.nd rfl (Or.inl rfl) (pe_set1 hcd (pv 1)))
      (pss_cons (ps_for PassesOwn.never rfl (pi_revR (by rfl) z.z_reversed (prg_1 (by rfl) z.z_range (pe_op op_add (pv 1) pe_int))) (pg_name (i := 3) scB_elders.nd rfl (Or.inl rfl))
      (pss_cut (ps_if (pt_cmpR op_inM (pv 3) (pv 2) (by rfl)) (pss_cons (ps_for PassesOwn.never rfl (pi_tupK K (pe_ix (ix_listK K) (pe_fldK (K := K) (pv 0)) (pv 3) (fun _ _ => rfl))) (pg_name (i := 4) scB_elders.nd rfl (Or.inl rfl))
      (pss_one (ps_expr (pe_addM (pv 2) (pa_cons (pv 4) pa_nil)))))
      pss_nil) pss_nil)
      pss_nil))
      (pss_one (ps_ret (pe_callB (call_srtI rfl) (by rfl) z.z_sorted (by decide +kernel) (pa_cons (pv 2) pa_nil))))))), ?_⟩
    refine q_none (ev_met (ev_var rfl) (BkR.ex hSpself (Ex.refl H)).1 (by decide +kernel) (by decide +kernel) (ev_call (ea_cons ev_k (ea_cons (ev_var rfl) ea_nil)) (sv_of fun HC eC => ⟨_, _, _, _, _, _, rfl, BkR.ex (BkR.ex hSpself (Ex.refl H)) eC, (by walk_at "vside"), rfl⟩))) fun H1 e1a => ?_
    have e1 := Ex.trans (Ex.refl H) e1a
    have r1 := rx_of e1
    refine q_asgZ (w := w) (l := (mB_elders_v1 pnumber)) (z_is (z_set1 (ev_var rfl)) rfl) fun p2_ound H2 n2a e2a h2_ound => ?_
    have n2 := fresh_back e1 n2a
    have e2 := Ex.trans e1 e2a
    have r2 := rx_of e2
    refine q_loopB (R := Unit) (n := (pnumber + (1 : Int))) (mB_elders_step1 pselfT pselfP pnumber) (mB_elders_v1 pnumber) (fun (s1 : List Int) (σ1 : L2.St) (H1L : Hp) => ∃ (j1_0 j1_1 : Option V), σ1 = [some (.ref apself), some (V.int pnumber), some (.ref p2_ound), j1_0, j1_1] ∧ Ex H H1L ∧ RX H H1L ∧ H1L p2_ound = some (KS w p2_ound (List.map Sum.inl s1))) (e_add (ev_var rfl) ev_c) (by walk_at "vside") (fun H7 e7a => ⟨_, _, rfl, (Ex.trans e2 e7a), (rx_of (Ex.trans e2 e7a)), e7a _ _ h2_ound⟩) ?_ ?_
    · intro Nx1 Bk1 i1 s1 y1 σ1 H1L hy1 hrun1 hq1 hnx1 hbk1 hrt1
      obtain ⟨j1_0, j1_1, rfl, e1L, r1L, h2_ound⟩ := hq1
      have hk1 := List.mem_range.mp (List.mem_of_getElem? hy1)
      have g1 := eld_on hok hin.1 hin.2 hrun1 hy1
      have kq1_0 : (mB_elders_step1 pselfT pselfP pnumber) s1 y1 = (Stp.go (mB_elders_v4 y1 pnumber s1 pselfT pselfP)) := rfl
      refine q_cut (M := (fun (σ3m : L2.St) (H3m : Hp) => ∃ (jm3_arent : Option V), σ3m = [some (.ref apself), some (V.int pnumber), some (.ref p2_ound), some (V.int ((pnumber + (1 : Int)) - 1 - (y1 : Int))), jm3_arent] ∧ Ex H H3m ∧ RX H H3m ∧ H3m p2_ound = some (KS w p2_ound (List.map Sum.inl (mB_elders_v4 y1 pnumber s1 pselfT pselfP))))) ?_ ?_
      · refine s_when (b := decide (((pnumber + (1 : Int)) - 1 - (y1 : Int)) ∈ s1)) (et_test (e_inZ (w := w) (l := s1) (ev_var rfl) (ev_var rfl) h2_ound)) (fun hb3 H3 e3a => ?_) (fun hb3 H3 e3a => ?_)
        · have e3 := Ex.trans e1L e3a
          have r3 := rx_of e3
          have h2_ound := e3a _ _ h2_ound
          refine q_loopW (K := K) (R := Unit) (f := V.int) (l := (pselfP.getD ((pnumber + (1 : Int)) - 1 - (y1 : Int)).toNat [])) mB_elders_step2 s1 (fun pW2 => (fun (s2 : List Int) (σ2 : L2.St) (H2L : Hp) => ∃ (j2_0 : Option V), σ2 = [some (.ref apself), some (V.int pnumber), some (.ref p2_ound), some (V.int ((pnumber + (1 : Int)) - 1 - (y1 : Int))), j2_0] ∧ Ex H H2L ∧ RX H H2L ∧ H2L p2_ound = some (KS w p2_ound (List.map Sum.inl s2)) ∧ SqT K H2L pW2 (List.map V.int (pselfP.getD ((pnumber + (1 : Int)) - 1 - (y1 : Int)).toNat [])))) (tu_is (tu_ixR (l := List.map (List.map V.int) pselfP) (e_fldP Tb (ev_var rfl) (BkR.ex hSpself e3).1) (IsLU.r (BkR.ex hSpself e3).2.2) (ev_var rfl) (by simp only [List.length_map]; walk_at "vside")) (getD_mapU _ _ _)) (fun pW2 H5 e5a hW2 => ⟨_, rfl, (Ex.trans e3 e5a), (rx_of (Ex.trans e3 e5a)), e5a _ _ h2_ound, hW2⟩) (fun pW2 s σ H hq => by obtain ⟨j2_0, rfl, e2L, r2L, h2_ound, hWL2⟩ := hq; exact hWL2) (fun pW2 => ?_) (fun pW2 => ?_)
          · intro Nx2 Bk2 i2 s2 y2 σ2 H2L hy2 hrun2 hq2 hnx2 hbk2 hrt2
            obtain ⟨j2_0, rfl, e2L, r2L, h2_ound, hWL2⟩ := hq2
            have hm2 := List.mem_of_getElem? hy2
            have hlt2 := (List.getElem?_eq_some_iff.mp hy2).1
            have g2 := eld_on2 hrun2 g1.1 (hok.few _)
            have kq2_0 : mB_elders_step2 s2 y2 = (Stp.go (mB_elders_v2 s2 y2)) := rfl
            refine s_addZ (w := w) (l := s2) (k := y2) (ev_var rfl) (ev_var rfl) h2_ound (by walk_at "vside") fun H4 m4 => ?_
            have e4 := Mu.ex m4 e2L n2
            have r4 := rx_of e4
            have hWL2 := Mu.tupZ m4 h2_ound hWL2
            have h2_ound : H4 p2_ound = some (KS w p2_ound (List.map Sum.inl (mB_elders_v2 s2 y2))) := Mu.at m4
            exact hnx2 (mB_elders_v2 s2 y2) _ _ kq2_0 ⟨_, rfl, e4, r4, h2_ound, hWL2⟩
          · intro s2 σ2 H2L hr2 hq2
            obtain ⟨j2_0, rfl, e2L, r2L, h2_ound, hWL2⟩ := hq2
            obtain rfl : (mB_elders_v3 pselfT pselfP y1 pnumber s1) = s2 := (outL_of hr2).symm
            have hV3_0 : (mB_elders_v4 y1 pnumber s1 pselfT pselfP) = (mB_elders_v3 pselfT pselfP y1 pnumber s1) := if_pos hb3
            exact ⟨_, rfl, e2L, r2L, (by rw [hV3_0]; exact h2_ound)⟩
        · have e3 := Ex.trans e1L e3a
          have r3 := rx_of e3
          have h2_ound := e3a _ _ h2_ound
          have hV3_0 : (mB_elders_v4 y1 pnumber s1 pselfT pselfP) = s1 := if_neg (by rw [hb3]; exact Bool.false_ne_true)
          exact ⟨_, rfl, e3, r3, (by rw [hV3_0]; exact h2_ound)⟩
      · intro σ3m H3m hq3m
        obtain ⟨jm3_arent, rfl, e3m, r3m, h2_ound⟩ := hq3m
        exact hnx1 (mB_elders_v4 y1 pnumber s1 pselfT pselfP) _ _ kq1_0 ⟨_, _, rfl, e3m, r3m, h2_ound⟩
    · intro s1 σ1 H1L hr1 hq1
      obtain ⟨j1_0, j1_1, rfl, e1L, r1L, h2_ound⟩ := hq1
      obtain rfl : (mB_elders_v5 pselfT pselfP pnumber) = s1 := (outL_of hr1).symm
      exact s_retL (l_srtZr (l := (mB_elders_v5 pselfT pselfP pnumber)) (ev_var rfl) h2_ound) fun pR H9 nR e9a hR => RetL.go k0 e1L nR e9a hR
def spB_nearest (K : PySem.W.Frag) (C : Addr) : Sp := spP fun ws H v => ∃ (apself apselft apselfp : Addr) (pselfT : List (List (Tx × Tx))) (pselfP : List (List Int)) (pone : Int) (pother : Int), ws = [.ref apself, V.int pone, V.int pother] ∧ (BkR K C H apself apselft apselfp pselfT pselfP) ∧ (OkB pselfT pselfP ∧ (0 ≤ pone ∧ pone < (pselfT.length : Int)) ∧ (0 ≤ pother ∧ pother < (pselfT.length : Int))) ∧ v = V.int (mB_nearest pselfT pselfP pone pother)
theorem okB_nearest {f : Addr} {fd : FuncData} {C : Addr} (Tb : BkT K mg C) (F : Fun K "nearest" "Book.nearest" sB_nearest f fd) (z : Bt mg) (CB_elders : CalM P w K mg base 2 C "elders" ["self", "number"] (spB_elders K C)) : FnOk P w K mg base CX0 3 f fd ["self", "one", "other"] (spB_nearest K C) := by
  refine F.ok (k := 2) scB_nearest (fun ws H Q E h => ?_) (fun cdv A outer s H ws Q E hr h => ?_)
  · obtain ⟨_, ⟨_, _, _, _, _, _, _, rfl, _⟩, _⟩ := h
    rfl
  · obtain ⟨_, ⟨apself, apselft, apselfp, pselfT, pselfP, pone, pother, rfl, hSpself, hpre, rfl⟩, k0⟩ := h
    obtain ⟨tk_MOST_PARTS, z_g_MOST_PARTS⟩ := z.g_MOST_PARTS
    obtain ⟨tk_MOST_SIGNS, z_g_MOST_SIGNS⟩ := z.g_MOST_SIGNS
    obtain ⟨tk_SIGNS, z_g_SIGNS⟩ := z.g_SIGNS
    have hok := hpre.1
    have hol := hok.len
    have hob := hok.big
    have hin := hpre.2
    have ge1 := len_elders hok hin.1.1 hin.1.2
    have ge2 := len_elders hok hin.2.1 hin.2.2
    have gep := near_pos hok hin.1.1 hin.1.2 hin.2.1 hin.2.2
    have hc1 : OkB pselfT pselfP ∧ (0 ≤ pone ∧ pone < (pselfT.length : Int)) := ⟨hok, hin.1⟩
    have hc2 : OkB pselfT pselfP ∧ (0 ≤ pother ∧ pother < (pselfT.length : Int)) := ⟨hok, hin.2⟩
    refine ⟨_, (pss_one (ps_ret (pe_ix (ix_listK K) (pe_callB (call_srtI rfl) (by rfl) z.z_sorted (by decide +kernel) (pa_cons (pe_op op_andM (pe_callTy (call_setLi rfl) (by rfl) z.z_set (by decide +kernel) (pa_cons (pe_calM CB_elders (hr.mono (by decide)) (pv 0) (pa_cons (pv 1) pa_nil)) pa_nil)) (pe_callTy (call_setLi rfl) (by rfl) z.z_set (by decide +kernel) (pa_cons (pe_calM CB_elders (hr.mono (by decide)) (pv 0) (pa_cons (pv 2) pa_nil)) pa_nil))) pa_nil)) (pe_un un_neg pe_int) (fun _ _ => rfl)))), ?_⟩
    exact s_ret (e_ixLastN (f := V.int) (l := (srtZ (List.filter (fun z => decide (z ∈ (uniZ [] (mB_elders pselfT pselfP pother)))) (uniZ [] (mB_elders pselfT pselfP pone))))) 0 (l_srtZ (l := (List.filter (fun z => decide (z ∈ (uniZ [] (mB_elders pselfT pselfP pother)))) (uniZ [] (mB_elders pselfT pselfP pone)))) (z_and (l := (uniZ [] (mB_elders pselfT pselfP pone))) (m := (uniZ [] (mB_elders pselfT pselfP pother))) (z_setL (K := K) (l := (mB_elders pselfT pselfP pone)) (el_met (ev_var rfl) (BkR.ex hSpself (Ex.refl H)).1 (by decide +kernel) (by decide +kernel) (el_call (ea_cons ev_k (ea_cons (ev_var rfl) ea_nil)) (sl_of fun HC eC => ⟨_, _, _, _, _, _, rfl, BkR.ex (BkR.ex hSpself (Ex.refl H)) eC, (by walk_at "vside"), rfl⟩))) (by walk_at "vside")) (z_setL (K := K) (l := (mB_elders pselfT pselfP pother)) (el_met (ev_var rfl) (BkR.ex hSpself (Ex.refl H)).1 (by decide +kernel) (by decide +kernel) (el_call (ea_cons ev_k (ea_cons (ev_var rfl) ea_nil)) (sl_of fun HC eC => ⟨_, _, _, _, _, _, rfl, BkR.ex (BkR.ex hSpself (Ex.refl H)) eC, (by walk_at "vside"), rfl⟩))) (by walk_at "vside")))) (e_neg ev_c) (by walk_at "vside")) fun H1 e1a => (RetV.go k0 (Ex.trans (Ex.refl H) e1a))
def spB_road (K : PySem.W.Frag) (C : Addr) : Sp := fun ws H Q _ => ∃ (b bt bp : Addr) (T : List (List (Tx × Tx))) (P : List (List Int)) (e n : Int), ws = [.ref b, .int e, .int n] ∧ BkR K C H b bt bp T P ∧ OkB T P ∧ (0 ≤ e ∧ e < (T.length : Int)) ∧ (0 ≤ n ∧ n < (T.length : Int)) ∧ (∀ H2, Ex H H2 → ¬ Anc P n e → Q .non H2) ∧ (∀ l, Road P n e l → RetL (l.map V.int) H Q)
theorem okB_road {f : Addr} {fd : FuncData} {C : Addr} (Tb : BkT K mg C) (F : Fun K "road" "Book.road" sB_road f fd) (z : Bt mg) (CB_check : CalM P w K mg base 1 C "_check" ["self", "number"] (spB_check K C)) : FnOk P w K mg base CX0 2 f fd ["self", "elder", "number"] (spB_road K C) := by
  refine F.ok (k := 1) scB_road (fun ws H Q E h => ?_) (fun cdv A outer s H ws Q E hr h => ?_)
  · obtain ⟨_, _, _, _, _, _, _, rfl, _⟩ := h
    rfl
  · obtain ⟨b, bt, bp, T, P, e, n, rfl, hb, hok, he, hn, kN, kR⟩ := h
    have hl := hok.len
    have hbig := hok.big
    have hP := okp hok
    refine ⟨_, (pss_cons (ps_expr (pe_calM CB_check (hr.mono (by decide)) (pv 0) (pa_cons (pv 1) pa_nil)))
          (pss_cons (ps_expr (pe_calM CB_check (hr.mono (by decide)) (pv 0) (pa_cons (pv 2) pa_nil)))
          (pss_cons (ps_set (i := 3) scB_road.nd rfl (Or.inl rfl) pe_dnewK)
          (pss_cons (ps_for PassesOwn.never rfl (pi_range2 (by rfl) z.z_range (pa_cons (pe_op op_add (pv 1) pe_int) (pa_cons (pe_op op_add (pv 2) pe_int) pa_nil))) (pg_name (i := 4) scB_road.nd rfl (Or.inl rfl))
          (pss_one (ps_for PassesOwn.never rfl (pi_tupK K (pe_ix (ix_listK K) (pe_fldK (K := K) (pv 0)) (pv 4) (fun _ _ => rfl))) (pg_name (i := 6) scB_road.nd rfl (Or.inl rfl))
          (pss_one (ps_if (PW.pt (pw_or (pt_cmpR op_eq (pv 6) (pv 1) (nomark _)) (pw_or1 (pt_cmp (pc_din (hu_of hr) (pv 6) (pv 3)))))) (pss_one (ps_dput (hu_of hr) (pv 3) (pv 4) (pv 6) rfl)) pss_nil)))))
          (pss_cons (ps_if (PW.pt (pw_and (pt_cmpR op_ne (pv 2) (pv 1) (nomark _)) (pw_and1 (pt_cmp (pc_dnotin (hu_of hr) (pv 2) (pv 3)))))) (pss_one (ps_ret pe_non)) pss_nil)
          (pss_cons (ps_set (i := 5) scB_road.nd rfl (Or.inl rfl) (pe_lst (pa_cons (pv 2) pa_nil)))
          (pss_cons (ps_while PassesOwn.never (pt_cmpR op_ne (pe_ix (ix_listK K) (pv 5) (pe_un un_neg pe_int) (fun _ _ => rfl)) (pv 1) (nomark _))
          (pss_one (ps_expr (pe_bm PySem.F.plainAttrs_list PySem.F.slot_list_append PySem.F.type_list_append mt_append (pv 5) (pa_cons (pe_dget (hu_of hr) (pv 3) (pe_ix (ix_listK K) (pv 5) (pe_un un_neg pe_int) (fun _ _ => rfl)) (fun _ _ => rfl)) pa_nil)))))
          (pss_one (ps_ret (pe_revL (pv 5))))))))))), ?_⟩
    refine q_none (ev_met (ev_var rfl) hb.1 (by decide +kernel) (by decide +kernel) (ev_call (ea_cons ev_k (ea_cons (ev_var rfl) ea_nil)) (sv_of fun HC eC => ⟨_, _, _, _, _, _, rfl, BkR.ex hb eC, he, rfl⟩))) fun H1 e1 => ?_
    have hb1 := hb.ex e1
    refine q_none (ev_met (ev_var rfl) hb1.1 (by decide +kernel) (by decide +kernel) (ev_call (ea_cons ev_k (ea_cons (ev_var rfl) ea_nil)) (sv_of fun HC eC => ⟨_, _, _, _, _, _, rfl, BkR.ex hb1 eC, hn, rfl⟩))) fun H2 e2a => ?_
    have e2 := e1.trans e2a
    have hb2 := hb.ex e2
    refine q_asgK k_new fun d H3 nd0 e3a hd => ?_
    have e3 := e2.trans e3a
    have hb3 := hb.ex e3
    have nd : H d = none := fresh_back e2 nd0
    refine q_forR2 (lo := e + 1) (n := n + 1) (ea_cons (e_add (ev_var rfl) ev_c) (ea_cons (e_add (ev_var rfl) ev_c) ea_nil)) (by omega) (fun (i : Nat) (σ1 : L2.St) (H4 : Hp) => ∃ (kvs : List (Key × V)) (r1 r2 : Option V), σ1 = [some (.ref b), some (.int e), some (.int n), some (.ref d), r1, none, r2] ∧ Ex H H4 ∧ H4 d = some (.dK kvs) ∧ Bck P e (e + 1 + (i : Int)) kvs ∧ kvs.length ≤ 2 * i) (fun H4 e4 => ⟨[], none, none, rfl, e3.trans e4, e4 _ _ hd, by rw [show e + 1 + (((0 : Nat) : Nat) : Int) = e + 1 by omega]; exact bck_start P e, Nat.le_refl _⟩) (fun i σ1 H4 hi hI => ?_) (fun σ1 H4 hI => ?_)
    · obtain ⟨kvs, r1, r2, rfl, e4, hd, hI, hk⟩ := hI
      have r4 := rx_of e4
      have hfew := hP.few (e + 1 + (i : Int)).toNat
      have hat : 0 ≤ (e + 1 + (i : Int)) ∧ (e + 1 + (i : Int)) < (T.length : Int) := by omega
      refine s_forW (tu_is (tu_ixR (l := List.map (List.map V.int) P) (e_fldP Tb (ev_var rfl) (BkR.ex hb e4).1) (IsLU.r (BkR.ex hb e4).2.2) (ev_var rfl) (by simp only [List.length_map]; walk_at "vside")) (getD_mapU _ _ _)) (fun (p : Addr) (j : Nat) (σ2 : L2.St) (H5 : Hp) => ∃ (kvs2 : List (Key × V)) (r3 : Option V), σ2 = [some (.ref b), some (.int e), some (.int n), some (.ref d), some (.int (e + 1 + (i : Int))), none, r3] ∧ Ex H H5 ∧ SqT K H5 p ((P.getD (e + 1 + (i : Int)).toNat []).map V.int) ∧ H5 d = some (.dK kvs2) ∧ Bck P e (e + 1 + (i : Int)) kvs2 ∧ kvs2.length ≤ 2 * i + j ∧ ∀ q ∈ (P.getD (e + 1 + (i : Int)).toNat []).take j, q = e ∨ (valV kvs2 (Sum.inl q)).isSome = true → (valV kvs2 (Sum.inl (e + 1 + (i : Int)))).isSome = true) (fun p H5 e5 hp => ⟨kvs, r2, rfl, e4.trans e5, hp, e5 _ _ hd, hI, by omega, fun q hq => (nomatch hq)⟩) (fun p j σ2 H5 hq => ?_) (fun p j x σ2 H5 hx hq => ?_) (fun p σ2 H5 hq => ?_)
      · obtain ⟨kvs2, r3, rfl, _, hp, _⟩ := hq
        exact hp
      · obtain ⟨kvs2, r3, rfl, e5, hp, hd2, hI2, hk2, hc2⟩ := hq
        have r5 := rx_of e5
        rw [List.getElem?_map] at hx
        obtain ⟨q, hq, rfl⟩ := Option.map_eq_some_iff.mp hx
        have hqm := List.mem_of_getElem? hq
        have hjl := (List.getElem?_eq_some_iff.mp hq).1
        have hqb := hP.lt _ _ hat.1 (by omega) hqm
        refine s_when (b := ((decide (q = e)) || ((valV kvs2 (Sum.inl q)).isSome))) (et_or (et_test (e_eqI (ev_var rfl) (ev_var rfl))) (fun hc => (et_B (e_inZd (ev_var rfl) (ev_var rfl) (Or.inl hd2))))) (fun hc H6 e6 => ?_) (fun hc H6 e6 => ?_)
        · have hc0 : q = e ∨ (valV kvs2 (Sum.inl q)).isSome = true := (Bool.or_eq_true_iff.mp hc).imp of_decide_eq_true id
          refine s_putZd (n := (e + 1 + (i : Int))) (v := .int q) (ev_var rfl) (ev_var rfl) (ev_var rfl) (e6 _ _ hd2) (by omega) fun H7 m7 => ?_
          refine ⟨_, _, rfl, Mu.ex m7 (e5.trans e6) nd, Mu.tup m7 (e6 _ _ hd2) trivial (ex_t e6 hp), Mu.at m7, bck_put hI2 (by omega) hqm hc0, Nat.le_trans putK_len (by omega), fun x hx hc => ?_⟩
          rw [valV_putI, if_pos rfl]
          rfl
        · have hc0 : ¬ (q = e ∨ (valV kvs2 (Sum.inl q)).isSome = true) := fun z => by
            have z2 := Bool.or_eq_false_iff.mp hc
            rcases z with z | z
            · exact of_decide_eq_false z2.1 z
            · rw [z] at z2
              cases z2.2
          refine ⟨kvs2, _, rfl, e5.trans e6, ex_t e6 hp, e6 _ _ hd2, hI2, by omega, fun x hx hz => ?_⟩
          rw [List.take_add_one, hq] at hx
          rcases List.mem_append.mp hx with z | z
          · exact hc2 x z hz
          · rw [List.mem_singleton.mp z] at hz
            exact absurd hz hc0
      · obtain ⟨kvs2, r3, rfl, e5, hp, hd2, hI2, hk2, hc2⟩ := hq
        rw [List.length_map] at hk2 hc2
        rw [List.take_length] at hc2
        refine ⟨kvs2, _, _, rfl, e5, hd2, ⟨hI2.snd, fun k h1 h2 ha => ?_⟩, by omega⟩
        by_cases ek : k = (e + 1 + (i : Int))
        · subst ek
          rcases anc_near ha with z | ⟨q, hq, hz⟩
          · omega
          · refine hc2 q hq ?_
            have hqb := hP.lt _ _ hat.1 (by omega) hq
            have hqe := anc_le hP hqb.1 (by omega) hz
            by_cases eq : q = e
            · exact Or.inl eq
            · exact Or.inr (hI2.cmp q (by omega) hqb.2 hz)
        · exact hI2.cmp k h1 (by omega) ha
    · obtain ⟨kvs, r1, r2, rfl, e4, hd, hI, hk⟩ := hI
      have r4 := rx_of e4
      have full : n ≠ e → (valV kvs (Sum.inl n)).isSome = false → ¬ Anc P n e := fun ne hv ha => by
        have q := anc_le hP hn.1 (by omega) ha
        rw [hI.cmp n (by omega) (by omega) ha] at hv
        cases hv
      refine q_when (b := ((!decide (n = e)) && (!(valV kvs (Sum.inl n)).isSome))) (et_and (et_test (e_neI (ev_var rfl) (ev_var rfl))) (fun hc => (et_B (e_niZd (ev_var rfl) (ev_var rfl) (Or.inl hd))))) (fun hc H5 e5 => ?_) (fun hc H5 e5 => ?_)
      · obtain ⟨h1, h2⟩ := Bool.and_eq_true_iff.mp hc
        rw [Bool.not_eq_true'] at h1 h2
        exact s_ret ev_c fun H6 e6 => kN H6 ((e4.trans e5).trans e6) (full (of_decide_eq_false h1) h2)
      · have hc0 : n = e ∨ (valV kvs (Sum.inl n)).isSome = true := by
          rcases Bool.and_eq_false_iff.mp hc with z | z
          · rw [Bool.not_eq_false'] at z
            exact Or.inl (of_decide_eq_true z)
          · rw [Bool.not_eq_false'] at z
            exact Or.inr z
        refine q_asgL (xs := [n].map V.int) (el_lst (ea_cons (ev_var rfl) ea_nil) (by simp)) fun p H6 np0 e6 hp => ?_
        have e6' := (e4.trans e5).trans e6
        have np : H p = none := fresh_back (e4.trans e5) np0
        have hd6 := (e5.trans e6) _ _ hd
        have dp : p ≠ d := fun z => by
          rw [z] at np0
          rw [e5 _ _ hd] at np0
          cases np0
        refine q_while (fun (m : Nat) (σ1 : L2.St) (H7 : Hp) => σ1 = [some (.ref b), some (.int e), some (.int n), some (.ref d), r1, some (.ref p), r2] ∧ Ex H H7 ∧ H7 d = some (.dK kvs) ∧ ∃ (l : List Int) (j : Int), H7 p = some (.lst (l.map V.int)) ∧ Road P n j l.reverse ∧ (j = e ∨ (valV kvs (Sum.inl j)).isSome = true) ∧ m = j.toNat) n.toNat ⟨rfl, e6', hd6, [n], n, hp, .one, hc0, rfl⟩ (fun m σ1 H7 hW => ?_)
        obtain ⟨rfl, e7, hd, l, j, hp, hr, hj, rfl⟩ := hW
        have r7 := rx_of e7
        have hg := hr.rng (fun k i h0 hk hi => hP.lt k i h0 (by omega) hi) hn.1
        have hpos := hr.pos
        rw [List.length_reverse] at hpos
        have hlast : l.getLastD 0 = j := by
          rw [← hr.head, List.getLastD_eq_getLast?, List.getD_eq_getElem?_getD, List.getElem?_reverse (by omega), List.getLast?_eq_getElem?]
          rfl
        refine ⟨(!decide (l.getLastD 0 = e)), (et_test (e_neI (e_ixLast (f := V.int) (l := l) 0 (ev_var rfl) (sq_of hp) (e_neg ev_c) hpos) (ev_var rfl))), fun hc H8 e8a => ?_, fun hc H8 e8a => ?_⟩
        · have hne : ¬ j = e := fun z => by
            rw [hlast, decide_eq_true z] at hc
            cases hc
          obtain ⟨v, hv⟩ := Option.isSome_iff_exists.mp (hj.resolve_left hne)
          obtain ⟨q, rfl, hq, hek, hqe⟩ := hI.snd j v hv
          have hqb := hP.lt _ _ hg.1.1 (by omega) hq
          have hlen : l.length < 100000 := by
            have := hg.2.2
            rw [List.length_reverse] at this
            omega
          refine ⟨fun σ2 H9 => σ2 = [some (.ref b), some (.int e), some (.int n), some (.ref d), r1, some (.ref p), r2] ∧ Ex H H9 ∧ H9 d = some (.dK kvs) ∧ H9 p = some (.lst ((l ++ [q]).map V.int)), fun σ2 H9 hN => ⟨q.toNat, by omega, hN.1, hN.2.1, hN.2.2.1, l ++ [q], q, hN.2.2.2, by rw [List.reverse_append]; exact .cons hr hq, hqe, rfl⟩, ?_⟩
          have hl8 : H8 p = some (.lst (l.map V.int)) := e8a _ _ hp
          have hd8 := e8a _ _ hd
          refine s_appG (g := V.int) (m := l) (v := q) hl8 (ev_var rfl) (e_getZd (n := j) (v := V.int q) (ev_var rfl) (ev_is (e_ixLast (f := V.int) (l := l) 0 (ev_var rfl) (sq_of hl8) (e_neg ev_c) hpos) (by rw [hlast])) (Or.inl hd8) hv) hlen fun H9 m9 => ?_
          exact ⟨rfl, Mu.ex m9 (e7.trans e8a) np, Mu.keep m9 dp.symm hd8, Mu.at m9⟩
        · have he2 : j = e := by
            rw [hlast, Bool.not_eq_false'] at hc
            exact of_decide_eq_true hc
          subst he2
          exact s_retL (l_rev (f := V.int) (l := l) (ev_var rfl) (sq_of (e8a _ _ hp))) fun r H9 nr e9 hr9 => kR l.reverse hr r H9 (fresh_back (e7.trans e8a) nr) ((e7.trans e8a).trans e9) hr9
def spB_story (K : PySem.W.Frag) (C : Addr) : Sp := spN fun ws H v => ∃ (apself apselft apselfp : Addr) (pselfT : List (List (Tx × Tx))) (pselfP : List (List Int)) (pnumber : Int) (ppath : Tx), ws = [.ref apself, V.int pnumber, vs ppath] ∧ (BkR K C H apself apselft apselfp pselfT pselfP) ∧ (OkB pselfT pselfP ∧ (0 ≤ pnumber ∧ pnumber < (pselfT.length : Int))) ∧ v = List.map V.int (mB_story pselfT pselfP pnumber ppath)
theorem okB_story {f : Addr} {fd : FuncData} {C : Addr} (Tb : BkT K mg C) (F : Fun K "story" "Book.story" sB_story f fd) (z : Bt mg) (CB_elders : CalM P w K mg base 2 C "elders" ["self", "number"] (spB_elders K C)) (CB_has_changed : CalM P w K mg base 1 C "_has_changed" ["self", "number", "path"] (spB_has_changed K C)) : FnOk P w K mg base CX0 3 f fd ["self", "number", "path"] (spB_story K C) := by
  refine F.ok (k := 2) scB_story (fun ws H Q E h => ?_) (fun cdv A outer s H ws Q E hr h => ?_)
  · obtain ⟨_, ⟨_, _, _, _, _, _, _, rfl, _⟩, _⟩ := h
    rfl
  · obtain ⟨_, ⟨apself, apselft, apselfp, pselfT, pselfP, pnumber, ppath, rfl, hSpself, hpre, rfl⟩, k0⟩ := h
    obtain ⟨tk_MOST_PARTS, z_g_MOST_PARTS⟩ := z.g_MOST_PARTS
    obtain ⟨tk_MOST_SIGNS, z_g_MOST_SIGNS⟩ := z.g_MOST_SIGNS
    obtain ⟨tk_SIGNS, z_g_SIGNS⟩ := z.g_SIGNS
    have hok := hpre.1
    have hol := hok.len
    have hob := hok.big
    have hin := hpre.2
    have ge1 := len_elders hok hin.1 hin.2
    refine ⟨_, (pss_one (ps_ret (pe_lc (own := [("at", 3)]) (g := gName 3) rfl scB_story.nd (pi_listK K (pe_calM CB_elders (hr.mono (by decide)) (pv 0) (pa_cons (pv 1) pa_nil))) (blkOk_by (own := [("at", 3)]) (N := ["self", "number", "path", "at"]) (sc := defScope sB_story) (by decide +kernel)) (fun _ _ _ _ _ => pg_name (i := 3) scB_story.nd rfl (Or.inl rfl)) (fun _ _ _ _ _ => pts_one (pt_val (pe_calM CB_has_changed (hr.mono (by decide)) (pv 0) (pa_cons (pv 3) (pa_cons (pv 2) pa_nil))))) (fun _ _ _ _ _ => (pv 3))))), ?_⟩
    exact s_retL (l_filN (K := K) (f := V.int) (m := (mB_elders pselfT pselfP pnumber)) (f2 := V.int) (fun k0 : Int => (mB_has_changed pselfT pselfP k0 ppath)) (fun k0 : Int => k0) 0 (el_met (ev_var rfl) (BkR.ex hSpself (Ex.refl H)).1 (by decide +kernel) (by decide +kernel) (el_call (ea_cons ev_k (ea_cons (ev_var rfl) ea_nil)) (sl_of fun HC eC => ⟨_, _, _, _, _, _, rfl, BkR.ex (BkR.ex hSpself (Ex.refl H)) eC, (by walk_at "vside"), rfl⟩))) (by walk_at "vside") (fun k0 hm => have gk := in_elders hok hin.1 hin.2 hm; have gk2 : OkB pselfT pselfP ∧ (0 ≤ k0 ∧ k0 < (pselfT.length : Int)) := ⟨hok, by omega⟩; (et_B (ev_met (ev_var rfl) (BkR.ex hSpself (Ex.refl H)).1 (by decide +kernel) (by decide +kernel) (ev_call (ea_cons ev_k (ea_cons (ev_var rfl) (ea_cons (ev_var rfl) ea_nil))) (sv_of fun HC eC => ⟨_, _, _, _, _, _, _, rfl, BkR.ex (BkR.ex hSpself (Ex.refl H)) eC, (by walk_at "vside"), rfl⟩))))) (fun k0 hm hc => have gk := in_elders hok hin.1 hin.2 hm; have gk2 : OkB pselfT pselfP ∧ (0 ≤ k0 ∧ k0 < (pselfT.length : Int)) := ⟨hok, by omega⟩; (ev_var rfl))) fun pR H1 nR e1a hR => RetL.go k0 (Ex.refl H) nR e1a hR
def spB_grow (K : PySem.W.Frag) (C : Addr) : Sp := spB K fun ws H bt bp v B => ∃ (apself apselft apselfp : Addr) (pselfT : List (List (Tx × Tx))) (pselfP : List (List Int)) (pparent : Int) (apdeeds : Addr) (pdeeds : List (List Tx)), ws = [.ref apself, V.int pparent, .ref apdeeds] ∧ (BkR K C H apself apselft apselfp pselfT pselfP) ∧ IsLUr K H apdeeds (List.map (List.map vs) pdeeds) ∧ (goGrow pselfT pselfP pparent pdeeds) ∧ bt = apselft ∧ bp = apselfp ∧ v = V.int (pselfT.length : Int) ∧ B = (mB_grow pselfT pselfP pparent pdeeds)
theorem okB_grow {f : Addr} {fd : FuncData} {C : Addr} (Tb : BkT K mg C) {Cs : Nat → Addr} (F : Fun K "grow" "Book.grow" sB_grow f fd) (z : Bt mg) (CB_check : CalM P w K mg base 1 C "_check" ["self", "number"] (spB_check K C)) (C_changed : CalX P w K mg base 4 "changed" ["tree", "deeds"] (sp_changed K Cs)) (CB_keep : CalM P w K mg base 1 C "_keep" ["self", "parents", "files"] (spB_keep K C)) : FnOk P w K mg base CX0 5 f fd ["self", "parent", "deeds"] (spB_grow K C) := by
  refine F.ok (k := 4) scB_grow (fun ws H Q E h => ?_) (fun cdv A outer s H ws Q E hr h => ?_)
  · obtain ⟨_, _, _, _, ⟨_, _, _, _, _, _, _, _, rfl, _⟩, _⟩ := h
    rfl
  · obtain ⟨_, _, _, _, ⟨apself, apselft, apselfp, pselfT, pselfP, pparent, apdeeds, pdeeds, rfl, hSpself, hSpdeeds, hpre, rfl, rfl, rfl, rfl⟩, k0⟩ := h
    obtain ⟨tk_MOST_PARTS, z_g_MOST_PARTS⟩ := z.g_MOST_PARTS
    obtain ⟨tk_MOST_SIGNS, z_g_MOST_SIGNS⟩ := z.g_MOST_SIGNS
    obtain ⟨tk_SIGNS, z_g_SIGNS⟩ := z.g_SIGNS
    have hok := hpre.ok
    have hol := hok.len
    have hob := hok.big
    have hin := hpre.inn
    have hch := hpre.ch
    have hcp := hpre.cp
    refine ⟨_, (pss_cons (ps_expr (pe_calM CB_check (hr.mono (by decide)) (pv 0) (pa_cons (pv 1) pa_nil)))
      (pss_one (ps_ret (pe_calM CB_keep (hr.mono (by decide)) (pv 0) (pa_cons (pe_tup (pa_cons (pv 1) pa_nil)) (pa_cons (pe_calX C_changed takesN0 (hr.mono (by decide)) (by rfl) (pa_cons (pe_ix (ix_listK K) (pe_fldK (K := K) (pv 0)) (pv 1) (fun _ _ => rfl)) (pa_cons (pv 2) pa_nil))) pa_nil)))))), ?_⟩
    refine q_none (ev_met (ev_var rfl) (BkR.ex hSpself (Ex.refl H)).1 (by decide +kernel) (by decide +kernel) (ev_call (ea_cons ev_k (ea_cons (ev_var rfl) ea_nil)) (sv_of fun HC eC => ⟨_, _, _, _, _, _, rfl, BkR.ex (BkR.ex hSpself (Ex.refl H)) eC, (by walk_at "vside"), rfl⟩))) fun H1 e1a => ?_
    have e1 := Ex.trans (Ex.refl H) e1a
    have r1 := rx_of e1
    exact r_b (k_met (ps := [pparent]) (l := (resD (m_changed (pselfT.getD pparent.toNat []) pdeeds))) e1 (ev_var rfl) (BkR.ex hSpself e1) (by walk_at "vside") (ax_t (tu_new (eu_tup (ea_cons (ev_var rfl) ea_nil) (by simp))) (ax_kn (k_callX (r := (m_changed (pselfT.getD pparent.toNat []) pdeeds)) (ax_d (d_ix (K := K) (e_fldT Tb (ev_var rfl) (BkR.ex hSpself e1).1) (BkR.ex hSpself e1).2.1 (ev_var rfl) (by walk_at "vside")) (ax_v (ev_var rfl) ax_nil)) (fun ws HC eC hP => by obtain ⟨pA0, _, rfl, hA0, _, rfl, rfl⟩ := hP; exact ⟨_, _, _, _, rfl, hA0, IsLUr.ex (IsLUr.rx hSpdeeds r1) eC, (by walk_at "vside"), rfl⟩) (by walk_at "vside")) ax_nil)) (fun ws HC eC hP => by obtain ⟨pT, _, rfl, hT, pD, _, rfl, ⟨nD, hD⟩, rfl⟩ := hP; exact ⟨pT, _, rfl, hT, fresh_back e1 nD, hD⟩) k0)
def spB_check_x (K : PySem.W.Frag) (Cs : Nat → Addr) (C : Addr) : Sp := fun ws H Q E => ∃ (b bt bp : Addr) (T : List (List (Tx × Tx))) (P : List (List Int)) (v : V), ws = [.ref b, v] ∧ BkR K C H b bt bp T P ∧ Bad T v ∧ RetX Cs 6 H E
theorem okB_check_x {f : Addr} {fd : FuncData} {C : Addr} (Tb : BkT K mg C) {Cs : Nat → Addr} (G : EG mg Cs) (F : Fun K "_check" "Book._check" sB_check_x f fd) (z : Bt mg)  (R6 : ErrR K Cs 6) : FnOk P w K mg base (L2N.CX P w) 1 f fd ["self", "number"] (spB_check_x K Cs C) := by
  refine okN F (k := 0) scB_check_x (fun ws H Q E h => ?_) (fun cdv A outer s H ws Q E hr h => ?_)
  · obtain ⟨_, _, _, _, _, _, rfl, _⟩ := h
    rfl
  · obtain ⟨b, bt, bp, T, P, v, rfl, hb, hv, hx⟩ := h
    refine ⟨_, (pss_one (ps_if (PW.pt (pw_or (pt_val (pe_callB (call_isiK' K) (by rfl) z.z_isinstance (by decide +kernel) (pa_cons (pv 1) (pa_cons (pe_bltn (v := .ty "bool") (by rfl) z.z_bool (by decide +kernel) rfl) pa_nil)))) (pw_or1 (pt_not (pt_chain op_le op_lt pe_int (pv 1) (pe_callB (call_lenK K) (by rfl) z.z_len PySem.boot_len (pa_cons (pe_fldK (K := K) (pv 0)) pa_nil))))))) (pss_one (L2N.ps_raise rfl (L2N.takes_of rfl rfl rfl rfl) (L2N.pmk_own PySem.F.excBase_ValueError R6.x G.g6 R6.kp (raises_own R6.b R6.t) (by exact rfl)))) pss_nil)), ?_⟩
    rcases hv with ⟨k, rfl⟩ | ⟨n, rfl, hn⟩
    · exact s_when (b := (true || false)) (et_or (et_B (e_isi (ev_var rfl) ev_c (.ty _) (fun _ _ => TyX.base (TyOf.bl _)) (kit_ty (by decide +kernel)))) (fun hc => nomatch hc)) (fun _ H1 e1 => hx H1 e1) (fun hc => nomatch hc)
    · have hv2 : (false || (!(decide ((0 : Int) ≤ n) && decide (n < (T.length : Int))))) = true := by
        rw [Bool.false_or, Bool.not_eq_true']
        rcases Decidable.not_and_iff_or_not.mp hn with z | z
        · rw [decide_eq_false z, Bool.false_and]
        · rw [decide_eq_false z, Bool.and_false]
      exact s_when (b := (false || (!(decide ((0 : Int) ≤ n) && decide (n < (T.length : Int)))))) (et_or (et_B (e_isi (ev_var rfl) ev_c (.ty _) (fun _ _ => TyX.base (TyOf.int _)) (kit_ty (by decide +kernel)))) (fun _ => (et_not (et_test (e_chain ev_c (ev_var rfl) (e_lenLD (e_fldT Tb (ev_var rfl) (BkR.ex hb (Ex.refl H)).1) (BkR.ex hb (Ex.refl H)).2.1) (fun _ _ => rv_I0) (fun _ _ => rv_I0)))))) (fun _ H1 e1 => hx H1 e1) (fun hc => absurd (hc.symm.trans hv2) (by decide))
def spB_tree_x (K : PySem.W.Frag) (Cs : Nat → Addr) (C : Addr) : Sp := fun ws H Q E => ∃ (b bt bp : Addr) (T : List (List (Tx × Tx))) (P : List (List Int)) (v : V), ws = [.ref b, v] ∧ BkR K C H b bt bp T P ∧ Bad T v ∧ RetX Cs 6 H E
theorem okB_tree_x {f : Addr} {fd : FuncData} {C : Addr} (Tb : BkT K mg C) {Cs : Nat → Addr} (G : EG mg Cs) (F : Fun K "tree" "Book.tree" sB_tree_x f fd) (z : Bt mg) (CB_check_x : CalMX P w K mg base 1 C "_check" ["self", "number"] (spB_check_x K Cs C)) : FnOk P w K mg base (L2N.CX P w) 2 f fd ["self", "number"] (spB_tree_x K Cs C) := by
  refine okN F (k := 1) scB_tree_x (fun ws H Q E h => ?_) (fun cdv A outer s H ws Q E hr h => ?_)
  · obtain ⟨_, _, _, _, _, _, rfl, _⟩ := h
    rfl
  · obtain ⟨b, bt, bp, T, P, v, rfl, hb, hv, hx⟩ := h
    refine ⟨_, (pss_cons (ps_expr (pe_calMX CB_check_x (L2N.takes_of rfl rfl rfl rfl) (hr.mono (by decide)) (pv 0) (pa_cons (pv 1) pa_nil))) pss_never), ?_⟩
    refine q_rz (mx_rz (ev_var rfl) hb.1 (by decide +kernel) (by decide +kernel) (ax_v (ev_var rfl) ax_nil) fun ws H1 e1 hP Q1 => ?_)
    obtain ⟨_, rfl, rfl⟩ := hP
    exact ⟨b, bt, bp, T, P, _, rfl, hb.ex e1, hv, fun H2 e2 => hx H2 (e1.trans e2)⟩
def spB_parents_x (K : PySem.W.Frag) (Cs : Nat → Addr) (C : Addr) : Sp := fun ws H Q E => ∃ (b bt bp : Addr) (T : List (List (Tx × Tx))) (P : List (List Int)) (v : V), ws = [.ref b, v] ∧ BkR K C H b bt bp T P ∧ Bad T v ∧ RetX Cs 6 H E
theorem okB_parents_x {f : Addr} {fd : FuncData} {C : Addr} (Tb : BkT K mg C) {Cs : Nat → Addr} (G : EG mg Cs) (F : Fun K "parents" "Book.parents" sB_parents_x f fd) (z : Bt mg) (CB_check_x : CalMX P w K mg base 1 C "_check" ["self", "number"] (spB_check_x K Cs C)) : FnOk P w K mg base (L2N.CX P w) 2 f fd ["self", "number"] (spB_parents_x K Cs C) := by
  refine okN F (k := 1) scB_parents_x (fun ws H Q E h => ?_) (fun cdv A outer s H ws Q E hr h => ?_)
  · obtain ⟨_, _, _, _, _, _, rfl, _⟩ := h
    rfl
  · obtain ⟨b, bt, bp, T, P, v, rfl, hb, hv, hx⟩ := h
    refine ⟨_, (pss_cons (ps_expr (pe_calMX CB_check_x (L2N.takes_of rfl rfl rfl rfl) (hr.mono (by decide)) (pv 0) (pa_cons (pv 1) pa_nil))) pss_never), ?_⟩
    refine q_rz (mx_rz (ev_var rfl) hb.1 (by decide +kernel) (by decide +kernel) (ax_v (ev_var rfl) ax_nil) fun ws H1 e1 hP Q1 => ?_)
    obtain ⟨_, rfl, rfl⟩ := hP
    exact ⟨b, bt, bp, T, P, _, rfl, hb.ex e1, hv, fun H2 e2 => hx H2 (e1.trans e2)⟩
def spB_elders_x (K : PySem.W.Frag) (Cs : Nat → Addr) (C : Addr) : Sp := fun ws H Q E => ∃ (b bt bp : Addr) (T : List (List (Tx × Tx))) (P : List (List Int)) (v : V), ws = [.ref b, v] ∧ BkR K C H b bt bp T P ∧ Bad T v ∧ RetX Cs 6 H E
theorem okB_elders_x {f : Addr} {fd : FuncData} {C : Addr} (Tb : BkT K mg C) {Cs : Nat → Addr} (G : EG mg Cs) (F : Fun K "elders" "Book.elders" sB_elders_x f fd) (z : Bt mg) (CB_check_x : CalMX P w K mg base 1 C "_check" ["self", "number"] (spB_check_x K Cs C)) : FnOk P w K mg base (L2N.CX P w) 2 f fd ["self", "number"] (spB_elders_x K Cs C) := by
  refine okN F (k := 1) scB_elders_x (fun ws H Q E h => ?_) (fun cdv A outer s H ws Q E hr h => ?_)
  · obtain ⟨_, _, _, _, _, _, rfl, _⟩ := h
    rfl
  · obtain ⟨b, bt, bp, T, P, v, rfl, hb, hv, hx⟩ := h
    refine ⟨_, (pss_cons (ps_expr (pe_calMX CB_check_x (L2N.takes_of rfl rfl rfl rfl) (hr.mono (by decide)) (pv 0) (pa_cons (pv 1) pa_nil))) pss_never), ?_⟩
    refine q_rz (mx_rz (ev_var rfl) hb.1 (by decide +kernel) (by decide +kernel) (ax_v (ev_var rfl) ax_nil) fun ws H1 e1 hP Q1 => ?_)
    obtain ⟨_, rfl, rfl⟩ := hP
    exact ⟨b, bt, bp, T, P, _, rfl, hb.ex e1, hv, fun H2 e2 => hx H2 (e1.trans e2)⟩
def spB_grow_x (K : PySem.W.Frag) (Cs : Nat → Addr) (C : Addr) : Sp := fun ws H Q E => ∃ (b bt bp : Addr) (T : List (List (Tx × Tx))) (P : List (List Int)) (v u0 : V), ws = [.ref b, v, u0] ∧ BkR K C H b bt bp T P ∧ Bad T v ∧ RetX Cs 6 H E
theorem okB_grow_x {f : Addr} {fd : FuncData} {C : Addr} (Tb : BkT K mg C) {Cs : Nat → Addr} (G : EG mg Cs) (F : Fun K "grow" "Book.grow" sB_grow_x f fd) (z : Bt mg) (CB_check_x : CalMX P w K mg base 1 C "_check" ["self", "number"] (spB_check_x K Cs C)) : FnOk P w K mg base (L2N.CX P w) 2 f fd ["self", "parent", "deeds"] (spB_grow_x K Cs C) := by
  refine okN F (k := 1) scB_grow_x (fun ws H Q E h => ?_) (fun cdv A outer s H ws Q E hr h => ?_)
  · obtain ⟨_, _, _, _, _, _, _, rfl, _⟩ := h
    rfl
  · obtain ⟨b, bt, bp, T, P, v, u0, rfl, hb, hv, hx⟩ := h
    refine ⟨_, (pss_cons (ps_expr (pe_calMX CB_check_x (L2N.takes_of rfl rfl rfl rfl) (hr.mono (by decide)) (pv 0) (pa_cons (pv 1) pa_nil))) pss_never), ?_⟩
    refine q_rz (mx_rz (ev_var rfl) hb.1 (by decide +kernel) (by decide +kernel) (ax_v (ev_var rfl) ax_nil) fun ws H1 e1 hP Q1 => ?_)
    obtain ⟨_, rfl, rfl⟩ := hP
    exact ⟨b, bt, bp, T, P, _, rfl, hb.ex e1, hv, fun H2 e2 => hx H2 (e1.trans e2)⟩
def spB_merge_x (K : PySem.W.Frag) (Cs : Nat → Addr) (C : Addr) : Sp := fun ws H Q E => ∃ (b bt bp : Addr) (T : List (List (Tx × Tx))) (P : List (List Int)) (v1 v2 u0 : V), ws = [.ref b, v1, v2, u0] ∧ BkR K C H b bt bp T P ∧ ((Bad T v1 ∧ RetX Cs 6 H E) ∨ (∃ n, v1 = .int n ∧ (0 ≤ n ∧ n < (T.length : Int)) ∧ Bad T v2 ∧ RetX Cs 6 H E) ∨ (∃ n, v1 = .int n ∧ v2 = .int n ∧ (0 ≤ n ∧ n < (T.length : Int)) ∧ RetX Cs 7 H E))
theorem okB_merge_x {f : Addr} {fd : FuncData} {C : Addr} (Tb : BkT K mg C) {Cs : Nat → Addr} (G : EG mg Cs) (F : Fun K "merge" "Book.merge" sB_merge_x f fd) (z : Bt mg) (CB_check : CalM P w K mg base 1 C "_check" ["self", "number"] (spB_check K C)) (CB_check_x : CalMX P w K mg base 1 C "_check" ["self", "number"] (spB_check_x K Cs C)) (R7 : ErrR K Cs 7) : FnOk P w K mg base (L2N.CX P w) 2 f fd ["self", "one", "other", "picks"] (spB_merge_x K Cs C) := by
  refine okN F (k := 1) scB_merge_x (fun ws H Q E h => ?_) (fun cdv A outer s H ws Q E hr h => ?_)
  · obtain ⟨_, _, _, _, _, _, _, _, rfl, _⟩ := h
    rfl
  · obtain ⟨b, bt, bp, T, P, v1, v2, u0, rfl, hb, hc⟩ := h
    refine ⟨_, (pss_or (pss_cons (ps_expr (pe_calMX CB_check_x (L2N.takes_of rfl rfl rfl rfl) (hr.mono (by decide)) (pv 0) (pa_cons (pv 1) pa_nil))) pss_never) (pss_or (pss_cons (ps_expr (pe_calM CB_check (hr.mono (by decide)) (pv 0) (pa_cons (pv 1) pa_nil))) (pss_cons (ps_expr (pe_calMX CB_check_x (L2N.takes_of rfl rfl rfl rfl) (hr.mono (by decide)) (pv 0) (pa_cons (pv 2) pa_nil))) pss_never)) (pss_cons (ps_expr (pe_calM CB_check (hr.mono (by decide)) (pv 0) (pa_cons (pv 1) pa_nil))) (pss_cons (ps_expr (pe_calM CB_check (hr.mono (by decide)) (pv 0) (pa_cons (pv 2) pa_nil))) (pss_cons (ps_if (pt_cmpR op_eq (pv 1) (pv 2) (nomark _)) (pss_one (L2N.ps_raise rfl (L2N.takes_of rfl rfl rfl rfl) (L2N.pmk_own PySem.F.excBase_ValueError R7.x G.g7 R7.kp (raises_own R7.b R7.t) (by exact rfl)))) pss_nil) pss_never))))), ?_⟩
    rcases hc with ⟨hv, hx⟩ | ⟨n, rfl, hn, hv, hx⟩ | ⟨n, rfl, rfl, hn, hx⟩
    · refine Or.inl ?_
      refine q_rz (mx_rz (ev_var rfl) hb.1 (by decide +kernel) (by decide +kernel) (ax_v (ev_var rfl) ax_nil) fun ws H1 e1 hP Q1 => ?_)
      obtain ⟨_, rfl, rfl⟩ := hP
      exact ⟨b, bt, bp, T, P, _, rfl, hb.ex e1, hv, fun H2 e2 => hx H2 (e1.trans e2)⟩
    · refine Or.inr (Or.inl ?_)
      refine q_none (ev_met (ev_var rfl) hb.1 (by decide +kernel) (by decide +kernel) (ev_call (ea_cons ev_k (ea_cons (ev_var rfl) ea_nil)) (sv_of fun HC eC => ⟨_, _, _, _, _, _, rfl, BkR.ex hb eC, hn, rfl⟩))) fun H0 e0 => ?_
      have hb0 := hb.ex e0
      refine q_rz (mx_rz (ev_var rfl) hb0.1 (by decide +kernel) (by decide +kernel) (ax_v (ev_var rfl) ax_nil) fun ws H1 e1 hP Q1 => ?_)
      obtain ⟨_, rfl, rfl⟩ := hP
      exact ⟨b, bt, bp, T, P, _, rfl, hb0.ex e1, hv, fun H2 e2 => hx H2 (e0.trans (e1.trans e2))⟩
    · refine Or.inr (Or.inr ?_)
      refine q_none (ev_met (ev_var rfl) hb.1 (by decide +kernel) (by decide +kernel) (ev_call (ea_cons ev_k (ea_cons (ev_var rfl) ea_nil)) (sv_of fun HC eC => ⟨_, _, _, _, _, _, rfl, BkR.ex hb eC, hn, rfl⟩))) fun H0 e0 => ?_
      have hb0 := hb.ex e0
      refine q_none (ev_met (ev_var rfl) hb0.1 (by decide +kernel) (by decide +kernel) (ev_call (ea_cons ev_k (ea_cons (ev_var rfl) ea_nil)) (sv_of fun HC eC => ⟨_, _, _, _, _, _, rfl, BkR.ex hb0 eC, hn, rfl⟩))) fun H1 e1 => ?_
      exact q_when (b := (decide (n = n))) (et_test (e_eqI (ev_var rfl) (ev_var rfl))) (fun _ H2 e2 => hx H2 ((e0.trans e1).trans e2)) (fun hc => absurd (hc.symm.trans (decide_eq_true rfl)) (by decide))
def spB_road_x (K : PySem.W.Frag) (Cs : Nat → Addr) (C : Addr) : Sp := fun ws H Q E => ∃ (b bt bp : Addr) (T : List (List (Tx × Tx))) (P : List (List Int)) (v1 v2 : V), ws = [.ref b, v1, v2] ∧ BkR K C H b bt bp T P ∧ ((Bad T v1 ∧ RetX Cs 6 H E) ∨ (∃ n, v1 = .int n ∧ (0 ≤ n ∧ n < (T.length : Int)) ∧ Bad T v2 ∧ RetX Cs 6 H E))
theorem okB_road_x {f : Addr} {fd : FuncData} {C : Addr} (Tb : BkT K mg C) {Cs : Nat → Addr} (G : EG mg Cs) (F : Fun K "road" "Book.road" sB_road_x f fd) (z : Bt mg) (CB_check : CalM P w K mg base 1 C "_check" ["self", "number"] (spB_check K C)) (CB_check_x : CalMX P w K mg base 1 C "_check" ["self", "number"] (spB_check_x K Cs C)) : FnOk P w K mg base (L2N.CX P w) 2 f fd ["self", "elder", "number"] (spB_road_x K Cs C) := by
  refine okN F (k := 1) scB_road_x (fun ws H Q E h => ?_) (fun cdv A outer s H ws Q E hr h => ?_)
  · obtain ⟨_, _, _, _, _, _, _, rfl, _⟩ := h
    rfl
  · obtain ⟨b, bt, bp, T, P, v1, v2, rfl, hb, hc⟩ := h
    refine ⟨_, (pss_or (pss_cons (ps_expr (pe_calMX CB_check_x (L2N.takes_of rfl rfl rfl rfl) (hr.mono (by decide)) (pv 0) (pa_cons (pv 1) pa_nil))) pss_never) (pss_cons (ps_expr (pe_calM CB_check (hr.mono (by decide)) (pv 0) (pa_cons (pv 1) pa_nil))) (pss_cons (ps_expr (pe_calMX CB_check_x (L2N.takes_of rfl rfl rfl rfl) (hr.mono (by decide)) (pv 0) (pa_cons (pv 2) pa_nil))) pss_never))), ?_⟩
    rcases hc with ⟨hv, hx⟩ | ⟨n, rfl, hn, hv, hx⟩
    · refine Or.inl ?_
      refine q_rz (mx_rz (ev_var rfl) hb.1 (by decide +kernel) (by decide +kernel) (ax_v (ev_var rfl) ax_nil) fun ws H1 e1 hP Q1 => ?_)
      obtain ⟨_, rfl, rfl⟩ := hP
      exact ⟨b, bt, bp, T, P, _, rfl, hb.ex e1, hv, fun H2 e2 => hx H2 (e1.trans e2)⟩
    · refine Or.inr ?_
      refine q_none (ev_met (ev_var rfl) hb.1 (by decide +kernel) (by decide +kernel) (ev_call (ea_cons ev_k (ea_cons (ev_var rfl) ea_nil)) (sv_of fun HC eC => ⟨_, _, _, _, _, _, rfl, BkR.ex hb eC, hn, rfl⟩))) fun H0 e0 => ?_
      have hb0 := hb.ex e0
      refine q_rz (mx_rz (ev_var rfl) hb0.1 (by decide +kernel) (by decide +kernel) (ax_v (ev_var rfl) ax_nil) fun ws H1 e1 hP Q1 => ?_)
      obtain ⟨_, rfl, rfl⟩ := hP
      exact ⟨b, bt, bp, T, P, _, rfl, hb0.ex e1, hv, fun H2 e2 => hx H2 (e0.trans (e1.trans e2))⟩
def spB_nearest_x (K : PySem.W.Frag) (Cs : Nat → Addr) (C : Addr) : Sp := fun ws H Q E => ∃ (b bt bp : Addr) (T : List (List (Tx × Tx))) (P : List (List Int)) (v1 v2 : V), ws = [.ref b, v1, v2] ∧ BkR K C H b bt bp T P ∧ ((Bad T v1 ∧ RetX Cs 6 H E) ∨ (∃ n, v1 = .int n ∧ OkB T P ∧ (0 ≤ n ∧ n < (T.length : Int)) ∧ Bad T v2 ∧ RetX Cs 6 H E))
theorem okB_nearest_x {f : Addr} {fd : FuncData} {C : Addr} (Tb : BkT K mg C) {Cs : Nat → Addr} (G : EG mg Cs) (F : Fun K "nearest" "Book.nearest" sB_nearest_x f fd) (z : Bt mg) (CB_elders : CalM P w K mg base 2 C "elders" ["self", "number"] (spB_elders K C)) (CB_elders_x : CalMX P w K mg base 2 C "elders" ["self", "number"] (spB_elders_x K Cs C)) : FnOk P w K mg base (L2N.CX P w) 3 f fd ["self", "one", "other"] (spB_nearest_x K Cs C) := by
  refine okN F (k := 2) scB_nearest_x (fun ws H Q E h => ?_) (fun cdv A outer s H ws Q E hr h => ?_)
  · obtain ⟨_, _, _, _, _, _, _, rfl, _⟩ := h
    rfl
  · obtain ⟨b, bt, bp, T, P, v1, v2, rfl, hb, hc⟩ := h
    refine ⟨_, (pss_one (ps_or (ps_ret (pe_ix (ix_listK K) (pe_callB (call_srtI rfl) (by rfl) z.z_sorted (by decide +kernel) (pa_cons (pe_op op_andM (pe_callTy (call_setLi rfl) (by rfl) z.z_set (by decide +kernel) (pa_cons (pe_calMX CB_elders_x (L2N.takes_of rfl rfl rfl rfl) (hr.mono (by decide)) (pv 0) (pa_cons (pv 1) pa_nil)) pa_nil)) (pe_callTy (call_setLi rfl) (by rfl) z.z_set (by decide +kernel) (pa_cons (pe_calM CB_elders (hr.mono (by decide)) (pv 0) (pa_cons (pv 2) pa_nil)) pa_nil))) pa_nil)) (pe_un un_neg pe_int) (fun _ _ => rfl))) (ps_ret (pe_ix (ix_listK K) (pe_callB (call_srtI rfl) (by rfl) z.z_sorted (by decide +kernel) (pa_cons (pe_op op_andM (pe_callTy (call_setLi rfl) (by rfl) z.z_set (by decide +kernel) (pa_cons (pe_calM CB_elders (hr.mono (by decide)) (pv 0) (pa_cons (pv 1) pa_nil)) pa_nil)) (pe_callTy (call_setLi rfl) (by rfl) z.z_set (by decide +kernel) (pa_cons (pe_calMX CB_elders_x (L2N.takes_of rfl rfl rfl rfl) (hr.mono (by decide)) (pv 0) (pa_cons (pv 2) pa_nil)) pa_nil))) pa_nil)) (pe_un un_neg pe_int) (fun _ _ => rfl))))), ?_⟩
    rcases hc with ⟨hv, hx⟩ | ⟨n, rfl, hok, hn, hv, hx⟩
    · exact Or.inl (r_rz (rz_opl (rz_cb (rz_a (rz_opl (rz_cb (rz_a (mx_rz (ev_var rfl) hb.1 (by decide +kernel) (by decide +kernel) (ax_v (ev_var rfl) ax_nil) fun ws H1 e1 hP Q1 => by
      obtain ⟨_, rfl, rfl⟩ := hP
      exact ⟨b, bt, bp, T, P, _, rfl, hb.ex e1, hv, fun H2 e2 => hx H2 (e1.trans e2)⟩))))))))
    · have hb2 := hok.big
      have ge := len_elders hok hn.1 hn.2
      exact Or.inr (r_rz (rz_opl (rz_cb (rz_a (rz_opr (evs_z (w := w) (z_setL (K := K) (l := mB_elders T P n) (el_met (ev_var rfl) hb.1 (by decide +kernel) (by decide +kernel) (el_call (ea_cons ev_k (ea_cons (ev_var rfl) ea_nil)) (sl_of fun HC eC => ⟨_, _, _, _, _, _, rfl, BkR.ex hb eC, ⟨hok, hn⟩, rfl⟩))) (by omega))) (rz_cb (rz_a (mx_rz (ev_var rfl) hb.1 (by decide +kernel) (by decide +kernel) (ax_v (ev_var rfl) ax_nil) fun ws H1 e1 hP Q1 => by
      obtain ⟨_, rfl, rfl⟩ := hP
      exact ⟨b, bt, bp, T, P, _, rfl, hb.ex e1, hv, fun H2 e2 => hx H2 (e1.trans e2)⟩))))))))
def spB_story_x (K : PySem.W.Frag) (Cs : Nat → Addr) (C : Addr) : Sp := fun ws H Q E => ∃ (b bt bp : Addr) (T : List (List (Tx × Tx))) (P : List (List Int)) (v u : V), ws = [.ref b, v, u] ∧ BkR K C H b bt bp T P ∧ Bad T v ∧ RetX Cs 6 H E
theorem okB_story_x {f : Addr} {fd : FuncData} {C : Addr} (Tb : BkT K mg C) {Cs : Nat → Addr} (G : EG mg Cs) (F : Fun K "story" "Book.story" sB_story_x f fd) (z : Bt mg) (CB_elders_x : CalMX P w K mg base 2 C "elders" ["self", "number"] (spB_elders_x K Cs C)) (CB_has_changed : CalM P w K mg base 1 C "_has_changed" ["self", "number", "path"] (spB_has_changed K C)) (CB_elders : CalM P w K mg base 2 C "elders" ["self", "number"] (spB_elders K C)) : FnOk P w K mg base (L2N.CX P w) 3 f fd ["self", "number", "path"] (spB_story_x K Cs C) := by
  refine okN F (k := 2) scB_story_x (fun ws H Q E h => ?_) (fun cdv A outer s H ws Q E hr h => ?_)
  · obtain ⟨_, _, _, _, _, _, _, rfl, _⟩ := h
    rfl
  · obtain ⟨b, bt, bp, T, P, v, u, rfl, hb, hv, hx⟩ := h
    refine ⟨_, (pss_one (ps_ret (pe_lc (own := [("at", 3)]) (g := gName 3) rfl scB_story_x.nd (pi_listK K (pe_calMX CB_elders_x (L2N.takes_of rfl rfl rfl rfl) (hr.mono (by decide)) (pv 0) (pa_cons (pv 1) pa_nil))) (blkOk_by (own := [("at", 3)]) (N := ["self", "number", "path", "at"]) (sc := defScope sB_story_x) (by decide +kernel)) (fun _ _ _ _ _ => pg_name (i := 3) scB_story_x.nd rfl (Or.inl rfl)) (fun _ _ _ _ _ => pts_one (pt_val (pe_calM CB_has_changed (hr.mono (by decide)) (pv 0) (pa_cons (pv 3) (pa_cons (pv 2) pa_nil))))) (fun _ _ _ _ _ => (pv 3))))), ?_⟩
    exact r_rz (rz_lc (mx_rz (ev_var rfl) hb.1 (by decide +kernel) (by decide +kernel) (ax_v (ev_var rfl) ax_nil) fun ws H1 e1 hP Q1 => by
      obtain ⟨_, rfl, rfl⟩ := hP
      exact ⟨b, bt, bp, T, P, _, rfl, hb.ex e1, hv, fun H2 e2 => hx H2 (e1.trans e2)⟩))
def sp_law_cell_at (K : PySem.W.Frag) : Sp := spP fun ws H v => ∃ (ap_script : Addr) (p_script : List Int) (p_k : Int), ws = [.ref ap_script, V.int p_k] ∧ SqL K H ap_script (List.map V.int p_script) ∧ (0 ≤ p_k) ∧ v = V.int (m_law_cell_at p_script p_k)
theorem ok_law_cell_at {f : Addr} {fd : FuncData} (F : Fun K "_law_cell_at" "_law_cell_at" s_law_cell_at f fd) (z : Bt mg)  : FnOk P w K mg base CX0 1 f fd ["_law_script", "_law_k"] (sp_law_cell_at K) := by
  refine F.ok (k := 0) sc_law_cell_at (fun ws H Q E h => ?_) (fun cdv A outer s H ws Q E hr h => ?_)
  · obtain ⟨_, ⟨_, _, _, rfl, _⟩, _⟩ := h
    rfl
  · obtain ⟨_, ⟨ap_script, p_script, p_k, rfl, hSp_script, hpre, rfl⟩, k0⟩ := h
    obtain ⟨tk_MOST_PARTS, z_g_MOST_PARTS⟩ := z.g_MOST_PARTS
    obtain ⟨tk_MOST_SIGNS, z_g_MOST_SIGNS⟩ := z.g_MOST_SIGNS
    obtain ⟨tk_SIGNS, z_g_SIGNS⟩ := z.g_SIGNS
    refine ⟨_, (pss_cons (ps_if (pt_cmpR op_lt (pv 1) (pe_callB (call_lenK K) (by rfl) z.z_len PySem.boot_len (pa_cons (pv 0) pa_nil)) (nomark _)) (pss_one (ps_ret (pe_ix (ix_listK K) (pv 0) (pv 1) (fun _ _ => rfl)))) pss_nil)
      (pss_one (ps_ret pe_int))), ?_⟩
    refine q_when (b := (decide (p_k < (p_script.length : Int)))) (et_test (e_lt (ev_var rfl) (e_lenL (f := V.int) (l := p_script) (ev_var rfl) (rx_l (RX.refl H) hSp_script)))) (fun hb1 H1 e1a => ?_) (fun hb1 H1 e1a => ?_)
    · have e1 := Ex.trans (Ex.refl H) e1a
      have r1 := rx_of e1
      have k1a := ret_T k0 hb1
      exact s_ret (e_ixL (f := V.int) (l := p_script) 0 (ev_var rfl) (rx_l r1 hSp_script) (ev_var rfl) (by walk_at "vside")) fun H2 e2a => (RetV.go k1a (Ex.trans e1 e2a))
    · have e1 := Ex.trans (Ex.refl H) e1a
      have r1 := rx_of e1
      have k2b := ret_F k0 hb1
      exact s_ret ev_c fun H3 e3a => (RetV.go k2b (Ex.trans e1 e3a))
def spAsk (K : PySem.W.Frag) (Cs : Nat → Addr) (C : Addr) (ws : List V) (H : Hp) (E : XK) : Prop := ∃ (b bt bp : Addr) (T : List (List (Tx × Tx))) (P : List (List Int)) (k : Nat) (v : V) (n : Int), ws = [.ref b, .int k, v, .int n] ∧ BkR K C H b bt bp T P ∧ OkB T P ∧ k < 14 ∧ Bad T v ∧ (0 ≤ n ∧ n < (T.length : Int)) ∧ (k < 12 → RetX Cs 6 H E) ∧ (¬ k < 12 → RetX Cs 7 H E)
def sp_law_asked (K : PySem.W.Frag) (Cs : Nat → Addr) (C : Addr) : Sp := fun ws H _ E => spAsk K Cs C ws H E
theorem ok_law_asked {f : Addr} {fd : FuncData} {C : Addr} (Tb : BkT K mg C) {Cs : Nat → Addr} (G : EG mg Cs) (F : Fun K "_law_asked" "_law_asked" s_law_asked f fd) (z : Bt mg) (CB_tree_x : CalMX P w K mg base 2 C "tree" ["self", "number"] (spB_tree_x K Cs C)) (CB_parents_x : CalMX P w K mg base 2 C "parents" ["self", "number"] (spB_parents_x K Cs C)) (CB_grow_x : CalMX P w K mg base 2 C "grow" ["self", "parent", "deeds"] (spB_grow_x K Cs C)) (CB_merge_x : CalMX P w K mg base 2 C "merge" ["self", "one", "other", "picks"] (spB_merge_x K Cs C)) (CB_elders_x : CalMX P w K mg base 2 C "elders" ["self", "number"] (spB_elders_x K Cs C)) (CB_nearest_x : CalMX P w K mg base 3 C "nearest" ["self", "one", "other"] (spB_nearest_x K Cs C)) (CB_road_x : CalMX P w K mg base 2 C "road" ["self", "elder", "number"] (spB_road_x K Cs C)) (CB_story_x : CalMX P w K mg base 3 C "story" ["self", "number", "path"] (spB_story_x K Cs C)) : FnOk P w K mg base (L2N.CX P w) 4 f fd ["_law_book", "_law_way", "_law_wrong", "_law_good"] (sp_law_asked K Cs C) := by
  refine okN F (k := 3) sc_law_asked (fun ws H Q E h => ?_) (fun cdv A outer s H ws Q E hr h => ?_)
  · obtain ⟨_, _, _, _, _, _, _, _, rfl, _⟩ := h
    rfl
  · obtain ⟨b, bt, bp, T, P, k, v, n, rfl, hb, hok, hk14, hv, hg, h6, h7⟩ := h
    refine ⟨_, (pss_cons (ps_if (pt_cmpR op_eq (pv 1) pe_int (nomark _)) (pss_one (ps_ret (pe_calMX CB_tree_x (L2N.takes_of rfl rfl rfl rfl) (hr.mono (by decide)) (pv 0) (pa_cons (pv 2) pa_nil)))) pss_nil)
      (pss_cons (ps_if (pt_cmpR op_eq (pv 1) pe_int (nomark _)) (pss_one (ps_ret (pe_calMX CB_parents_x (L2N.takes_of rfl rfl rfl rfl) (hr.mono (by decide)) (pv 0) (pa_cons (pv 2) pa_nil)))) pss_nil)
      (pss_cons (ps_if (pt_cmpR op_eq (pv 1) pe_int (nomark _)) (pss_one (ps_ret (pe_calMX CB_grow_x (L2N.takes_of rfl rfl rfl rfl) (hr.mono (by decide)) (pv 0) (pa_cons (pv 2) (pa_cons (pe_lst (pa_cons (pe_tup (pa_cons pe_str (pa_cons pe_str pa_nil))) pa_nil)) pa_nil))))) pss_nil)
      (pss_cons (ps_if (pt_cmpR op_eq (pv 1) pe_int (nomark _)) (pss_one (ps_ret (pe_calMX CB_merge_x (L2N.takes_of rfl rfl rfl rfl) (hr.mono (by decide)) (pv 0) (pa_cons (pv 2) (pa_cons (pv 3) (pa_cons (pe_disp (pps_cons pe_str pe_str pps_nil) (by rfl) (by rfl) (by simp) (by decide)) pa_nil)))))) pss_nil)
      (pss_cons (ps_if (pt_cmpR op_eq (pv 1) pe_int (nomark _)) (pss_one (ps_ret (pe_calMX CB_merge_x (L2N.takes_of rfl rfl rfl rfl) (hr.mono (by decide)) (pv 0) (pa_cons (pv 3) (pa_cons (pv 2) (pa_cons pe_dnewK pa_nil)))))) pss_nil)
      (pss_cons (ps_if (pt_cmpR op_eq (pv 1) pe_int (nomark _)) (pss_one (ps_ret (pe_calMX CB_elders_x (L2N.takes_of rfl rfl rfl rfl) (hr.mono (by decide)) (pv 0) (pa_cons (pv 2) pa_nil)))) pss_nil)
      (pss_cons (ps_if (pt_cmpR op_eq (pv 1) pe_int (nomark _)) (pss_one (ps_ret (pe_calMX CB_nearest_x (L2N.takes_of rfl rfl rfl rfl) (hr.mono (by decide)) (pv 0) (pa_cons (pv 2) (pa_cons (pv 3) pa_nil))))) pss_nil)
      (pss_cons (ps_if (pt_cmpR op_eq (pv 1) pe_int (nomark _)) (pss_one (ps_ret (pe_calMX CB_nearest_x (L2N.takes_of rfl rfl rfl rfl) (hr.mono (by decide)) (pv 0) (pa_cons (pv 3) (pa_cons (pv 2) pa_nil))))) pss_nil)
      (pss_cons (ps_if (pt_cmpR op_eq (pv 1) pe_int (nomark _)) (pss_one (ps_ret (pe_calMX CB_road_x (L2N.takes_of rfl rfl rfl rfl) (hr.mono (by decide)) (pv 0) (pa_cons (pv 2) (pa_cons (pv 3) pa_nil))))) pss_nil)
      (pss_cons (ps_if (pt_cmpR op_eq (pv 1) pe_int (nomark _)) (pss_one (ps_ret (pe_calMX CB_road_x (L2N.takes_of rfl rfl rfl rfl) (hr.mono (by decide)) (pv 0) (pa_cons (pv 3) (pa_cons (pv 2) pa_nil))))) pss_nil)
      (pss_cons (ps_if (pt_cmpR op_eq (pv 1) pe_int (nomark _)) (pss_one (ps_ret (pe_calMX CB_story_x (L2N.takes_of rfl rfl rfl rfl) (hr.mono (by decide)) (pv 0) (pa_cons (pv 2) (pa_cons pe_str pa_nil))))) pss_nil)
      (pss_cons (ps_if (pt_cmpR op_eq (pv 1) pe_int (nomark _)) (pss_one (ps_ret (pe_calMX CB_merge_x (L2N.takes_of rfl rfl rfl rfl) (hr.mono (by decide)) (pv 0) (pa_cons (pv 2) (pa_cons (pv 2) (pa_cons pe_dnewK pa_nil)))))) pss_nil)
      (pss_one (ps_ret (pe_calMX CB_merge_x (L2N.takes_of rfl rfl rfl rfl) (hr.mono (by decide)) (pv 0) (pa_cons (pv 3) (pa_cons (pv 3) (pa_cons (pe_ix (ix_listK K) (pe_lst (pa_cons pe_dnewK (pa_cons (pe_disp (pps_cons pe_str pe_str pps_nil) (by rfl) (by rfl) (by simp) (by decide)) pa_nil))) (pe_op op_mod (pv 1) pe_int) (fun _ _ => rfl)) pa_nil)))))))))))))))))), ?_⟩
    have e0 := Ex.refl H
    refine q_when (b := (decide ((k : Int) = (0 : Int)))) (et_test (e_eqI (ev_var rfl) ev_c)) (fun hc H1 e1a => ?_) (fun hc0 H1 e1a => ?_)
    · have hk := h6 (by have := of_decide_eq_true hc; omega)
      have e1 := e0.trans e1a
      exact r_rz (mx_rz (ev_var rfl) (BkR.ex hb e1).1 (by decide +kernel) (by decide +kernel) (ax_v (ev_var rfl) ax_nil) fun ws HZ eZ hP Q1 => by obtain ⟨_, rfl, rfl⟩ := hP; exact ⟨b, bt, bp, T, P, v, rfl, BkR.ex hb (e1.trans eZ), hv, (fun HY eY => hk HY ((e1.trans eZ).trans eY))⟩)
    have e1 := e0.trans e1a
    refine q_when (b := (decide ((k : Int) = (1 : Int)))) (et_test (e_eqI (ev_var rfl) ev_c)) (fun hc H2 e2a => ?_) (fun hc1 H2 e2a => ?_)
    · have hk := h6 (by have := of_decide_eq_true hc; omega)
      have e2 := e1.trans e2a
      exact r_rz (mx_rz (ev_var rfl) (BkR.ex hb e2).1 (by decide +kernel) (by decide +kernel) (ax_v (ev_var rfl) ax_nil) fun ws HZ eZ hP Q1 => by obtain ⟨_, rfl, rfl⟩ := hP; exact ⟨b, bt, bp, T, P, v, rfl, BkR.ex hb (e2.trans eZ), hv, (fun HY eY => hk HY ((e2.trans eZ).trans eY))⟩)
    have e2 := e1.trans e2a
    refine q_when (b := (decide ((k : Int) = (2 : Int)))) (et_test (e_eqI (ev_var rfl) ev_c)) (fun hc H3 e3a => ?_) (fun hc2 H3 e3a => ?_)
    · have hk := h6 (by have := of_decide_eq_true hc; omega)
      have e3 := e2.trans e3a
      exact r_rz (mx_rz (ev_var rfl) (BkR.ex hb e3).1 (by decide +kernel) (by decide +kernel) (ax_v (ev_var rfl) (ax_u2 (K := K) (eu2_is (l2 := (List.map (List.map vs) [[lCut, l_f28593d3]])) (u2_lst (er_consT (tu_new (eu_tup (ea_cons (ev_is (w := vs lCut) e_lit rfl) (ea_cons (ev_is (w := vs l_f28593d3) e_lit rfl) ea_nil)) (by simp))) er_nil) (by simp)) rfl) ax_nil)) fun ws HZ eZ hP Q1 => by obtain ⟨_, rfl, _, _, rfl, _, rfl⟩ := hP; exact ⟨b, bt, bp, T, P, v, _, rfl, BkR.ex hb (e3.trans eZ), hv, (fun HY eY => hk HY ((e3.trans eZ).trans eY))⟩)
    have e3 := e2.trans e3a
    refine q_when (b := (decide ((k : Int) = (3 : Int)))) (et_test (e_eqI (ev_var rfl) ev_c)) (fun hc H4 e4a => ?_) (fun hc3 H4 e4a => ?_)
    · have hk := h6 (by have := of_decide_eq_true hc; omega)
      have e4 := e3.trans e4a
      exact r_rz (mx_rz (ev_var rfl) (BkR.ex hb e4).1 (by decide +kernel) (by decide +kernel) (ax_v (ev_var rfl) (ax_v (ev_var rfl) (ax_k (k_disp1 (fun _ => e_lit) (fun _ => e_lit)) ax_nil))) fun ws HZ eZ hP Q1 => by obtain ⟨_, rfl, _, rfl, _, _, rfl, _, rfl⟩ := hP; exact ⟨b, bt, bp, T, P, v, _, _, rfl, BkR.ex hb (e4.trans eZ), Or.inl ⟨hv, (fun HY eY => hk HY ((e4.trans eZ).trans eY))⟩⟩)
    have e4 := e3.trans e4a
    refine q_when (b := (decide ((k : Int) = (4 : Int)))) (et_test (e_eqI (ev_var rfl) ev_c)) (fun hc H5 e5a => ?_) (fun hc4 H5 e5a => ?_)
    · have hk := h6 (by have := of_decide_eq_true hc; omega)
      have e5 := e4.trans e5a
      exact r_rz (mx_rz (ev_var rfl) (BkR.ex hb e5).1 (by decide +kernel) (by decide +kernel) (ax_v (ev_var rfl) (ax_v (ev_var rfl) (ax_k (kvs := []) k_new ax_nil))) fun ws HZ eZ hP Q1 => by obtain ⟨_, rfl, _, rfl, _, _, rfl, _, rfl⟩ := hP; exact ⟨b, bt, bp, T, P, _, v, _, rfl, BkR.ex hb (e5.trans eZ), Or.inr (Or.inl ⟨_, rfl, hg, hv, (fun HY eY => hk HY ((e5.trans eZ).trans eY))⟩)⟩)
    have e5 := e4.trans e5a
    refine q_when (b := (decide ((k : Int) = (5 : Int)))) (et_test (e_eqI (ev_var rfl) ev_c)) (fun hc H6 e6a => ?_) (fun hc5 H6 e6a => ?_)
    · have hk := h6 (by have := of_decide_eq_true hc; omega)
      have e6 := e5.trans e6a
      exact r_rz (mx_rz (ev_var rfl) (BkR.ex hb e6).1 (by decide +kernel) (by decide +kernel) (ax_v (ev_var rfl) ax_nil) fun ws HZ eZ hP Q1 => by obtain ⟨_, rfl, rfl⟩ := hP; exact ⟨b, bt, bp, T, P, v, rfl, BkR.ex hb (e6.trans eZ), hv, (fun HY eY => hk HY ((e6.trans eZ).trans eY))⟩)
    have e6 := e5.trans e6a
    refine q_when (b := (decide ((k : Int) = (6 : Int)))) (et_test (e_eqI (ev_var rfl) ev_c)) (fun hc H7 e7a => ?_) (fun hc6 H7 e7a => ?_)
    · have hk := h6 (by have := of_decide_eq_true hc; omega)
      have e7 := e6.trans e7a
      exact r_rz (mx_rz (ev_var rfl) (BkR.ex hb e7).1 (by decide +kernel) (by decide +kernel) (ax_v (ev_var rfl) (ax_v (ev_var rfl) ax_nil)) fun ws HZ eZ hP Q1 => by obtain ⟨_, rfl, _, rfl, rfl⟩ := hP; exact ⟨b, bt, bp, T, P, v, _, rfl, BkR.ex hb (e7.trans eZ), Or.inl ⟨hv, (fun HY eY => hk HY ((e7.trans eZ).trans eY))⟩⟩)
    have e7 := e6.trans e7a
    refine q_when (b := (decide ((k : Int) = (7 : Int)))) (et_test (e_eqI (ev_var rfl) ev_c)) (fun hc H8 e8a => ?_) (fun hc7 H8 e8a => ?_)
    · have hk := h6 (by have := of_decide_eq_true hc; omega)
      have e8 := e7.trans e8a
      exact r_rz (mx_rz (ev_var rfl) (BkR.ex hb e8).1 (by decide +kernel) (by decide +kernel) (ax_v (ev_var rfl) (ax_v (ev_var rfl) ax_nil)) fun ws HZ eZ hP Q1 => by obtain ⟨_, rfl, _, rfl, rfl⟩ := hP; exact ⟨b, bt, bp, T, P, _, v, rfl, BkR.ex hb (e8.trans eZ), Or.inr ⟨_, rfl, hok, hg, hv, (fun HY eY => hk HY ((e8.trans eZ).trans eY))⟩⟩)
    have e8 := e7.trans e8a
    refine q_when (b := (decide ((k : Int) = (8 : Int)))) (et_test (e_eqI (ev_var rfl) ev_c)) (fun hc H9 e9a => ?_) (fun hc8 H9 e9a => ?_)
    · have hk := h6 (by have := of_decide_eq_true hc; omega)
      have e9 := e8.trans e9a
      exact r_rz (mx_rz (ev_var rfl) (BkR.ex hb e9).1 (by decide +kernel) (by decide +kernel) (ax_v (ev_var rfl) (ax_v (ev_var rfl) ax_nil)) fun ws HZ eZ hP Q1 => by obtain ⟨_, rfl, _, rfl, rfl⟩ := hP; exact ⟨b, bt, bp, T, P, v, _, rfl, BkR.ex hb (e9.trans eZ), Or.inl ⟨hv, (fun HY eY => hk HY ((e9.trans eZ).trans eY))⟩⟩)
    have e9 := e8.trans e9a
    refine q_when (b := (decide ((k : Int) = (9 : Int)))) (et_test (e_eqI (ev_var rfl) ev_c)) (fun hc H10 e10a => ?_) (fun hc9 H10 e10a => ?_)
    · have hk := h6 (by have := of_decide_eq_true hc; omega)
      have e10 := e9.trans e10a
      exact r_rz (mx_rz (ev_var rfl) (BkR.ex hb e10).1 (by decide +kernel) (by decide +kernel) (ax_v (ev_var rfl) (ax_v (ev_var rfl) ax_nil)) fun ws HZ eZ hP Q1 => by obtain ⟨_, rfl, _, rfl, rfl⟩ := hP; exact ⟨b, bt, bp, T, P, _, v, rfl, BkR.ex hb (e10.trans eZ), Or.inr ⟨_, rfl, hg, hv, (fun HY eY => hk HY ((e10.trans eZ).trans eY))⟩⟩)
    have e10 := e9.trans e10a
    refine q_when (b := (decide ((k : Int) = (10 : Int)))) (et_test (e_eqI (ev_var rfl) ev_c)) (fun hc H11 e11a => ?_) (fun hc10 H11 e11a => ?_)
    · have hk := h6 (by have := of_decide_eq_true hc; omega)
      have e11 := e10.trans e11a
      exact r_rz (mx_rz (ev_var rfl) (BkR.ex hb e11).1 (by decide +kernel) (by decide +kernel) (ax_v (ev_var rfl) (ax_v e_lit ax_nil)) fun ws HZ eZ hP Q1 => by obtain ⟨_, rfl, _, rfl, rfl⟩ := hP; exact ⟨b, bt, bp, T, P, v, _, rfl, BkR.ex hb (e11.trans eZ), hv, (fun HY eY => hk HY ((e11.trans eZ).trans eY))⟩)
    have e11 := e10.trans e11a
    refine q_when (b := (decide ((k : Int) = (11 : Int)))) (et_test (e_eqI (ev_var rfl) ev_c)) (fun hc H12 e12a => ?_) (fun hc11 H12 e12a => ?_)
    · have hk := h6 (by have := of_decide_eq_true hc; omega)
      have e12 := e11.trans e12a
      exact r_rz (mx_rz (ev_var rfl) (BkR.ex hb e12).1 (by decide +kernel) (by decide +kernel) (ax_v (ev_var rfl) (ax_v (ev_var rfl) (ax_k (kvs := []) k_new ax_nil))) fun ws HZ eZ hP Q1 => by obtain ⟨_, rfl, _, rfl, _, _, rfl, _, rfl⟩ := hP; exact ⟨b, bt, bp, T, P, v, _, _, rfl, BkR.ex hb (e12.trans eZ), Or.inl ⟨hv, (fun HY eY => hk HY ((e12.trans eZ).trans eY))⟩⟩)
    have e12 := e11.trans e12a
    have a0 := of_decide_eq_false hc0
    have a1 := of_decide_eq_false hc1
    have a2 := of_decide_eq_false hc2
    have a3 := of_decide_eq_false hc3
    have a4 := of_decide_eq_false hc4
    have a5 := of_decide_eq_false hc5
    have a6 := of_decide_eq_false hc6
    have a7 := of_decide_eq_false hc7
    have a8 := of_decide_eq_false hc8
    have a9 := of_decide_eq_false hc9
    have a10 := of_decide_eq_false hc10
    have a11 := of_decide_eq_false hc11
    have hk := h7 (by omega)
    exact r_rz (mx_rz (ev_var rfl) (BkR.ex hb e12).1 (by decide +kernel) (by decide +kernel) (ax_v (ev_var rfl) (ax_v (ev_var rfl) (ax_s (evs_two k_new (k_disp1 (fun _ => e_lit) (fun _ => e_lit)) (e_mod (ev_var rfl) ev_c (by walk_at "vside")) (by omega)) ax_nil))) fun ws HZ eZ hP Q1 => by obtain ⟨_, rfl, _, rfl, _, _, rfl, rfl⟩ := hP; exact ⟨b, bt, bp, T, P, _, _, _, rfl, BkR.ex hb (e12.trans eZ), Or.inr (Or.inr ⟨_, rfl, rfl, hg, (fun HY eY => hk HY ((e12.trans eZ).trans eY))⟩)⟩)
def row_told (k : Nat) : List (Tx × Bool) := [(word 6, decide (6 = 0 ∨ 6 = k)), (word 7, decide (7 = 0 ∨ 7 = k)), (word 4, decide (4 = 0 ∨ 4 = k)), (word 5, decide (5 = 0 ∨ 5 = k)), (word 1, decide (1 = 0 ∨ 1 = k)), (word 2, decide (2 = 0 ∨ 2 = k)), (word 3, decide (3 = 0 ∨ 3 = k))]
theorem row_fit : ∀ k < 8, 1 ≤ k → joinL [] (fit (row_told k)) = word k ∧ sumLen (fit (row_told k)) ≤ 1000 ∧ (fit (row_told k)).length ≤ 1000 ∧ (word k).length ≤ 100 := by decide +kernel
def sp_law_told (K : PySem.W.Frag) (C : Addr) : Sp := fun ws H Q _ => ∃ (b bt bp : Addr) (T : List (List (Tx × Tx))) (P : List (List Int)) (k : Nat) (v : V) (n : Int), ws = [.ref b, .int k, v, .int n] ∧ BkR K C H b bt bp T P ∧ OkB T P ∧ k < 14 ∧ Bad T v ∧ (0 ≤ n ∧ n < (T.length : Int)) ∧ (∀ H2, Ex H H2 → Q (vs (if k < 12 then word 6 else word 7)) H2)
theorem ok_law_told {f : Addr} {fd : FuncData} {C : Addr} (Tb : BkT K mg C) {Cs : Nat → Addr} (G : EG mg Cs) (F : Fun K "_law_told" "_law_told" s_law_told f fd) (z : Bt mg) (C_law_asked : CalX P w K mg base 4 "_law_asked" ["_law_book", "_law_way", "_law_wrong", "_law_good"] (sp_law_asked K Cs C)) (E6 : ErrC K Cs 6) (E7 : ErrC K Cs 7) : FnOk P w K mg base CX0 5 f fd ["_law_book", "_law_way", "_law_wrong", "_law_good"] (sp_law_told K C) := by
  refine F.ok (k := 4) sc_law_told (fun ws H Q E h => ?_) (fun cdv A outer s H ws Q E hr h => ?_)
  · obtain ⟨_, _, _, _, _, _, _, _, rfl, _⟩ := h
    rfl
  · obtain ⟨b, bt, bp, T, P, k, v, n, rfl, hb, hok, hk14, hv, hg, k0⟩ := h
    refine ⟨_, pss_cons (L2N.ps_try_as (i := 5) rfl rfl sc_law_told.nd rfl rfl ⟨rfl, by decide, .inl G.g0⟩ takesN0 (fun W pn xe tk _ => pss_one (ps_expr (pe_calX C_law_asked tk (hr.mono (by decide)) (by rfl) (pa_cons (pv 0) (pa_cons (pv 1) (pa_cons (pv 2) (pa_cons (pv 3) pa_nil)))))))
      (fun a oe cls d pn hz hf => (pss_cons (ps_set (i := 4) sc_law_told.nd rfl (Or.inl rfl) (pe_lst (pa_cons (pe_tup (pa_cons pe_str (pa_cons (pe_callB (call_isX K hz hf) (by rfl) z.z_isinstance (by decide +kernel) (pa_cons (pv 5) (pa_cons (pe_glob (v := .ref (Cs 6)) (by rfl) G.g6 rfl) pa_nil))) pa_nil))) (pa_cons (pe_tup (pa_cons pe_str (pa_cons (pe_callB (call_isX K hz hf) (by rfl) z.z_isinstance (by decide +kernel) (pa_cons (pv 5) (pa_cons (pe_glob (v := .ref (Cs 7)) (by rfl) G.g7 rfl) pa_nil))) pa_nil))) pa_nil))))
      (pss_cons (ps_set (i := 4) sc_law_told.nd rfl (Or.inl rfl) (pe_op op_cat (pv 4) (pe_lst (pa_cons (pe_tup (pa_cons pe_str (pa_cons (pe_callB (call_isX K hz hf) (by rfl) z.z_isinstance (by decide +kernel) (pa_cons (pv 5) (pa_cons (pe_glob (v := .ref (Cs 4)) (by rfl) G.g4 rfl) pa_nil))) pa_nil))) (pa_cons (pe_tup (pa_cons pe_str (pa_cons (pe_callB (call_isX K hz hf) (by rfl) z.z_isinstance (by decide +kernel) (pa_cons (pv 5) (pa_cons (pe_glob (v := .ref (Cs 5)) (by rfl) G.g5 rfl) pa_nil))) pa_nil))) pa_nil)))))
      (pss_cons (ps_set (i := 4) sc_law_told.nd rfl (Or.inl rfl) (pe_op op_cat (pv 4) (pe_lst (pa_cons (pe_tup (pa_cons pe_str (pa_cons (pe_callB (call_isX K hz hf) (by rfl) z.z_isinstance (by decide +kernel) (pa_cons (pv 5) (pa_cons (pe_glob (v := .ref (Cs 1)) (by rfl) G.g1 rfl) pa_nil))) pa_nil))) (pa_cons (pe_tup (pa_cons pe_str (pa_cons (pe_callB (call_isX K hz hf) (by rfl) z.z_isinstance (by decide +kernel) (pa_cons (pv 5) (pa_cons (pe_glob (v := .ref (Cs 2)) (by rfl) G.g2 rfl) pa_nil))) pa_nil))) pa_nil)))))
      (pss_cons (ps_set (i := 4) sc_law_told.nd rfl (Or.inl rfl) (pe_op op_cat (pv 4) (pe_lst (pa_cons (pe_tup (pa_cons pe_str (pa_cons (pe_callB (call_isX K hz hf) (by rfl) z.z_isinstance (by decide +kernel) (pa_cons (pv 5) (pa_cons (pe_glob (v := .ref (Cs 3)) (by rfl) G.g3 rfl) pa_nil))) pa_nil))) pa_nil))))
      (pss_one (ps_ret (pe_op op_mulT (pe_joinK K pe_str (pe_lcH K (p := (a, oe)) (own := [("_law_word", 7), ("_law_fits", 6)]) (g := gTup K 2 (gCons (gName 7) (gCons (gName 6) gNil))) (by exact hot_suite hz hf) (by exact List.mem_cons_self) sc_law_told.nd (pv 4) (blkOk_by (own := [("_law_word", 7), ("_law_fits", 6)]) (N := ["_law_book", "_law_way", "_law_wrong", "_law_good", "_law_some", "e", "_law_fits", "_law_word"]) (sc := defScope s_law_told) (by decide +kernel)) (fun _ _ _ _ _ => pg_tupHK K (by exact ⟨(a, oe), hot_suite hz hf, List.mem_cons_self⟩) (pgs_cons (pg_name (i := 7) sc_law_told.nd rfl (Or.inl rfl)) (pgs_cons (pg_name (i := 6) sc_law_told.nd rfl (Or.inl rfl)) pgs_nil))) (fun _ _ _ _ _ => pts_one (pt_val (pv 6))) (fun _ _ _ _ _ => pv 7))) (pe_callTy call_int1 (by rfl) z.z_int (by decide +kernel) (pa_cons (pe_callB (call_isX K hz hf) (by rfl) z.z_isinstance (by decide +kernel) (pa_cons (pv 5) (pa_cons (pe_bltn (v := .ty "ValueError") (by rfl) z.z_ValueError (by decide +kernel) rfl) pa_nil))) pa_nil))))))))))) (pss_one (ps_ret pe_str)), ?_⟩
    refine q_tryDC ?_
    refine (ea_cons (ev_var rfl) (ea_cons (ev_var rfl) (ea_cons (ev_var rfl) (ea_cons (ev_var rfl) ea_nil)))) H (Ex.refl H) _ fun H1 e1 => ⟨b, bt, bp, T, P, k, v, n, rfl, BkR.ex hb e1, hok, hk14, hv, hg, fun hk H0 e0 => ?_, fun hk H0 e0 => ?_⟩
    · have hE : ErrC K Cs 6 := E6
      have rw1 := row_fit 6 (by decide) (by decide)
      refine ⟨true, hE.ex0, fun _ a na => ?_, fun z => nomatch z⟩
      refine q_asgU2 (K := K) (l := pb [(word 6, decide (6 = 0 ∨ 6 = 6)), (word 7, decide (7 = 0 ∨ 7 = 6))]) (eu2_is (u2_lst (er_cons (eu_tup (ea_cons (ev_is (w := vs (word 6)) e_lit rfl) (ea_cons (e_isX rfl rfl hE.ec (ev_var rfl) ev_c relv_ref (hE.is 6 (by decide))) ea_nil)) (by simp)) (er_cons (eu_tup (ea_cons (ev_is (w := vs (word 7)) e_lit rfl) (ea_cons (e_isX rfl rfl hE.ec (ev_var rfl) ev_c relv_ref (hE.is 7 (by decide))) ea_nil)) (by simp)) er_nil)) (by simp)) rfl) fun p2 H2 n2 e2 h2 => ?_
      refine q_asgU2 (K := K) (l := pb [(word 6, decide (6 = 0 ∨ 6 = 6)), (word 7, decide (7 = 0 ∨ 7 = 6)), (word 4, decide (4 = 0 ∨ 4 = 6)), (word 5, decide (5 = 0 ∨ 5 = 6))]) (eu2_is (u2_cat (ev_var rfl) h2 (u2_lst (er_cons (eu_tup (ea_cons (ev_is (w := vs (word 4)) e_lit rfl) (ea_cons (e_isX rfl rfl hE.ec (ev_var rfl) ev_c relv_ref (hE.is 4 (by decide))) ea_nil)) (by simp)) (er_cons (eu_tup (ea_cons (ev_is (w := vs (word 5)) e_lit rfl) (ea_cons (e_isX rfl rfl hE.ec (ev_var rfl) ev_c relv_ref (hE.is 5 (by decide))) ea_nil)) (by simp)) er_nil)) (by simp)) (by simp [pb])) rfl) fun p3 H3 n3 e3 h3 => ?_
      refine q_asgU2 (K := K) (l := pb [(word 6, decide (6 = 0 ∨ 6 = 6)), (word 7, decide (7 = 0 ∨ 7 = 6)), (word 4, decide (4 = 0 ∨ 4 = 6)), (word 5, decide (5 = 0 ∨ 5 = 6)), (word 1, decide (1 = 0 ∨ 1 = 6)), (word 2, decide (2 = 0 ∨ 2 = 6))]) (eu2_is (u2_cat (ev_var rfl) h3 (u2_lst (er_cons (eu_tup (ea_cons (ev_is (w := vs (word 1)) e_lit rfl) (ea_cons (e_isX rfl rfl hE.ec (ev_var rfl) ev_c relv_ref (hE.is 1 (by decide))) ea_nil)) (by simp)) (er_cons (eu_tup (ea_cons (ev_is (w := vs (word 2)) e_lit rfl) (ea_cons (e_isX rfl rfl hE.ec (ev_var rfl) ev_c relv_ref (hE.is 2 (by decide))) ea_nil)) (by simp)) er_nil)) (by simp)) (by simp [pb])) rfl) fun p4 H4 n4 e4 h4 => ?_
      refine q_asgU2 (K := K) (l := pb (row_told 6)) (eu2_is (u2_cat (ev_var rfl) h4 (u2_lst (er_cons (eu_tup (ea_cons (ev_is (w := vs (word 3)) e_lit rfl) (ea_cons (e_isX rfl rfl hE.ec (ev_var rfl) ev_c relv_ref (hE.is 3 (by decide))) ea_nil)) (by simp)) er_nil) (by simp)) (by simp [pb])) rfl) fun p5 H5 n5 e5 h5 => ?_
      refine s_ret (ev_is (w := vs (word 6)) (e_mulT (e_joinN (l := fit (row_told 6)) (ev_is (w := vs []) e_lit rfl) (l_fit (m := row_told 6) (i := 7) (j := 6) (ev_var rfl) h5 (show 7 ≤ 40000 by decide) (fun _ _ => rfl) (fun _ _ => rfl) (fun _ _ => rfl)) ⟨by omega, rw1.2.2.1, by decide⟩) (e_intB (e_isX rfl rfl hE.ec (ev_var rfl) ev_c relv_ty hE.ve)) (by rw [rw1.1]; have := rw1.2.2.2; exact ⟨by decide, by omega, by decide⟩)) (by rw [rw1.1, rep_one])) fun H6 e6 => ?_
      have q := k0 H6 ((((((e1.trans e0).trans e2).trans e3).trans e4).trans e5).trans e6)
      rw [if_pos hk] at q
      exact q
    · have hE : ErrC K Cs 7 := E7
      have rw1 := row_fit 7 (by decide) (by decide)
      refine ⟨true, hE.ex0, fun _ a na => ?_, fun z => nomatch z⟩
      refine q_asgU2 (K := K) (l := pb [(word 6, decide (6 = 0 ∨ 6 = 7)), (word 7, decide (7 = 0 ∨ 7 = 7))]) (eu2_is (u2_lst (er_cons (eu_tup (ea_cons (ev_is (w := vs (word 6)) e_lit rfl) (ea_cons (e_isX rfl rfl hE.ec (ev_var rfl) ev_c relv_ref (hE.is 6 (by decide))) ea_nil)) (by simp)) (er_cons (eu_tup (ea_cons (ev_is (w := vs (word 7)) e_lit rfl) (ea_cons (e_isX rfl rfl hE.ec (ev_var rfl) ev_c relv_ref (hE.is 7 (by decide))) ea_nil)) (by simp)) er_nil)) (by simp)) rfl) fun p2 H2 n2 e2 h2 => ?_
      refine q_asgU2 (K := K) (l := pb [(word 6, decide (6 = 0 ∨ 6 = 7)), (word 7, decide (7 = 0 ∨ 7 = 7)), (word 4, decide (4 = 0 ∨ 4 = 7)), (word 5, decide (5 = 0 ∨ 5 = 7))]) (eu2_is (u2_cat (ev_var rfl) h2 (u2_lst (er_cons (eu_tup (ea_cons (ev_is (w := vs (word 4)) e_lit rfl) (ea_cons (e_isX rfl rfl hE.ec (ev_var rfl) ev_c relv_ref (hE.is 4 (by decide))) ea_nil)) (by simp)) (er_cons (eu_tup (ea_cons (ev_is (w := vs (word 5)) e_lit rfl) (ea_cons (e_isX rfl rfl hE.ec (ev_var rfl) ev_c relv_ref (hE.is 5 (by decide))) ea_nil)) (by simp)) er_nil)) (by simp)) (by simp [pb])) rfl) fun p3 H3 n3 e3 h3 => ?_
      refine q_asgU2 (K := K) (l := pb [(word 6, decide (6 = 0 ∨ 6 = 7)), (word 7, decide (7 = 0 ∨ 7 = 7)), (word 4, decide (4 = 0 ∨ 4 = 7)), (word 5, decide (5 = 0 ∨ 5 = 7)), (word 1, decide (1 = 0 ∨ 1 = 7)), (word 2, decide (2 = 0 ∨ 2 = 7))]) (eu2_is (u2_cat (ev_var rfl) h3 (u2_lst (er_cons (eu_tup (ea_cons (ev_is (w := vs (word 1)) e_lit rfl) (ea_cons (e_isX rfl rfl hE.ec (ev_var rfl) ev_c relv_ref (hE.is 1 (by decide))) ea_nil)) (by simp)) (er_cons (eu_tup (ea_cons (ev_is (w := vs (word 2)) e_lit rfl) (ea_cons (e_isX rfl rfl hE.ec (ev_var rfl) ev_c relv_ref (hE.is 2 (by decide))) ea_nil)) (by simp)) er_nil)) (by simp)) (by simp [pb])) rfl) fun p4 H4 n4 e4 h4 => ?_
      refine q_asgU2 (K := K) (l := pb (row_told 7)) (eu2_is (u2_cat (ev_var rfl) h4 (u2_lst (er_cons (eu_tup (ea_cons (ev_is (w := vs (word 3)) e_lit rfl) (ea_cons (e_isX rfl rfl hE.ec (ev_var rfl) ev_c relv_ref (hE.is 3 (by decide))) ea_nil)) (by simp)) er_nil) (by simp)) (by simp [pb])) rfl) fun p5 H5 n5 e5 h5 => ?_
      refine s_ret (ev_is (w := vs (word 7)) (e_mulT (e_joinN (l := fit (row_told 7)) (ev_is (w := vs []) e_lit rfl) (l_fit (m := row_told 7) (i := 7) (j := 6) (ev_var rfl) h5 (show 7 ≤ 40000 by decide) (fun _ _ => rfl) (fun _ _ => rfl) (fun _ _ => rfl)) ⟨by omega, rw1.2.2.1, by decide⟩) (e_intB (e_isX rfl rfl hE.ec (ev_var rfl) ev_c relv_ty hE.ve)) (by rw [rw1.1]; have := rw1.2.2.2; exact ⟨by decide, by omega, by decide⟩)) (by rw [rw1.1, rep_one])) fun H6 e6 => ?_
      have q := k0 H6 ((((((e1.trans e0).trans e2).trans e3).trans e4).trans e5).trans e6)
      rw [if_neg hk] at q
      exact q
theorem road_met {σ : L2.St} {H : Hp} {ta : TE} {t : TA} {C b bt bp : Addr} {T : List (List (Tx × Tx))} {P : List (List Int)} {e n : Int} (h : Ev ta σ H (.ref b)) (hb : BkR K C H b bt bp T P) (hok : OkB T P) (he : 0 ≤ e ∧ e < (T.length : Int)) (hn : 0 ≤ n ∧ n < (T.length : Int)) (ha : EvA t σ H [.int e, .int n]) : EvRd (tMet C "road" (spB_road K C) ta t) σ H P n e := fun H1 e1 Q q =>
  met_of h hb.1 (by decide +kernel) (by decide +kernel) e1 fun H2 e2 => (ea_cons ev_k ha) H2 (e1.trans e2) _ fun H3 e3 => ⟨b, bt, bp, T, P, e, n, rfl, hb.ex ((e1.trans e2).trans e3), hok, he, hn, fun H4 e4 na => q _ H4 ((e2.trans e3).trans e4) (Or.inl ⟨rfl, na⟩), fun l hr p H4 np e4 hp => q _ H4 ((e2.trans e3).trans e4) (Or.inr ⟨l, p, rfl, hr, fresh_back (e2.trans e3) np, hp⟩)⟩
def sp_law_there_then (K : PySem.W.Frag) (C : Addr) : Sp := fun ws H Q _ => ∃ (b bt bp : Addr) (T : List (List (Tx × Tx))) (P : List (List Int)) (n : Int), ws = [.ref b, .int (T.length : Int), .int n] ∧ BkR K C H b bt bp T P ∧ B9 T P ∧ (0 ≤ n ∧ n < (T.length : Int)) ∧ (∀ H2, Ex (ers H bt bp) H2 → Q (.bl true) H2)
theorem ok_law_there_then {f : Addr} {fd : FuncData} {C : Addr} (Tb : BkT K mg C) (F : Fun K "_law_there_then" "_law_there_then" s_law_there_then f fd) (z : Bt mg) (CB_tree : CalM P w K mg base 2 C "tree" ["self", "number"] (spB_tree K C)) (CB_grow : CalM P w K mg base 5 C "grow" ["self", "parent", "deeds"] (spB_grow K C)) (CB_many : CalM P w K mg base 1 C "many" ["self"] (spB_many K C)) (CB_parents : CalM P w K mg base 2 C "parents" ["self", "number"] (spB_parents K C)) (CB_elders : CalM P w K mg base 2 C "elders" ["self", "number"] (spB_elders K C)) (CB_nearest : CalM P w K mg base 3 C "nearest" ["self", "one", "other"] (spB_nearest K C)) (CB_road : CalM P w K mg base 2 C "road" ["self", "elder", "number"] (spB_road K C)) (CB_story : CalM P w K mg base 3 C "story" ["self", "number", "path"] (spB_story K C)) : FnOk P w K mg base CX0 6 f fd ["_law_book", "_law_many", "_law_good"] (sp_law_there_then K C) := by
  refine F.ok (k := 5) sc_law_there_then (fun ws H Q E h => ?_) (fun cdv A outer s H ws Q E hr h => ?_)
  · obtain ⟨_, _, _, _, _, _, rfl, _⟩ := h
    rfl
  · obtain ⟨b, bt, bp, T, P, n, rfl, hb, h9, hn, k0⟩ := h
    have hok := h9.ok
    have hf9 := h9.few
    have hnn : OkB T P ∧ (0 ≤ n ∧ n < (T.length : Int)) := ⟨hok, hn⟩
    have tl := h9.len (i := n.toNat) (by omega)
    obtain ⟨gg, geq⟩ := grow_lat h9 hn
    have af := aft h9 hn
    refine ⟨_, (pss_cons (ps_set (i := 3) sc_law_there_then.nd rfl (Or.inl rfl) (pe_calM CB_tree (hr.mono (by decide)) (pv 0) (pa_cons (pv 2) pa_nil)))
      (pss_cons (ps_dput (hu_of hr) (pv 3) pe_str pe_str rfl)
      (pss_cons (ps_if (PW.pt (pw_or (pt_cmpR op_ne (pe_calM CB_grow (hr.mono (by decide)) (pv 0) (pa_cons (pv 2) (pa_cons (pe_lst (pa_cons (pe_tup (pa_cons pe_str (pa_cons pe_str (pa_cons pe_str pa_nil)))) pa_nil)) pa_nil))) (pv 1) (nomark _)) (pw_or (pt_cmpR op_ne (pe_calM0 CB_many (hr.mono (by decide)) (pv 0)) (pe_op op_add (pv 1) pe_int) (nomark _)) (pw_or1 (pt_cmpR (op_ne_dictA hr.units0) (pe_calM CB_tree (hr.mono (by decide)) (pv 0) (pa_cons (pv 1) pa_nil)) (pv 3) (nomark _)))))) (pss_one (ps_ret pe_bl)) pss_nil)
      (pss_cons (ps_if (PW.pt (pw_or (pt_cmpR (op_qNeTK K hr.units) (pe_calM CB_parents (hr.mono (by decide)) (pv 0) (pa_cons (pv 1) pa_nil)) (pe_tup (pa_cons (pv 2) pa_nil)) (nomark _)) (pw_or1 (pt_cmpR (op_qNeLK K hr.units) (pe_calM CB_elders (hr.mono (by decide)) (pv 0) (pa_cons (pv 1) pa_nil)) (pe_op op_cat (pe_calM CB_elders (hr.mono (by decide)) (pv 0) (pa_cons (pv 2) pa_nil)) (pe_lst (pa_cons (pv 1) pa_nil))) (nomark _))))) (pss_one (ps_ret pe_bl)) pss_nil)
      (pss_cons (ps_if (PW.pt (pw_or (pt_cmpR op_ne (pe_calM CB_nearest (hr.mono (by decide)) (pv 0) (pa_cons (pv 1) (pa_cons (pv 2) pa_nil))) (pv 2) (nomark _)) (pw_or (pt_cmpR (op_qNeLK K hr.units) (pe_calM CB_road (hr.mono (by decide)) (pv 0) (pa_cons (pv 2) (pa_cons (pv 1) pa_nil))) (pe_lst (pa_cons (pv 2) (pa_cons (pv 1) pa_nil))) (nomark _)) (pw_or1 (pt_cmpR op_notN1 (pe_calM CB_road (hr.mono (by decide)) (pv 0) (pa_cons (pv 1) (pa_cons (pv 2) pa_nil))) pe_non (nomark _)))))) (pss_one (ps_ret pe_bl)) pss_nil)
      (pss_one (ps_ret (pe_and (pe_cmpR (op_eqVK K hr.units) (pe_calM CB_story (hr.mono (by decide)) (pv 0) (pa_cons (pv 1) (pa_cons pe_str pa_nil))) (pe_lst (pa_cons (pv 1) pa_nil)) (nomark _)) (pe_one (pe_cmpR op_eq (pe_calM CB_grow (hr.mono (by decide)) (pv 0) (pa_cons (pv 1) (pa_cons (pe_lst pa_nil) pa_nil))) (pe_op op_add (pv 1) pe_int) (nomark _))))))))))), ?_⟩
    refine q_asgK (kvs := kd vs (T.getD n.toNat [])) (ek_is (ek_met (ev_var rfl) (BkR.ex hb (Ex.refl H)).1 (by decide +kernel) (by decide +kernel) (ek_call (ea_cons ev_k (ea_cons (ev_var rfl) ea_nil)) (sk_of fun HC eC => ⟨_, _, _, _, _, _, rfl, BkR.ex (BkR.ex hb (Ex.refl H)) eC, (by walk_at "vside"), rfl⟩))) rfl) fun pm H1 npm e1 hm => ?_
    have dpm : pm ≠ bt ∧ pm ≠ bp := by
      obtain ⟨_, z1⟩ := ld_lst hb.2.1
      obtain ⟨_, z2⟩ := lu_lst hb.2.2
      exact ⟨fun z => (by rw [← z, npm] at z1; cases z1), fun z => (by rw [← z, npm] at z2; cases z2)⟩
    refine q_putD (f := vs) (l := T.getD n.toNat []) (k := l_3f14ecc8) (v := lX) (ev_is (w := vs lX) e_lit rfl) (ev_var rfl) (ev_is (w := vs l_3f14ecc8) e_lit rfl) hm (by omega) fun H2 m2 => ?_
    have e2 := Mu.ex m2 e1 npm
    have r2 := rx_of e2
    have hm2 := Mu.at m2
    have hgo : goGrow T P n [[lPut, l_3f14ecc8, lX]] := gg
    refine q_orB (b_ne (ev_var rfl) (BkR.ex hb e2).1 (by decide +kernel) (by decide +kernel) (B := (mB_grow T P n [[lPut, l_3f14ecc8, lX]])) (ax_v (ev_var rfl) (ax_u2 (eu2_is (l2 := (List.map (List.map vs) [[lPut, l_3f14ecc8, lX]])) (u2_lst (er_consT (tu_new (eu_tup (ea_cons (ev_is (w := vs lPut) e_lit rfl) (ea_cons (ev_is (w := vs l_3f14ecc8) e_lit rfl) (ea_cons (ev_is (w := vs lX) e_lit rfl) ea_nil))) (by simp))) er_nil) (by simp)) rfl) ax_nil)) (fun ws HC eC hP => by obtain ⟨_, rfl, pA1, _, rfl, hA1, rfl⟩ := hP; exact ⟨_, _, _, _, _, _, _, _, rfl, BkR.ex (BkR.ex hb e2) eC, IsLU.r hA1, (by walk_at "vside"), rfl, rfl, rfl, rfl⟩) (fun _ => ev_var rfl) (fun H3 eB hTn hPn => ?_))
    rw [geq] at hTn hPn
    generalize hT2 : T ++ [dput (T.getD n.toNat []) l_3f14ecc8 lX] = T2 at hTn af
    generalize hP2 : P ++ [[n]] = P2 at hPn af
    have bk2 := BkR.ex hb e2
    have hB3 := er_i eB bk2 bk2.1
    have hm3 := er_at eB hm2 dpm.1 dpm.2
    have eX : Ex (ers H bt bp) H3 := Ex.trans (ers_mono e2) eB
    have len2 := af.len
    have ok2 := af.ok
    have z0 := Ex.refl H3
    have zr0 := rx_of z0
    rw [decide_eq_true rfl]
    have nN : OkB T2 P2 ∧ (0 ≤ (T.length : Int) ∧ (T.length : Int) < (T2.length : Int)) := ⟨ok2, by omega⟩
    have ng : OkB T2 P2 ∧ (0 ≤ n ∧ n < (T2.length : Int)) := ⟨ok2, by omega⟩
    have hmany : mB_many T2 P2 = (T2.length : Int) := rfl
    have gtr := (af.go.cp).2.1
    have gS : ∃ x : Bool, x = (!decide ((mB_many T2 P2) = ((T.length : Int) + (1 : Int)))) := ⟨_, rfl⟩
    refine (show EvT _ _ H3 ((!decide ((mB_many T2 P2) = ((T.length : Int) + (1 : Int)))) || false) from et_or (et_test (e_neI (ev_met (ev_var rfl) (⟨hB3, hTn, hPn⟩ : BkR K C H3 b bt bp T2 P2).1 (by decide +kernel) (by decide +kernel) (ev_call (ea_cons ev_k ea_nil) (sv_of fun HC eC => ⟨_, _, _, _, _, rfl, BkR.ex (⟨hB3, hTn, hPn⟩ : BkR K C H3 b bt bp T2 P2) eC, rfl⟩))) (e_add (ev_var rfl) ev_c))) (fun _ => et_test (e_neKD (ek_is (ek_met (ev_var rfl) (⟨hB3, hTn, hPn⟩ : BkR K C H3 b bt bp T2 P2).1 (by decide +kernel) (by decide +kernel) (ek_call (ea_cons ev_k (ea_cons (ev_var rfl) ea_nil)) (sk_of fun HC eC => ⟨_, _, _, _, _, _, rfl, BkR.ex (⟨hB3, hTn, hPn⟩ : BkR K C H3 b bt bp T2 P2) eC, (by walk_at "vside"), rfl⟩))) (by rw [af.tr])) (ev_var rfl) hm3 (dsame_refl (by
      rw [← af.tr]
      exact gtr.nd))))) H3 (Ex.refl H3) _ fun H4 e4 => ?_
    rw [show ((!decide ((mB_many T2 P2) = ((T.length : Int) + (1 : Int)))) || false) = false by rw [hmany, len2, decide_eq_true (show (((T.length + 1 : Nat) : Int) = (T.length : Int) + (1 : Int)) by omega)]; rfl]
    rw [if_neg (by decide)]
    have hB4 := hB3.ex e4
    have hTn := hTn.ex e4
    have hPn := hPn.ex e4
    have eX := eX.trans e4
    have gel := len_elders ok2 nN.2.1 nN.2.2
    have gel2 := len_elders ok2 ng.2.1 ng.2.2
    refine q_when (b := (false || false)) (et_or (et_test (e_neTuU (l := [n]) (tu_is (tu_met (ev_var rfl) (⟨hB4, hTn, hPn⟩ : BkR K C H4 b bt bp T2 P2).1 (by decide +kernel) (by decide +kernel) (tu_call (ea_cons ev_k (ea_cons (ev_var rfl) ea_nil)) (fun HC eC => ⟨_, _, _, _, _, _, rfl, BkR.ex (⟨hB4, hTn, hPn⟩ : BkR K C H4 b bt bp T2 P2) eC, (by walk_at "vside"), rfl⟩))) (by rw [af.par])) (eu_tup (ea_cons (ev_var rfl) ea_nil) (by simp)))) (fun _ => et_test (e_neNN (l := mB_elders T2 P2 n ++ [(T.length : Int)]) (el_is (el_met (ev_var rfl) (⟨hB4, hTn, hPn⟩ : BkR K C H4 b bt bp T2 P2).1 (by decide +kernel) (by decide +kernel) (el_call (ea_cons ev_k (ea_cons (ev_var rfl) ea_nil)) (sl_of fun HC eC => ⟨_, _, _, _, _, _, rfl, BkR.ex (⟨hB4, hTn, hPn⟩ : BkR K C H4 b bt bp T2 P2) eC, (by walk_at "vside"), rfl⟩))) (by rw [af.eld])) (l_catNN (g := V.int) (m1 := (mB_elders T2 P2 n)) (m2 := [(T.length : Int)]) (el_met (ev_var rfl) (⟨hB4, hTn, hPn⟩ : BkR K C H4 b bt bp T2 P2).1 (by decide +kernel) (by decide +kernel) (el_call (ea_cons ev_k (ea_cons (ev_var rfl) ea_nil)) (sl_of fun HC eC => ⟨_, _, _, _, _, _, rfl, BkR.ex (⟨hB4, hTn, hPn⟩ : BkR K C H4 b bt bp T2 P2) eC, (by walk_at "vside"), rfl⟩))) (el_lst (ea_cons (ev_var rfl) ea_nil) (by simp)) (by walk_at "vside"))))) (fun hc => absurd hc (by decide)) (fun _ H5 e5 => ?_)
    have hB5 := hB4.ex e5
    have hTn := hTn.ex e5
    have hPn := hPn.ex e5
    have eX := eX.trans e5
    have nNg : OkB T2 P2 ∧ (0 ≤ (T.length : Int) ∧ (T.length : Int) < (T2.length : Int)) ∧ (0 ≤ n ∧ n < (T2.length : Int)) := ⟨ok2, nN.2, ng.2⟩
    have hnear := af.near
    refine q_when (b := ((!decide ((mB_nearest T2 P2 (T.length : Int) n) = n)) || (false || false))) (et_or (et_test (e_neI (ev_met (ev_var rfl) (⟨hB5, hTn, hPn⟩ : BkR K C H5 b bt bp T2 P2).1 (by decide +kernel) (by decide +kernel) (ev_call (ea_cons ev_k (ea_cons (ev_var rfl) (ea_cons (ev_var rfl) ea_nil))) (sv_of fun HC eC => ⟨_, _, _, _, _, _, _, rfl, BkR.ex (⟨hB5, hTn, hPn⟩ : BkR K C H5 b bt bp T2 P2) eC, (by walk_at "vside"), rfl⟩))) (ev_var rfl))) (fun _ => et_or (et_test (e_neNN (l := [n, (T.length : Int)]) (rd_list (road_met (ev_var rfl) (⟨hB5, hTn, hPn⟩ : BkR K C H5 b bt bp T2 P2) ok2 ng.2 nN.2 (ea_cons (ev_var rfl) (ea_cons (ev_var rfl) ea_nil))) af.anc af.road) (el_lst (ea_cons (ev_var rfl) (ea_cons (ev_var rfl) ea_nil)) (by simp)))) (fun _ => et_test (e_notN (x := none) (rd_none (road_met (ev_var rfl) (⟨hB5, hTn, hPn⟩ : BkR K C H5 b bt bp T2 P2) ok2 nN.2 ng.2 (ea_cons (ev_var rfl) (ea_cons (ev_var rfl) ea_nil))) af.nanc) ev_c)))) (fun hc => absurd hc (by rw [af.near, decide_eq_true rfl]; decide)) (fun _ H6 e6 => ?_)
    have hB6 := hB5.ex e6
    have hTn := hTn.ex e6
    have hPn := hPn.ex e6
    have eX := eX.trans e6
    have L1 : (mB_story T2 P2 (T.length : Int) l_3f14ecc8).length ≤ 2000 := by rw [af.story]; show 1 ≤ 2000; decide
    refine r_andB (b1 := true) (e_eqLL (f := V.int) (l := mB_story T2 P2 (T.length : Int) l_3f14ecc8) (l2 := [(T.length : Int)]) (fun _ => rfl) (el_met (ev_var rfl) (⟨hB6, hTn, hPn⟩ : BkR K C H6 b bt bp T2 P2).1 (by decide +kernel) (by decide +kernel) (el_call (ea_cons ev_k (ea_cons (ev_var rfl) (ea_cons (ev_is (w := vs l_3f14ecc8) e_lit rfl) ea_nil))) (sl_of fun HC eC => ⟨_, _, _, _, _, _, _, rfl, BkR.ex (⟨hB6, hTn, hPn⟩ : BkR K C H6 b bt bp T2 P2) eC, (by walk_at "vside"), rfl⟩))) (el_lst (ea_cons (ev_var rfl) ea_nil) (by simp)) af.story) fun H7 e7 => ?_
    have hB7 := hB6.ex e7
    have hTn := hTn.ex e7
    have hPn := hPn.ex e7
    have eX := eX.trans e7
    have hgo : goGrow T2 P2 (T.length : Int) [] := af.go
    have e2a : (T2.length : Int) = (T.length : Int) + (1 : Int) := by omega
    refine b_eqV (ev_var rfl) (⟨hB7, hTn, hPn⟩ : BkR K C H7 b bt bp T2 P2).1 (by decide +kernel) (by decide +kernel) (B := (mB_grow T2 P2 (T.length : Int) [])) (ax_v (ev_var rfl) (ax_u2 (u2_lst er_nil (by decide)) ax_nil)) (fun ws HC eC hP => by obtain ⟨_, rfl, pA1, _, rfl, hA1, rfl⟩ := hP; exact ⟨_, _, _, _, _, _, _, [], rfl, BkR.ex (⟨hB7, hTn, hPn⟩ : BkR K C H7 b bt bp T2 P2) eC, IsLU.r hA1, (by walk_at "vside"), rfl, rfl, rfl, rfl⟩) (fun _ => (e_add (ev_var rfl) ev_c)) (fun H8 eB8 hT8 hP8 => ?_)
    rw [decide_eq_true e2a]
    exact k0 H8 (ers_to eX ers_bt ers_bp eB8)
def sp_law (K : PySem.W.Frag) : Sp := spP fun ws H v => ∃ (ap : Addr) (sc : List Int), ws = [.ref ap] ∧ SqL K H ap (List.map V.int sc) ∧ v = V.bl (m_law sc)
theorem ok_law {f : Addr} {fd : FuncData} {C : Addr} (Tb : BkT K mg C) (F : Fun K "law" "law" s_law f fd) (z : Bt mg) (CB_init : CalMk P w K mg base 1 C) (C_law_cell_at : Cal P w K mg base 1 "_law_cell_at" ["_law_script", "_law_k"] (sp_law_cell_at K)) (CB_grow : CalM P w K mg base 5 C "grow" ["self", "parent", "deeds"] (spB_grow K C)) (C_law_told : Cal P w K mg base 5 "_law_told" ["_law_book", "_law_way", "_law_wrong", "_law_good"] (sp_law_told K C)) (CB_many : CalM P w K mg base 1 C "many" ["self"] (spB_many K C)) (CB_tree : CalM P w K mg base 2 C "tree" ["self", "number"] (spB_tree K C)) (CB_parents : CalM P w K mg base 2 C "parents" ["self", "number"] (spB_parents K C)) (C_law_there_then : Cal P w K mg base 6 "_law_there_then" ["_law_book", "_law_many", "_law_good"] (sp_law_there_then K C)) : FnOk P w K mg base CX0 7 f fd ["_law_script"] (sp_law K) := by
  refine F.ok (k := 6) sc_law (fun ws H Q E h => ?_) (fun cdv A outer s0 H ws Q E hr h => ?_)
  · obtain ⟨_, ⟨_, _, rfl, _⟩, _⟩ := h
    rfl
  · obtain ⟨_, ⟨ap, sc, rfl, hS, rfl⟩, k0⟩ := h
    refine ⟨_, (pss_cons (ps_set (i := 1) sc_law.nd rfl (Or.inl rfl) (pe_newB CB_init (hr.mono (by decide)) (by rfl) Tb.g))
      (pss_cons (ps_set (i := 2) sc_law.nd rfl (Or.inl rfl) (pe_newB CB_init (hr.mono (by decide)) (by rfl) Tb.g))
      (pss_cons (ps_set (i := 3) sc_law.nd rfl (Or.inl rfl) (pe_op op_add pe_int (pe_op op_mod (pe_cal C_law_cell_at (hr.mono (by decide)) (by rfl) (pa_cons (pv 0) (pa_cons pe_int pa_nil))) pe_int)))
      (pss_cons (ps_for PassesOwn.never rfl (pi_range2 (by rfl) z.z_range (pa_cons pe_int (pa_cons (pv 3) pa_nil))) (pg_name (i := 4) sc_law.nd rfl (Or.inl rfl))
      (pss_one (ps_expr (pe_calM CB_grow (hr.mono (by decide)) (pv 1) (pa_cons (pe_op op_mod (pe_cal C_law_cell_at (hr.mono (by decide)) (by rfl) (pa_cons (pv 0) (pa_cons (pe_op op_add pe_int (pv 4)) pa_nil))) (pv 4)) (pa_cons (pe_lst (pa_cons (pe_tup (pa_cons pe_str (pa_cons (pe_op op_addT pe_str (pe_callTy call_str_int (by rfl) z.z_str (by decide +kernel) (pa_cons (pv 4) pa_nil))) (pa_cons pe_str pa_nil)))) pa_nil)) pa_nil))))))
      (pss_cons (ps_set (i := 5) sc_law.nd rfl (Or.inl rfl) (pe_cal C_law_cell_at (hr.mono (by decide)) (by rfl) (pa_cons (pv 0) (pa_cons pe_int pa_nil))))
      (pss_cons (ps_set (i := 6) sc_law.nd rfl (Or.inl rfl) (pe_op op_mod (pe_op op_fdiv (pv 5) pe_int) (pv 3)))
      (pss_cons (ps_set (i := 7) sc_law.nd rfl (Or.inl rfl) (pe_ix (ix_listK K) (pe_lst (pa_cons pe_int (pa_cons (pe_op op_mod (pe_op op_fdiv (pv 5) pe_int) pe_int) (pa_cons (pe_op op_add (pe_op op_pow pe_int pe_int) (pe_op op_mod (pe_op op_fdiv (pv 5) pe_int) pe_int)) pa_nil)))) (pe_op op_mod (pe_op op_fdiv (pv 5) pe_int) pe_int) (fun _ _ => rfl)))
      (pss_cons (ps_set (i := 8) sc_law.nd rfl (Or.inl rfl) (pe_ix (ix_listK K) (pe_lst (pa_cons (pe_op op_add (pv 3) (pv 7)) (pa_cons (pe_op op_sub (pe_op op_sub pe_int pe_int) (pv 7)) (pa_cons pe_bl (pa_cons pe_bl (pa_cons (pe_op op_sub pe_int (pv 3)) pa_nil)))))) (pe_op op_mod (pv 5) pe_int) (fun _ _ => rfl)))
      (pss_cons (ps_for PassesOwn.never rfl (pi_range1 (by rfl) z.z_range (pa_cons pe_int pa_nil)) (pg_name (i := 9) sc_law.nd rfl (Or.inl rfl))
      (pss_cons (ps_set (i := 10) sc_law.nd rfl (Or.inl rfl) pe_str) (pss_cons (ps_if (pt_cmpR op_gt (pv 9) pe_int (nomark _)) (pss_one (ps_set (i := 10) sc_law.nd rfl (Or.inl rfl) pe_str)) pss_nil) (pss_one (ps_if (pt_cmpR op_ne (pe_cal C_law_told (hr.mono (by decide)) (by rfl) (pa_cons (pv 1) (pa_cons (pv 9) (pa_cons (pv 8) (pa_cons (pv 6) pa_nil))))) (pv 10) (nomark _)) (pss_one (ps_ret pe_bl)) pss_nil)))))
      (pss_cons (ps_if (PW.pt (pw_or (pt_cmpR op_ne (pe_calM0 CB_many (hr.mono (by decide)) (pv 1)) (pv 3) (nomark _)) (pw_or (pt_cmpR op_ne (pe_calM0 CB_many (hr.mono (by decide)) (pv 2)) pe_int (nomark _)) (pw_or (pt_cmpR (op_ne_dictA hr.units0) (pe_calM CB_tree (hr.mono (by decide)) (pv 2) (pa_cons pe_int pa_nil)) pe_dnewK (nomark _)) (pw_or1 (pt_cmpR (op_qNeTK K hr.units) (pe_calM CB_parents (hr.mono (by decide)) (pv 2) (pa_cons pe_int pa_nil)) (pe_tup pa_nil) (nomark _))))))) (pss_one (ps_ret pe_bl)) pss_nil)
      (pss_cons (ps_if (PW.pt (pw_or (pt_cmpR op_ne (pe_calM CB_grow (hr.mono (by decide)) (pv 2) (pa_cons pe_int (pa_cons (pe_lst (pa_cons (pe_tup (pa_cons pe_str (pa_cons pe_str (pa_cons pe_str pa_nil)))) pa_nil)) pa_nil))) pe_int (nomark _)) (pw_or (pt_cmpR (op_ne_dictA hr.units0) (pe_calM CB_tree (hr.mono (by decide)) (pv 2) (pa_cons pe_int pa_nil)) (pe_disp (pps_cons pe_str pe_str pps_nil) (by rfl) (by rfl) (by simp) (by decide)) (nomark _)) (pw_or1 (pt_cmpR op_ne (pe_calM0 CB_many (hr.mono (by decide)) (pv 1)) (pv 3) (nomark _)))))) (pss_one (ps_ret pe_bl)) pss_nil)
      (pss_one (ps_ret (pe_cal C_law_there_then (hr.mono (by decide)) (by rfl) (pa_cons (pv 1) (pa_cons (pv 3) (pa_cons (pv 6) pa_nil))))))))))))))))), ?_⟩
    refine q_newB fun pb bt bp H1 nb nbt nbp e1 hb1 => ?_
    refine q_newB fun sb st sp H2 ns nst nsp e2a hs => ?_
    have e2 := e1.trans e2a
    have r2 := rx_of e2
    have hB := hb1.1.ex e2a
    have hT := hb1.2.1.ex e2a
    have hP := hb1.2.2.ex e2a
    obtain ⟨_, z1⟩ := ld_lst hb1.2.1
    obtain ⟨_, z2⟩ := lu_lst hb1.2.2
    have d1 : st ≠ bt := fun z => by
      rw [z, z1] at nst
      cases nst
    have d2 : st ≠ bp := fun z => by
      rw [z, z2] at nst
      cases nst
    have d3 : sp ≠ bt := fun z => by
      rw [z, z1] at nsp
      cases nsp
    have d4 : sp ≠ bp := fun z => by
      rw [z, z2] at nsp
      cases nsp
    obtain ⟨m, hm⟩ : ∃ m : Nat, (m : Int) = ((1 : Int) + ((m_law_cell_at sc (0 : Int)) % (6 : Int))) := ⟨(((1 : Int) + ((m_law_cell_at sc (0 : Int)) % (6 : Int)))).toNat, Int.toNat_of_nonneg (by omega)⟩
    have hm1 : 1 ≤ m ∧ m ≤ 6 := by omega
    refine q_asg (v := V.int (m : Int)) (ev_is (e_add ev_c (e_mod (ev_call (ea_cons (ev_var rfl) (ea_cons ev_c ea_nil)) (sv_of fun HC eC => ⟨_, _, _, rfl, ex_l eC (rx_l r2 hS), (by walk_at "vside"), rfl⟩)) ev_c (by walk_at "vside"))) (by rw [hm])) fun H3 e3a => ?_
    have e3 := e2.trans e3a
    have r3 := rx_of e3
    have hB := hB.ex e3a
    have hT := hT.ex e3a
    have hP := hP.ex e3a
    have hs := BkR.ex hs e3a
    refine q_forR2 (lo := (1 : Int)) (n := (m : Int)) (ea_cons ev_c (ea_cons (ev_var rfl) ea_nil)) (by omega) (fun (i : Nat) (σ1 : L2.St) (H6 : Hp) => ∃ (T : List (List (Tx × Tx))) (P : List (List Int)) (x : Option V), σ1 = [some (.ref ap), some (.ref pb), some (.ref sb), some (.int (m : Int)), x, none, none, none, none, none, none] ∧ Ex H H6 ∧ BkI C H6 pb bt bp ∧ IsLD H6 bt T ∧ IsLU K H6 bp (P.map (List.map V.int)) ∧ BkR K C H6 sb st sp [[]] [[]] ∧ B9 T P ∧ T.length = i + 1) (fun H4 e4 => ⟨[[]], [[]], none, rfl, e3.trans e4, hB.ex e4, hT.ex e4, hP.ex e4, BkR.ex hs e4, b9_start, rfl⟩) (fun i σ1 H6 hi hI => ?_) (fun σ1 H6 hI => ?_)
    · clear hB hT hP hs e3 r3
      obtain ⟨T, P, x, rfl, e6, hB, hT, hP, hs, h9, hlen⟩ := hI
      have r6 := rx_of e6
      have hok := h9.ok
      have hps := hok.pos
      have hk : (1 : Int) + (i : Int) = (T.length : Int) := by omega
      rw [hk]
      have L1 := len_l_7a38d8cb
      have lg2 := log_of (n := (T.length : Int)) (by omega)
      have hsv := dec_size T.length 4 (by decide) (by omega)
      have hin : 0 ≤ ((m_law_cell_at sc ((2 : Int) + (T.length : Int))) % (T.length : Int)) ∧ ((m_law_cell_at sc ((2 : Int) + (T.length : Int))) % (T.length : Int)) < (T.length : Int) := ⟨Int.emod_nonneg _ (by omega), Int.emod_lt_of_pos _ (by omega)⟩
      have mg : Grown T P ((m_law_cell_at sc ((2 : Int) + (T.length : Int))) % (T.length : Int)) [[lPut, (l_7a38d8cb ++ (dec (T.length : Int))), lNil]] := grow_put h9 hin nv_okV
      have hgo := mg.go
      refine s_b (b_met (ev_var rfl) (⟨hB, hT, hP⟩ : BkR K C H6 pb bt bp T P).1 (by decide +kernel) (by decide +kernel) (B := (mB_grow T P ((m_law_cell_at sc ((2 : Int) + (T.length : Int))) % (T.length : Int)) [[lPut, (l_7a38d8cb ++ (dec (T.length : Int))), lNil]])) (ax_v (e_mod (ev_call (ea_cons (ev_var rfl) (ea_cons (e_add ev_c (ev_var rfl)) ea_nil)) (sv_of fun HC eC => ⟨_, _, _, rfl, ex_l eC (rx_l r6 hS), (by walk_at "vside"), rfl⟩)) (ev_var rfl) (by walk_at "vside")) (ax_u2 (eu2_is (l2 := (List.map (List.map vs) [[lPut, (l_7a38d8cb ++ (dec (T.length : Int))), lNil]])) (u2_lst (er_consT (tu_new (eu_tup (ea_cons (ev_is (w := vs lPut) e_lit rfl) (ea_cons (e_addT (ev_is (w := vs l_7a38d8cb) e_lit rfl) (e_strI (ev_var rfl) (by walk_at "vside")) (by walk_at "vside")) (ea_cons (ev_is (w := vs lNil) e_lit rfl) ea_nil))) (by simp))) er_nil) (by simp)) rfl) ax_nil)) (fun ws HC eC hP => by obtain ⟨_, rfl, pA1, _, rfl, hA1, rfl⟩ := hP; exact ⟨_, _, _, _, _, _, _, _, rfl, BkR.ex (⟨hB, hT, hP⟩ : BkR K C H6 pb bt bp T P) eC, IsLU.r hA1, (by walk_at "vside"), rfl, rfl, rfl, rfl⟩) fun H7 eB hTn hPn => ?_)
      have bk := (⟨hB, hT, hP⟩ : BkR K C H6 pb bt bp T P)
      exact ⟨_, _, _, rfl, ers_to e6 nbt nbp eB, er_i eB bk hB, hTn, hPn, ⟨er_i eB bk hs.1, er_ld eB bk hs.2.1 d1 d2, er_lu eB bk hs.2.2 d3 d4⟩, mg.nx (by omega), by rw [mg.len]; omega⟩
    · clear hB hT hP hs e3 r3
      obtain ⟨T, P, xk, rfl, e6, hB, hT, hP, hs, h9, hlen⟩ := hI
      have r6 := rx_of e6
      have hok := h9.ok
      have hps := hok.pos
      have hlm : (T.length : Int) = (m : Int) := by omega
      have hmany : mB_many T P = (T.length : Int) := rfl
      obtain ⟨c, hc⟩ : ∃ c : Int, c = (m_law_cell_at sc (1 : Int)) := ⟨_, rfl⟩
      refine q_asg (v := V.int c) (ev_is (ev_call (ea_cons (ev_var rfl) (ea_cons ev_c ea_nil)) (sv_of fun HC eC => ⟨_, _, _, rfl, ex_l eC (rx_l r6 hS), (by walk_at "vside"), rfl⟩)) (by rw [hc])) fun H7 e7a => ?_
      have e7 := e6.trans e7a
      have r7 := rx_of e7
      have hB := hB.ex e7a
      have hT := hT.ex e7a
      have hP := hP.ex e7a
      have hs := BkR.ex hs e7a
      obtain ⟨n, hn⟩ : ∃ n : Int, n = ((c / (5 : Int)) % (m : Int)) := ⟨_, rfl⟩
      have hg : 0 ≤ n ∧ n < (T.length : Int) := by rw [hn, hlm]; exact ⟨Int.emod_nonneg _ (by omega), Int.emod_lt_of_pos _ (by omega)⟩
      refine q_asg (v := V.int n) (ev_is (e_mod (e_div (ev_var rfl) ev_c (by walk_at "vside")) (ev_var rfl) (by walk_at "vside")) (by rw [hn])) fun H8 e8a => ?_
      have e8 := e7.trans e8a
      have r8 := rx_of e8
      have hB := hB.ex e8a
      have hT := hT.ex e8a
      have hP := hP.ex e8a
      have hs := BkR.ex hs e8a
      obtain ⟨fr, hfr⟩ : ∃ fr : Int, fr = ([(0 : Int), ((c / (90 : Int)) % (1001 : Int)), ((100000000000000000000 : Int) + ((c / (90 : Int)) % (1001 : Int)))].getD ((c / (30 : Int)) % (3 : Int)).toNat 0) := ⟨_, rfl⟩
      have hf0 : 0 ≤ fr := by
        rw [hfr]
        have h3 : ((c / 30) % 3).toNat = 0 ∨ ((c / 30) % 3).toNat = 1 ∨ ((c / 30) % 3).toNat = 2 := by omega
        rcases h3 with h3 | h3 | h3 <;> rw [h3]
        · exact Int.le_refl _
        · show 0 ≤ (c / 90) % 1001
          omega
        · show 0 ≤ (100000000000000000000 : Int) + (c / 90) % 1001
          omega
      refine q_asg (v := V.int fr) (ev_is (e_ixN (f := V.int) (l := [(0 : Int), ((c / (90 : Int)) % (1001 : Int)), ((100000000000000000000 : Int) + ((c / (90 : Int)) % (1001 : Int)))]) 0 (el_lst (ea_cons ev_c (ea_cons (e_mod (e_div (ev_var rfl) ev_c (by walk_at "vside")) ev_c (by walk_at "vside")) (ea_cons (e_add (ev_is (w := V.int 100000000000000000000) (e_pow ev_c ev_c (by decide)) rfl) (e_mod (e_div (ev_var rfl) ev_c (by walk_at "vside")) ev_c (by walk_at "vside"))) ea_nil))) (by simp)) (e_mod (e_div (ev_var rfl) ev_c (by walk_at "vside")) ev_c (by walk_at "vside")) (by walk_at "vside")) (by rw [hfr])) fun H9 e9a => ?_
      have e9 := e8.trans e9a
      have r9 := rx_of e9
      have hB := hB.ex e9a
      have hT := hT.ex e9a
      have hP := hP.ex e9a
      have hs := BkR.ex hs e9a
      obtain ⟨v, hv, hbad⟩ : ∃ v, atI [V.int ((m : Int) + fr), V.int (((0 : Int) - (1 : Int)) - fr), V.bl true, V.bl false, V.int ((0 : Int) - (m : Int))] (c % (5 : Int)) = some v ∧ Bad T v := by
        have h5 : c % 5 = 0 ∨ c % 5 = 1 ∨ c % 5 = 2 ∨ c % 5 = 3 ∨ c % 5 = 4 := by omega
        rcases h5 with h5 | h5 | h5 | h5 | h5 <;> rw [h5]
        · exact ⟨_, rfl, Or.inr ⟨_, rfl, by omega⟩⟩
        · exact ⟨_, rfl, Or.inr ⟨_, rfl, by omega⟩⟩
        · exact ⟨_, rfl, Or.inl ⟨_, rfl⟩⟩
        · exact ⟨_, rfl, Or.inl ⟨_, rfl⟩⟩
        · exact ⟨_, rfl, Or.inr ⟨_, rfl, by omega⟩⟩
      refine q_asg (v := v) (e_ixNV (xs := [V.int ((m : Int) + fr), V.int (((0 : Int) - (1 : Int)) - fr), V.bl true, V.bl false, V.int ((0 : Int) - (m : Int))]) (el_lst (ea_cons (e_add (ev_var rfl) (ev_var rfl)) (ea_cons (e_sub (e_sub ev_c ev_c) (ev_var rfl)) (ea_cons ev_c (ea_cons ev_c (ea_cons (e_sub ev_c (ev_var rfl)) ea_nil))))) (by show 5 ≤ 100000; decide)) (e_mod (ev_var rfl) ev_c (by walk_at "vside")) hv) fun H10 e10a => ?_
      have e10 := e9.trans e10a
      have r10 := rx_of e10
      have hB := hB.ex e10a
      have hT := hT.ex e10a
      have hP := hP.ex e10a
      have hs := BkR.ex hs e10a
      refine q_forR1 (n := (14 : Int)) (ea_cons ev_c ea_nil) (by decide) (fun (i : Nat) (σ1 : L2.St) (H11 : Hp) => ∃ (x1 x2 : Option V), σ1 = [some (.ref ap), some (.ref pb), some (.ref sb), some (.int (m : Int)), xk, some (.int c), some (.int n), some (.int fr), some v, x1, x2] ∧ Ex H10 H11) (fun H11 e11 => ⟨none, none, rfl, e11⟩) (fun k σ1 H11 hk hI => ?_) (fun σ1 H11 hI => ?_)
      · obtain ⟨x1, x2, rfl, e11⟩ := hI
        refine q_asg (v := vs (word 6)) (ev_is e_lit rfl) fun H12 e12a => ?_
        have e12 := e11.trans e12a
        refine q_ifSet (f := vs) (b := (decide ((k : Int) > (11 : Int)))) (x := word 7) (y := word 6) (z := (if k < 12 then word 6 else word 7)) (et_test (e_gt (ev_var rfl) ev_c)) (fun _ => ev_is e_lit rfl) rfl (by
          by_cases z : k < 12
          · rw [if_pos z, decide_eq_false (by omega)]
            rfl
          · rw [if_neg z, decide_eq_true (by omega)]
            rfl) fun H13 e13a => ?_
        have e13 := e12.trans e13a
        refine s_when (b := (!decide ((if k < 12 then word 6 else word 7) = (if k < 12 then word 6 else word 7)))) (et_test (e_neT (p := (if k < 12 then word 6 else word 7)) (q := (if k < 12 then word 6 else word 7)) (fun HA eA QA qA => (ea_cons (ev_var rfl) (ea_cons (ev_var rfl) (ea_cons (ev_var rfl) (ea_cons (ev_var rfl) ea_nil)))) HA eA _ fun HB eB => ⟨pb, bt, bp, T, P, k, v, n, rfl, BkR.ex (⟨hB, hT, hP⟩ : BkR K C H10 pb bt bp T P) ((e13.trans eA).trans eB), hok, by omega, hbad, hg, fun HC eC => qA HC (eB.trans eC)⟩) (ev_var rfl))) (fun hc H14 e14 => absurd hc (by rw [decide_eq_true rfl]; decide)) (fun _ H14 e14 => ⟨_, _, rfl, e13.trans e14⟩)
      · obtain ⟨x1, x2, rfl, e11a⟩ := hI
        have e11 := e10.trans e11a
        have r11 := rx_of e11
        have hB := hB.ex e11a
        have hT := hT.ex e11a
        have hP := hP.ex e11a
        have hs := BkR.ex hs e11a
        have s0 : OkB [[]] [[]] ∧ (0 ≤ (0 : Int) ∧ (0 : Int) < (([[]] : List (List (Tx × Tx))).length : Int)) := ⟨b9_start.ok, by decide⟩
        refine q_when (b := ((!decide ((mB_many T P) = (m : Int))) || ((!decide ((mB_many [[]] [[]]) = (1 : Int))) || (false || false)))) (et_or (et_test (e_neI (ev_met (ev_var rfl) (⟨hB, hT, hP⟩ : BkR K C H11 pb bt bp T P).1 (by decide +kernel) (by decide +kernel) (ev_call (ea_cons ev_k ea_nil) (sv_of fun HC eC => ⟨_, _, _, _, _, rfl, BkR.ex (⟨hB, hT, hP⟩ : BkR K C H11 pb bt bp T P) eC, rfl⟩))) (ev_var rfl))) (fun _ => et_or (et_test (e_neI (ev_met (ev_var rfl) (⟨hs.1, hs.2.1, hs.2.2⟩ : BkR K C H11 sb st sp [[]] [[]]).1 (by decide +kernel) (by decide +kernel) (ev_call (ea_cons ev_k ea_nil) (sv_of fun HC eC => ⟨_, _, _, _, _, rfl, BkR.ex (⟨hs.1, hs.2.1, hs.2.2⟩ : BkR K C H11 sb st sp [[]] [[]]) eC, rfl⟩))) ev_c)) (fun _ => et_or (et_test (e_neKK (l := []) (m := []) (ek_met (ev_var rfl) (⟨hs.1, hs.2.1, hs.2.2⟩ : BkR K C H11 sb st sp [[]] [[]]).1 (by decide +kernel) (by decide +kernel) (ek_call (ea_cons ev_k (ea_cons ev_c ea_nil)) (sk_of fun HC eC => ⟨_, _, _, _, _, _, rfl, BkR.ex (⟨hs.1, hs.2.1, hs.2.2⟩ : BkR K C H11 sb st sp [[]] [[]]) eC, (by walk_at "vside"), rfl⟩))) k_new (dsame_refl List.nodup_nil))) (fun _ => et_test (e_neTuU (l := []) (tu_is (tu_met (ev_var rfl) (⟨hs.1, hs.2.1, hs.2.2⟩ : BkR K C H11 sb st sp [[]] [[]]).1 (by decide +kernel) (by decide +kernel) (tu_call (ea_cons ev_k (ea_cons ev_c ea_nil)) (fun HC eC => ⟨_, _, _, _, _, _, rfl, BkR.ex (⟨hs.1, hs.2.1, hs.2.2⟩ : BkR K C H11 sb st sp [[]] [[]]) eC, (by walk_at "vside"), rfl⟩))) rfl) (eu_tup ea_nil (by decide))))))) (fun hc => absurd hc (by rw [hmany, hlm, decide_eq_true rfl]; decide)) (fun _ H12 e12a => ?_)
        have e12 := e11.trans e12a
        have r12 := rx_of e12
        have hB := hB.ex e12a
        have hT := hT.ex e12a
        have hP := hP.ex e12a
        have hs := BkR.ex hs e12a
        obtain ⟨gb, gbe⟩ := bes_go
        have hgo := gb
        have L1 := len_l_d1c88699
        refine q_orB (b_ne (ev_var rfl) (⟨hs.1, hs.2.1, hs.2.2⟩ : BkR K C H12 sb st sp [[]] [[]]).1 (by decide +kernel) (by decide +kernel) (B := (mB_grow [[]] [[]] (0 : Int) [[lPut, l_d1c88699, l_e9d71f5e]])) (ax_v ev_c (ax_u2 (eu2_is (l2 := (List.map (List.map vs) [[lPut, l_d1c88699, l_e9d71f5e]])) (u2_lst (er_consT (tu_new (eu_tup (ea_cons (ev_is (w := vs lPut) e_lit rfl) (ea_cons (ev_is (w := vs l_d1c88699) e_lit rfl) (ea_cons (ev_is (w := vs l_e9d71f5e) e_lit rfl) ea_nil))) (by simp))) er_nil) (by simp)) rfl) ax_nil)) (fun ws HC eC hP => by obtain ⟨_, rfl, pA1, _, rfl, hA1, rfl⟩ := hP; exact ⟨_, _, _, _, _, _, _, _, rfl, BkR.ex (⟨hs.1, hs.2.1, hs.2.2⟩ : BkR K C H12 sb st sp [[]] [[]]) eC, IsLU.r hA1, (by walk_at "vside"), rfl, rfl, rfl, rfl⟩) (fun _ => ev_c) (fun H13 eB hTn hPn => ?_))
        rw [gbe] at hTn hPn
        have hs1 := er_i eB hs hs.1
        have hB1 := er_i eB hs hB
        have hT1 := er_ld eB hs hT (fun z => d1 z.symm) (fun z => d3 z.symm)
        have hP1 := er_lu eB hs hP (fun z => d2 z.symm) (fun z => d4 z.symm)
        have nst2 : H st = none := fresh_back e1 nst
        have nsp2 : H sp = none := fresh_back e1 nsp
        have e13 := ers_to e12 nst2 nsp2 eB
        have r13 := rx_of e13
        rw [decide_eq_true (show (([[]] : List (List (Tx × Tx))).length : Int) = 1 from rfl)]
        have s1 : OkB [[], [(l_d1c88699, l_e9d71f5e)]] [[], [0]] ∧ (0 ≤ (1 : Int) ∧ (1 : Int) < (([[], [(l_d1c88699, l_e9d71f5e)]] : List (List (Tx × Tx))).length : Int)) := ⟨addOkB b9_start.ok (by decide) _ (q := [0]) (fun z => nomatch z) (by decide) (by decide), by decide⟩
        refine (show EvT _ _ H13 (false || (!decide ((mB_many T P) = (m : Int)))) from et_or (et_test (e_neKK (l := [(l_d1c88699, l_e9d71f5e)]) (m := [(l_d1c88699, l_e9d71f5e)]) (ek_is (ek_met (ev_var rfl) (⟨hs1, hTn, hPn⟩ : BkR K C H13 sb st sp [[], [(l_d1c88699, l_e9d71f5e)]] [[], [0]]).1 (by decide +kernel) (by decide +kernel) (ek_call (ea_cons ev_k (ea_cons ev_c ea_nil)) (sk_of fun HC eC => ⟨_, _, _, _, _, _, rfl, BkR.ex (⟨hs1, hTn, hPn⟩ : BkR K C H13 sb st sp [[], [(l_d1c88699, l_e9d71f5e)]] [[], [0]]) eC, (by walk_at "vside"), rfl⟩))) rfl) (k_disp1 (fun _ => e_lit) (fun _ => e_lit)) (dsame_refl (by decide +kernel)))) (fun _ => (et_test (e_neI (ev_met (ev_var rfl) (⟨hB1, hT1, hP1⟩ : BkR K C H13 pb bt bp T P).1 (by decide +kernel) (by decide +kernel) (ev_call (ea_cons ev_k ea_nil) (sv_of fun HC eC => ⟨_, _, _, _, _, rfl, BkR.ex (⟨hB1, hT1, hP1⟩ : BkR K C H13 pb bt bp T P) eC, rfl⟩))) (ev_var rfl))))) H13 (Ex.refl H13) _ fun H14 e14a => ?_
        rw [show (false || (!decide ((mB_many T P) = (m : Int)))) = false by rw [hmany, hlm, decide_eq_true rfl]; rfl]
        rw [if_neg (by decide)]
        have e14 := e13.trans e14a
        refine r_b ?_
        refine (ea_cons (ev_var rfl) (ea_cons (ev_var rfl) (ea_cons (ev_var rfl) ea_nil))) H14 (Ex.refl H14) _ fun H15 e15 => ?_
        have bk15 := BkR.ex (⟨hB1, hT1, hP1⟩ : BkR K C H13 pb bt bp T P) (e14a.trans e15)
        exact ⟨pb, bt, bp, T, P, n, by rw [hlm]; rfl, bk15, h9, hg, fun HZ eZ => RetV.go k0 (ers_to (e14.trans e15) nbt nbp eZ)⟩
end
/-! ## what the top has written -/
theorem all_mk {l : PySem.W.OpenLaw} {w : World} {K : PySem.W.Frag} {h : Heap} {mg : Str → Option Value} {fa : Addr} (X : K.In h) (G : h.Ns mainGlobals mg) (hfa : mg "law" = some (.ref fa))
    {C : Addr} (aC : PySem.W.nsIn K mainGlobals "Book" = some (some (.ref C))) (pg : PySem.W.plainGet K C Str.empty = true) (hdi : PySem.W.hasDictIn K C = true) (pov : PySem.W.plainOver K C = true)
    (sat : PySem.W.findIn K (.ref C) "__setattr__" = some (some (.builtin "object.__setattr__"))) (mkk : PySem.W.makesIn K C = true) (kcc : PySem.W.keepIn K (.ref C) = true)
    (nnT : PySem.W.findIn K (.ref C) "_trees" = some none) (nnP : PySem.W.findIn K (.ref C) "_parents" = some none)
    {f0 : Addr} {od0 an0 : Option Addr} {sl0 : Array (Option Value)} {oc0 kV0 dc0 pm0 cd0 ct0 : Value}
    (a0 : PySem.W.nsIn K mainGlobals "is_part" = some (some (.ref f0))) (l0 : K.lookup f0 = some ⟨oc0, od0, .func (PySem.W.fnOf "is_part" "is_part" (defArgs s_is_part) (defBody s_is_part) (defScope s_is_part) .none kV0 dc0 pm0 an0 cd0 ct0), sl0⟩) (c0 : PySem.W.codeIn K cd0 "is_part" = true) (k0 : PySem.W.keepIn K (.ref f0) = true)
    {f1 : Addr} {od1 an1 : Option Addr} {sl1 : Array (Option Value)} {oc1 kV1 dc1 pm1 cd1 ct1 : Value}
    (a1 : PySem.W.nsIn K mainGlobals "is_path" = some (some (.ref f1))) (l1 : K.lookup f1 = some ⟨oc1, od1, .func (PySem.W.fnOf "is_path" "is_path" (defArgs s_is_path) (defBody s_is_path) (defScope s_is_path) .none kV1 dc1 pm1 an1 cd1 ct1), sl1⟩) (c1 : PySem.W.codeIn K cd1 "is_path" = true) (k1 : PySem.W.keepIn K (.ref f1) = true)
    {f2 : Addr} {od2 an2 : Option Addr} {sl2 : Array (Option Value)} {oc2 kV2 dc2 pm2 cd2 ct2 : Value}
    (a2 : PySem.W.nsIn K mainGlobals "above" = some (some (.ref f2))) (l2 : K.lookup f2 = some ⟨oc2, od2, .func (PySem.W.fnOf "above" "above" (defArgs s_above) (defBody s_above) (defScope s_above) .none kV2 dc2 pm2 an2 cd2 ct2), sl2⟩) (c2 : PySem.W.codeIn K cd2 "above" = true) (k2 : PySem.W.keepIn K (.ref f2) = true)
    {f3 : Addr} {od3 an3 : Option Addr} {sl3 : Array (Option Value)} {oc3 kV3 dc3 pm3 cd3 ct3 : Value}
    (a3 : PySem.W.nsIn K mainGlobals "is_beneath" = some (some (.ref f3))) (l3 : K.lookup f3 = some ⟨oc3, od3, .func (PySem.W.fnOf "is_beneath" "is_beneath" (defArgs s_is_beneath) (defBody s_is_beneath) (defScope s_is_beneath) .none kV3 dc3 pm3 an3 cd3 ct3), sl3⟩) (c3 : PySem.W.codeIn K cd3 "is_beneath" = true) (k3 : PySem.W.keepIn K (.ref f3) = true)
    {f4 : Addr} {od4 an4 : Option Addr} {sl4 : Array (Option Value)} {oc4 kV4 dc4 pm4 cd4 ct4 : Value}
    (a4 : PySem.W.nsIn K mainGlobals "overlaps" = some (some (.ref f4))) (l4 : K.lookup f4 = some ⟨oc4, od4, .func (PySem.W.fnOf "overlaps" "overlaps" (defArgs s_overlaps) (defBody s_overlaps) (defScope s_overlaps) .none kV4 dc4 pm4 an4 cd4 ct4), sl4⟩) (c4 : PySem.W.codeIn K cd4 "overlaps" = true) (k4 : PySem.W.keepIn K (.ref f4) = true)
    {f5 : Addr} {od5 an5 : Option Addr} {sl5 : Array (Option Value)} {oc5 kV5 dc5 pm5 cd5 ct5 : Value}
    (a5 : PySem.W.nsIn K mainGlobals "is_blocked" = some (some (.ref f5))) (l5 : K.lookup f5 = some ⟨oc5, od5, .func (PySem.W.fnOf "is_blocked" "is_blocked" (defArgs s_is_blocked) (defBody s_is_blocked) (defScope s_is_blocked) .none kV5 dc5 pm5 an5 cd5 ct5), sl5⟩) (c5 : PySem.W.codeIn K cd5 "is_blocked" = true) (k5 : PySem.W.keepIn K (.ref f5) = true)
    {f6 : Addr} {od6 an6 : Option Addr} {sl6 : Array (Option Value)} {oc6 kV6 dc6 pm6 cd6 ct6 : Value}
    (a6 : PySem.W.nsIn K mainGlobals "done" = some (some (.ref f6))) (l6 : K.lookup f6 = some ⟨oc6, od6, .func (PySem.W.fnOf "done" "done" (defArgs s_done) (defBody s_done) (defScope s_done) .none kV6 dc6 pm6 an6 cd6 ct6), sl6⟩) (c6 : PySem.W.codeIn K cd6 "done" = true) (k6 : PySem.W.keepIn K (.ref f6) = true)
    {f7 : Addr} {od7 an7 : Option Addr} {sl7 : Array (Option Value)} {oc7 kV7 dc7 pm7 cd7 ct7 : Value}
    (a7 : PySem.W.nsIn K mainGlobals "changed" = some (some (.ref f7))) (l7 : K.lookup f7 = some ⟨oc7, od7, .func (PySem.W.fnOf "changed" "changed" (defArgs s_changed) (defBody s_changed) (defScope s_changed) .none kV7 dc7 pm7 an7 cd7 ct7), sl7⟩) (c7 : PySem.W.codeIn K cd7 "changed" = true) (k7 : PySem.W.keepIn K (.ref f7) = true)
    {f8 : Addr} {od8 an8 : Option Addr} {sl8 : Array (Option Value)} {oc8 kV8 dc8 pm8 cd8 ct8 : Value}
    (a8 : PySem.W.nsIn K mainGlobals "mark_of" = some (some (.ref f8))) (l8 : K.lookup f8 = some ⟨oc8, od8, .func (PySem.W.fnOf "mark_of" "mark_of" (defArgs s_mark_of) (defBody s_mark_of) (defScope s_mark_of) .none kV8 dc8 pm8 an8 cd8 ct8), sl8⟩) (c8 : PySem.W.codeIn K cd8 "mark_of" = true) (k8 : PySem.W.keepIn K (.ref f8) = true)
    {f9 : Addr} {od9 an9 : Option Addr} {sl9 : Array (Option Value)} {oc9 kV9 dc9 pm9 cd9 ct9 : Value}
    (a9 : PySem.W.nsIn K mainGlobals "marks" = some (some (.ref f9))) (l9 : K.lookup f9 = some ⟨oc9, od9, .func (PySem.W.fnOf "marks" "marks" (defArgs s_marks) (defBody s_marks) (defScope s_marks) .none kV9 dc9 pm9 an9 cd9 ct9), sl9⟩) (c9 : PySem.W.codeIn K cd9 "marks" = true) (k9 : PySem.W.keepIn K (.ref f9) = true)
    {f10 : Addr} {od10 an10 : Option Addr} {sl10 : Array (Option Value)} {oc10 kV10 dc10 pm10 cd10 ct10 : Value}
    (a10 : PySem.W.nsIn K mainGlobals "single_clashes" = some (some (.ref f10))) (l10 : K.lookup f10 = some ⟨oc10, od10, .func (PySem.W.fnOf "single_clashes" "single_clashes" (defArgs s_single_clashes) (defBody s_single_clashes) (defScope s_single_clashes) .none kV10 dc10 pm10 an10 cd10 ct10), sl10⟩) (c10 : PySem.W.codeIn K cd10 "single_clashes" = true) (k10 : PySem.W.keepIn K (.ref f10) = true)
    {f11 : Addr} {od11 an11 : Option Addr} {sl11 : Array (Option Value)} {oc11 kV11 dc11 pm11 cd11 ct11 : Value}
    (a11 : PySem.W.nsIn K mainGlobals "settle" = some (some (.ref f11))) (l11 : K.lookup f11 = some ⟨oc11, od11, .func (PySem.W.fnOf "settle" "settle" (defArgs s_settle) (defBody s_settle) (defScope s_settle) .none kV11 dc11 pm11 an11 cd11 ct11), sl11⟩) (c11 : PySem.W.codeIn K cd11 "settle" = true) (k11 : PySem.W.keepIn K (.ref f11) = true)
    {f12 : Addr} {od12 an12 : Option Addr} {sl12 : Array (Option Value)} {oc12 kV12 dc12 pm12 cd12 ct12 : Value}
    (a12 : PySem.W.nsIn K mainGlobals "agreed" = some (some (.ref f12))) (l12 : K.lookup f12 = some ⟨oc12, od12, .func (PySem.W.fnOf "agreed" "agreed" (defArgs s_agreed) (defBody s_agreed) (defScope s_agreed) .none kV12 dc12 pm12 an12 cd12 ct12), sl12⟩) (c12 : PySem.W.codeIn K cd12 "agreed" = true) (k12 : PySem.W.keepIn K (.ref f12) = true)
    {f13 : Addr} {od13 an13 : Option Addr} {sl13 : Array (Option Value)} {oc13 kV13 dc13 pm13 cd13 ct13 : Value}
    (a13 : PySem.W.nsIn K mainGlobals "clashes" = some (some (.ref f13))) (l13 : K.lookup f13 = some ⟨oc13, od13, .func (PySem.W.fnOf "clashes" "clashes" (defArgs s_clashes) (defBody s_clashes) (defScope s_clashes) .none kV13 dc13 pm13 an13 cd13 ct13), sl13⟩) (c13 : PySem.W.codeIn K cd13 "clashes" = true) (k13 : PySem.W.keepIn K (.ref f13) = true)
    {f14 : Addr} {od14 an14 : Option Addr} {sl14 : Array (Option Value)} {oc14 kV14 dc14 pm14 cd14 ct14 : Value}
    (a14 : PySem.W.nsIn K mainGlobals "joined" = some (some (.ref f14))) (l14 : K.lookup f14 = some ⟨oc14, od14, .func (PySem.W.fnOf "joined" "joined" (defArgs s_joined) (defBody s_joined) (defScope s_joined) .none kV14 dc14 pm14 an14 cd14 ct14), sl14⟩) (c14 : PySem.W.codeIn K cd14 "joined" = true) (k14 : PySem.W.keepIn K (.ref f14) = true)
    {f15 : Addr} {od15 an15 : Option Addr} {sl15 : Array (Option Value)} {oc15 kV15 dc15 pm15 cd15 ct15 : Value}
    (a15 : PySem.W.findIn K (.ref C) "__init__" = some (some (.ref f15))) (i15 : PySem.W.isFn K (.ref f15) = true) (l15 : K.lookup f15 = some ⟨oc15, od15, .func (PySem.W.fnOf "__init__" "Book.__init__" (defArgs sB_init) (defBody sB_init) (defScope sB_init) .none kV15 dc15 pm15 an15 cd15 ct15), sl15⟩) (c15 : PySem.W.codeIn K cd15 "Book.__init__" = true) (k15 : PySem.W.keepIn K (.ref f15) = true)
    {f16 : Addr} {od16 an16 : Option Addr} {sl16 : Array (Option Value)} {oc16 kV16 dc16 pm16 cd16 ct16 : Value}
    (a16 : PySem.W.findIn K (.ref C) "_check" = some (some (.ref f16))) (i16 : PySem.W.isFn K (.ref f16) = true) (l16 : K.lookup f16 = some ⟨oc16, od16, .func (PySem.W.fnOf "_check" "Book._check" (defArgs sB_check) (defBody sB_check) (defScope sB_check) .none kV16 dc16 pm16 an16 cd16 ct16), sl16⟩) (c16 : PySem.W.codeIn K cd16 "Book._check" = true) (k16 : PySem.W.keepIn K (.ref f16) = true)
    {f17 : Addr} {od17 an17 : Option Addr} {sl17 : Array (Option Value)} {oc17 kV17 dc17 pm17 cd17 ct17 : Value}
    (a17 : PySem.W.findIn K (.ref C) "_keep" = some (some (.ref f17))) (i17 : PySem.W.isFn K (.ref f17) = true) (l17 : K.lookup f17 = some ⟨oc17, od17, .func (PySem.W.fnOf "_keep" "Book._keep" (defArgs sB_keep) (defBody sB_keep) (defScope sB_keep) .none kV17 dc17 pm17 an17 cd17 ct17), sl17⟩) (c17 : PySem.W.codeIn K cd17 "Book._keep" = true) (k17 : PySem.W.keepIn K (.ref f17) = true)
    {f18 : Addr} {od18 an18 : Option Addr} {sl18 : Array (Option Value)} {oc18 kV18 dc18 pm18 cd18 ct18 : Value}
    (a18 : PySem.W.findIn K (.ref C) "_has_changed" = some (some (.ref f18))) (i18 : PySem.W.isFn K (.ref f18) = true) (l18 : K.lookup f18 = some ⟨oc18, od18, .func (PySem.W.fnOf "_has_changed" "Book._has_changed" (defArgs sB_has_changed) (defBody sB_has_changed) (defScope sB_has_changed) .none kV18 dc18 pm18 an18 cd18 ct18), sl18⟩) (c18 : PySem.W.codeIn K cd18 "Book._has_changed" = true) (k18 : PySem.W.keepIn K (.ref f18) = true)
    {f19 : Addr} {od19 an19 : Option Addr} {sl19 : Array (Option Value)} {oc19 kV19 dc19 pm19 cd19 ct19 : Value}
    (a19 : PySem.W.findIn K (.ref C) "many" = some (some (.ref f19))) (i19 : PySem.W.isFn K (.ref f19) = true) (l19 : K.lookup f19 = some ⟨oc19, od19, .func (PySem.W.fnOf "many" "Book.many" (defArgs sB_many) (defBody sB_many) (defScope sB_many) .none kV19 dc19 pm19 an19 cd19 ct19), sl19⟩) (c19 : PySem.W.codeIn K cd19 "Book.many" = true) (k19 : PySem.W.keepIn K (.ref f19) = true)
    {f20 : Addr} {od20 an20 : Option Addr} {sl20 : Array (Option Value)} {oc20 kV20 dc20 pm20 cd20 ct20 : Value}
    (a20 : PySem.W.findIn K (.ref C) "tree" = some (some (.ref f20))) (i20 : PySem.W.isFn K (.ref f20) = true) (l20 : K.lookup f20 = some ⟨oc20, od20, .func (PySem.W.fnOf "tree" "Book.tree" (defArgs sB_tree) (defBody sB_tree) (defScope sB_tree) .none kV20 dc20 pm20 an20 cd20 ct20), sl20⟩) (c20 : PySem.W.codeIn K cd20 "Book.tree" = true) (k20 : PySem.W.keepIn K (.ref f20) = true)
    {f21 : Addr} {od21 an21 : Option Addr} {sl21 : Array (Option Value)} {oc21 kV21 dc21 pm21 cd21 ct21 : Value}
    (a21 : PySem.W.findIn K (.ref C) "parents" = some (some (.ref f21))) (i21 : PySem.W.isFn K (.ref f21) = true) (l21 : K.lookup f21 = some ⟨oc21, od21, .func (PySem.W.fnOf "parents" "Book.parents" (defArgs sB_parents) (defBody sB_parents) (defScope sB_parents) .none kV21 dc21 pm21 an21 cd21 ct21), sl21⟩) (c21 : PySem.W.codeIn K cd21 "Book.parents" = true) (k21 : PySem.W.keepIn K (.ref f21) = true)
    {f22 : Addr} {od22 an22 : Option Addr} {sl22 : Array (Option Value)} {oc22 kV22 dc22 pm22 cd22 ct22 : Value}
    (a22 : PySem.W.findIn K (.ref C) "elders" = some (some (.ref f22))) (i22 : PySem.W.isFn K (.ref f22) = true) (l22 : K.lookup f22 = some ⟨oc22, od22, .func (PySem.W.fnOf "elders" "Book.elders" (defArgs sB_elders) (defBody sB_elders) (defScope sB_elders) .none kV22 dc22 pm22 an22 cd22 ct22), sl22⟩) (c22 : PySem.W.codeIn K cd22 "Book.elders" = true) (k22 : PySem.W.keepIn K (.ref f22) = true)
    {f23 : Addr} {od23 an23 : Option Addr} {sl23 : Array (Option Value)} {oc23 kV23 dc23 pm23 cd23 ct23 : Value}
    (a23 : PySem.W.findIn K (.ref C) "nearest" = some (some (.ref f23))) (i23 : PySem.W.isFn K (.ref f23) = true) (l23 : K.lookup f23 = some ⟨oc23, od23, .func (PySem.W.fnOf "nearest" "Book.nearest" (defArgs sB_nearest) (defBody sB_nearest) (defScope sB_nearest) .none kV23 dc23 pm23 an23 cd23 ct23), sl23⟩) (c23 : PySem.W.codeIn K cd23 "Book.nearest" = true) (k23 : PySem.W.keepIn K (.ref f23) = true)
    {f24 : Addr} {od24 an24 : Option Addr} {sl24 : Array (Option Value)} {oc24 kV24 dc24 pm24 cd24 ct24 : Value}
    (a24 : PySem.W.findIn K (.ref C) "road" = some (some (.ref f24))) (i24 : PySem.W.isFn K (.ref f24) = true) (l24 : K.lookup f24 = some ⟨oc24, od24, .func (PySem.W.fnOf "road" "Book.road" (defArgs sB_road) (defBody sB_road) (defScope sB_road) .none kV24 dc24 pm24 an24 cd24 ct24), sl24⟩) (c24 : PySem.W.codeIn K cd24 "Book.road" = true) (k24 : PySem.W.keepIn K (.ref f24) = true)
    {f25 : Addr} {od25 an25 : Option Addr} {sl25 : Array (Option Value)} {oc25 kV25 dc25 pm25 cd25 ct25 : Value}
    (a25 : PySem.W.findIn K (.ref C) "story" = some (some (.ref f25))) (i25 : PySem.W.isFn K (.ref f25) = true) (l25 : K.lookup f25 = some ⟨oc25, od25, .func (PySem.W.fnOf "story" "Book.story" (defArgs sB_story) (defBody sB_story) (defScope sB_story) .none kV25 dc25 pm25 an25 cd25 ct25), sl25⟩) (c25 : PySem.W.codeIn K cd25 "Book.story" = true) (k25 : PySem.W.keepIn K (.ref f25) = true)
    {f26 : Addr} {od26 an26 : Option Addr} {sl26 : Array (Option Value)} {oc26 kV26 dc26 pm26 cd26 ct26 : Value}
    (a26 : PySem.W.findIn K (.ref C) "grow" = some (some (.ref f26))) (i26 : PySem.W.isFn K (.ref f26) = true) (l26 : K.lookup f26 = some ⟨oc26, od26, .func (PySem.W.fnOf "grow" "Book.grow" (defArgs sB_grow) (defBody sB_grow) (defScope sB_grow) .none kV26 dc26 pm26 an26 cd26 ct26), sl26⟩) (c26 : PySem.W.codeIn K cd26 "Book.grow" = true) (k26 : PySem.W.keepIn K (.ref f26) = true)
    {f27 : Addr} {od27 an27 : Option Addr} {sl27 : Array (Option Value)} {oc27 kV27 dc27 pm27 cd27 ct27 : Value}
    (a27 : PySem.W.findIn K (.ref C) "_check" = some (some (.ref f27))) (i27 : PySem.W.isFn K (.ref f27) = true) (l27 : K.lookup f27 = some ⟨oc27, od27, .func (PySem.W.fnOf "_check" "Book._check" (defArgs sB_check_x) (defBody sB_check_x) (defScope sB_check_x) .none kV27 dc27 pm27 an27 cd27 ct27), sl27⟩) (c27 : PySem.W.codeIn K cd27 "Book._check" = true) (k27 : PySem.W.keepIn K (.ref f27) = true)
    {f28 : Addr} {od28 an28 : Option Addr} {sl28 : Array (Option Value)} {oc28 kV28 dc28 pm28 cd28 ct28 : Value}
    (a28 : PySem.W.findIn K (.ref C) "tree" = some (some (.ref f28))) (i28 : PySem.W.isFn K (.ref f28) = true) (l28 : K.lookup f28 = some ⟨oc28, od28, .func (PySem.W.fnOf "tree" "Book.tree" (defArgs sB_tree_x) (defBody sB_tree_x) (defScope sB_tree_x) .none kV28 dc28 pm28 an28 cd28 ct28), sl28⟩) (c28 : PySem.W.codeIn K cd28 "Book.tree" = true) (k28 : PySem.W.keepIn K (.ref f28) = true)
    {f29 : Addr} {od29 an29 : Option Addr} {sl29 : Array (Option Value)} {oc29 kV29 dc29 pm29 cd29 ct29 : Value}
    (a29 : PySem.W.findIn K (.ref C) "parents" = some (some (.ref f29))) (i29 : PySem.W.isFn K (.ref f29) = true) (l29 : K.lookup f29 = some ⟨oc29, od29, .func (PySem.W.fnOf "parents" "Book.parents" (defArgs sB_parents_x) (defBody sB_parents_x) (defScope sB_parents_x) .none kV29 dc29 pm29 an29 cd29 ct29), sl29⟩) (c29 : PySem.W.codeIn K cd29 "Book.parents" = true) (k29 : PySem.W.keepIn K (.ref f29) = true)
    {f30 : Addr} {od30 an30 : Option Addr} {sl30 : Array (Option Value)} {oc30 kV30 dc30 pm30 cd30 ct30 : Value}
    (a30 : PySem.W.findIn K (.ref C) "elders" = some (some (.ref f30))) (i30 : PySem.W.isFn K (.ref f30) = true) (l30 : K.lookup f30 = some ⟨oc30, od30, .func (PySem.W.fnOf "elders" "Book.elders" (defArgs sB_elders_x) (defBody sB_elders_x) (defScope sB_elders_x) .none kV30 dc30 pm30 an30 cd30 ct30), sl30⟩) (c30 : PySem.W.codeIn K cd30 "Book.elders" = true) (k30 : PySem.W.keepIn K (.ref f30) = true)
    {f31 : Addr} {od31 an31 : Option Addr} {sl31 : Array (Option Value)} {oc31 kV31 dc31 pm31 cd31 ct31 : Value}
    (a31 : PySem.W.findIn K (.ref C) "grow" = some (some (.ref f31))) (i31 : PySem.W.isFn K (.ref f31) = true) (l31 : K.lookup f31 = some ⟨oc31, od31, .func (PySem.W.fnOf "grow" "Book.grow" (defArgs sB_grow_x) (defBody sB_grow_x) (defScope sB_grow_x) .none kV31 dc31 pm31 an31 cd31 ct31), sl31⟩) (c31 : PySem.W.codeIn K cd31 "Book.grow" = true) (k31 : PySem.W.keepIn K (.ref f31) = true)
    {f32 : Addr} {od32 an32 : Option Addr} {sl32 : Array (Option Value)} {oc32 kV32 dc32 pm32 cd32 ct32 : Value}
    (a32 : PySem.W.findIn K (.ref C) "merge" = some (some (.ref f32))) (i32 : PySem.W.isFn K (.ref f32) = true) (l32 : K.lookup f32 = some ⟨oc32, od32, .func (PySem.W.fnOf "merge" "Book.merge" (defArgs sB_merge_x) (defBody sB_merge_x) (defScope sB_merge_x) .none kV32 dc32 pm32 an32 cd32 ct32), sl32⟩) (c32 : PySem.W.codeIn K cd32 "Book.merge" = true) (k32 : PySem.W.keepIn K (.ref f32) = true)
    {f33 : Addr} {od33 an33 : Option Addr} {sl33 : Array (Option Value)} {oc33 kV33 dc33 pm33 cd33 ct33 : Value}
    (a33 : PySem.W.findIn K (.ref C) "road" = some (some (.ref f33))) (i33 : PySem.W.isFn K (.ref f33) = true) (l33 : K.lookup f33 = some ⟨oc33, od33, .func (PySem.W.fnOf "road" "Book.road" (defArgs sB_road_x) (defBody sB_road_x) (defScope sB_road_x) .none kV33 dc33 pm33 an33 cd33 ct33), sl33⟩) (c33 : PySem.W.codeIn K cd33 "Book.road" = true) (k33 : PySem.W.keepIn K (.ref f33) = true)
    {f34 : Addr} {od34 an34 : Option Addr} {sl34 : Array (Option Value)} {oc34 kV34 dc34 pm34 cd34 ct34 : Value}
    (a34 : PySem.W.findIn K (.ref C) "nearest" = some (some (.ref f34))) (i34 : PySem.W.isFn K (.ref f34) = true) (l34 : K.lookup f34 = some ⟨oc34, od34, .func (PySem.W.fnOf "nearest" "Book.nearest" (defArgs sB_nearest_x) (defBody sB_nearest_x) (defScope sB_nearest_x) .none kV34 dc34 pm34 an34 cd34 ct34), sl34⟩) (c34 : PySem.W.codeIn K cd34 "Book.nearest" = true) (k34 : PySem.W.keepIn K (.ref f34) = true)
    {f35 : Addr} {od35 an35 : Option Addr} {sl35 : Array (Option Value)} {oc35 kV35 dc35 pm35 cd35 ct35 : Value}
    (a35 : PySem.W.findIn K (.ref C) "story" = some (some (.ref f35))) (i35 : PySem.W.isFn K (.ref f35) = true) (l35 : K.lookup f35 = some ⟨oc35, od35, .func (PySem.W.fnOf "story" "Book.story" (defArgs sB_story_x) (defBody sB_story_x) (defScope sB_story_x) .none kV35 dc35 pm35 an35 cd35 ct35), sl35⟩) (c35 : PySem.W.codeIn K cd35 "Book.story" = true) (k35 : PySem.W.keepIn K (.ref f35) = true)
    {f36 : Addr} {od36 an36 : Option Addr} {sl36 : Array (Option Value)} {oc36 kV36 dc36 pm36 cd36 ct36 : Value}
    (a36 : PySem.W.nsIn K mainGlobals "_law_cell_at" = some (some (.ref f36))) (l36 : K.lookup f36 = some ⟨oc36, od36, .func (PySem.W.fnOf "_law_cell_at" "_law_cell_at" (defArgs s_law_cell_at) (defBody s_law_cell_at) (defScope s_law_cell_at) .none kV36 dc36 pm36 an36 cd36 ct36), sl36⟩) (c36 : PySem.W.codeIn K cd36 "_law_cell_at" = true) (k36 : PySem.W.keepIn K (.ref f36) = true)
    {f37 : Addr} {od37 an37 : Option Addr} {sl37 : Array (Option Value)} {oc37 kV37 dc37 pm37 cd37 ct37 : Value}
    (a37 : PySem.W.nsIn K mainGlobals "_law_asked" = some (some (.ref f37))) (l37 : K.lookup f37 = some ⟨oc37, od37, .func (PySem.W.fnOf "_law_asked" "_law_asked" (defArgs s_law_asked) (defBody s_law_asked) (defScope s_law_asked) .none kV37 dc37 pm37 an37 cd37 ct37), sl37⟩) (c37 : PySem.W.codeIn K cd37 "_law_asked" = true) (k37 : PySem.W.keepIn K (.ref f37) = true)
    {f38 : Addr} {od38 an38 : Option Addr} {sl38 : Array (Option Value)} {oc38 kV38 dc38 pm38 cd38 ct38 : Value}
    (a38 : PySem.W.nsIn K mainGlobals "_law_told" = some (some (.ref f38))) (l38 : K.lookup f38 = some ⟨oc38, od38, .func (PySem.W.fnOf "_law_told" "_law_told" (defArgs s_law_told) (defBody s_law_told) (defScope s_law_told) .none kV38 dc38 pm38 an38 cd38 ct38), sl38⟩) (c38 : PySem.W.codeIn K cd38 "_law_told" = true) (k38 : PySem.W.keepIn K (.ref f38) = true)
    {f39 : Addr} {od39 an39 : Option Addr} {sl39 : Array (Option Value)} {oc39 kV39 dc39 pm39 cd39 ct39 : Value}
    (a39 : PySem.W.nsIn K mainGlobals "_law_there_then" = some (some (.ref f39))) (l39 : K.lookup f39 = some ⟨oc39, od39, .func (PySem.W.fnOf "_law_there_then" "_law_there_then" (defArgs s_law_there_then) (defBody s_law_there_then) (defScope s_law_there_then) .none kV39 dc39 pm39 an39 cd39 ct39), sl39⟩) (c39 : PySem.W.codeIn K cd39 "_law_there_then" = true) (k39 : PySem.W.keepIn K (.ref f39) = true)
    {f40 : Addr} {od40 an40 : Option Addr} {sl40 : Array (Option Value)} {oc40 kV40 dc40 pm40 cd40 ct40 : Value}
    (a40 : PySem.W.nsIn K mainGlobals "law" = some (some (.ref f40))) (l40 : K.lookup f40 = some ⟨oc40, od40, .func (PySem.W.fnOf "law" "law" (defArgs s_law) (defBody s_law) (defScope s_law) .none kV40 dc40 pm40 an40 cd40 ct40), sl40⟩) (c40 : PySem.W.codeIn K cd40 "law" = true) (k40 : PySem.W.keepIn K (.ref f40) = true)
    (z_ValueError : PySem.W.nsIn K mainGlobals "ValueError" = some none)
    (z_all : PySem.W.nsIn K mainGlobals "all" = some none)
    (z_any : PySem.W.nsIn K mainGlobals "any" = some none)
    (z_bool : PySem.W.nsIn K mainGlobals "bool" = some none)
    (z_dict : PySem.W.nsIn K mainGlobals "dict" = some none)
    (z_int : PySem.W.nsIn K mainGlobals "int" = some none)
    (z_isinstance : PySem.W.nsIn K mainGlobals "isinstance" = some none)
    (z_len : PySem.W.nsIn K mainGlobals "len" = some none)
    (z_range : PySem.W.nsIn K mainGlobals "range" = some none)
    (z_reversed : PySem.W.nsIn K mainGlobals "reversed" = some none)
    (z_set : PySem.W.nsIn K mainGlobals "set" = some none)
    (z_sorted : PySem.W.nsIn K mainGlobals "sorted" = some none)
    (z_str : PySem.W.nsIn K mainGlobals "str" = some none)
    {t_MOST_PARTS : Tok} (z_MOST_PARTS : PySem.W.nsIn K mainGlobals "MOST_PARTS" = some (some (.int 8 t_MOST_PARTS)))
    {t_MOST_SIGNS : Tok} (z_MOST_SIGNS : PySem.W.nsIn K mainGlobals "MOST_SIGNS" = some (some (.int 12 t_MOST_SIGNS)))
    {t_SIGNS : Tok} (z_SIGNS : PySem.W.nsIn K mainGlobals "SIGNS" = some (some (.str (Str.ofString "abcdefghijklmnopqrstuvwxyzABCDEFGHIJKLMNOPQRSTUVWXYZ0123456789.-_") t_SIGNS)))
    {C0 C1 C2 C3 C4 C5 C6 C7 : Addr} (eg0 : PySem.W.nsIn K mainGlobals "RoadError" = some (some (.ref C0))) (eg1 : PySem.W.nsIn K mainGlobals "NoPath" = some (some (.ref C1))) (eg2 : PySem.W.nsIn K mainGlobals "NoFile" = some (some (.ref C2))) (eg3 : PySem.W.nsIn K mainGlobals "InTheWay" = some (some (.ref C3))) (eg4 : PySem.W.nsIn K mainGlobals "NoClash" = some (some (.ref C4))) (eg5 : PySem.W.nsIn K mainGlobals "Clashed" = some (some (.ref C5))) (eg6 : PySem.W.nsIn K mainGlobals "NoVersion" = some (some (.ref C6))) (eg7 : PySem.W.nsIn K mainGlobals "SameVersion" = some (some (.ref C7)))
    (rx1 : PySem.W.excIn K C1 [.type "ValueError", .type "Exception", .type "BaseException", .type "object"] "ValueError.__new__" = true) (rk1 : PySem.W.keepIn K (.ref C1) = true) (rb1 : PySem.W.subIn K (.ref C1) (.type "BaseException") = some true) (rt1 : PySem.W.typeIn K (.ref C1) = some (.type "type"))
    (rx2 : PySem.W.excIn K C2 [.type "ValueError", .type "Exception", .type "BaseException", .type "object"] "ValueError.__new__" = true) (rk2 : PySem.W.keepIn K (.ref C2) = true) (rb2 : PySem.W.subIn K (.ref C2) (.type "BaseException") = some true) (rt2 : PySem.W.typeIn K (.ref C2) = some (.type "type"))
    (rx3 : PySem.W.excIn K C3 [.type "ValueError", .type "Exception", .type "BaseException", .type "object"] "ValueError.__new__" = true) (rk3 : PySem.W.keepIn K (.ref C3) = true) (rb3 : PySem.W.subIn K (.ref C3) (.type "BaseException") = some true) (rt3 : PySem.W.typeIn K (.ref C3) = some (.type "type"))
    (rx4 : PySem.W.excIn K C4 [.type "ValueError", .type "Exception", .type "BaseException", .type "object"] "ValueError.__new__" = true) (rk4 : PySem.W.keepIn K (.ref C4) = true) (rb4 : PySem.W.subIn K (.ref C4) (.type "BaseException") = some true) (rt4 : PySem.W.typeIn K (.ref C4) = some (.type "type"))
    (rx5 : PySem.W.excIn K C5 [.type "ValueError", .type "Exception", .type "BaseException", .type "object"] "ValueError.__new__" = true) (rk5 : PySem.W.keepIn K (.ref C5) = true) (rb5 : PySem.W.subIn K (.ref C5) (.type "BaseException") = some true) (rt5 : PySem.W.typeIn K (.ref C5) = some (.type "type"))
    (rx6 : PySem.W.excIn K C6 [.type "ValueError", .type "Exception", .type "BaseException", .type "object"] "ValueError.__new__" = true) (rk6 : PySem.W.keepIn K (.ref C6) = true) (rb6 : PySem.W.subIn K (.ref C6) (.type "BaseException") = some true) (rt6 : PySem.W.typeIn K (.ref C6) = some (.type "type"))
    (rx7 : PySem.W.excIn K C7 [.type "ValueError", .type "Exception", .type "BaseException", .type "object"] "ValueError.__new__" = true) (rk7 : PySem.W.keepIn K (.ref C7) = true) (rb7 : PySem.W.subIn K (.ref C7) (.type "BaseException") = some true) (rt7 : PySem.W.typeIn K (.ref C7) = some (.type "type"))
    (qcb : PySem.W.subIn K (.ref C0) (.type "BaseException") = some true) (qci0 : PySem.W.isClsIn K C0 = true) (qci1 : PySem.W.isClsIn K C1 = true) (qci2 : PySem.W.isClsIn K C2 = true) (qci3 : PySem.W.isClsIn K C3 = true) (qci4 : PySem.W.isClsIn K C4 = true) (qci5 : PySem.W.isClsIn K C5 = true) (qci6 : PySem.W.isClsIn K C6 = true) (qci7 : PySem.W.isClsIn K C7 = true) (qct0 : PySem.W.typeIn K (.ref C0) = some (.type "type")) (qct1 : PySem.W.typeIn K (.ref C1) = some (.type "type")) (qct2 : PySem.W.typeIn K (.ref C2) = some (.type "type")) (qct3 : PySem.W.typeIn K (.ref C3) = some (.type "type")) (qct4 : PySem.W.typeIn K (.ref C4) = some (.type "type")) (qct5 : PySem.W.typeIn K (.ref C5) = some (.type "type")) (qct6 : PySem.W.typeIn K (.ref C6) = some (.type "type")) (qct7 : PySem.W.typeIn K (.ref C7) = some (.type "type"))
    (t6hg : PySem.W.findIn K (.ref C6) "__getattribute__" = some (some (.builtin "BaseException.__getattribute__"))) (t6hk : PySem.W.findIn K (.ref C6) "__getattr__" = some none) (t6hs : PySem.W.subIn K (.ref C6) (.type "BaseException") = some true) (t6hd : PySem.W.hasDictIn K C6 = true) (t6ha : PySem.W.findIn K (.ref C6) "__class__" = some (some (.builtin "object.__class__"))) (t6hn : PySem.W.specialIn K (.builtin "object.__class__") "__get__" = some (some (.builtin "getset_descriptor.__get__"))) (t6ht : PySem.W.takesIn K (.builtin "object.__class__") = some true) (t6hm : PySem.W.mroIn K C6 (.type "object") = some true) (t6v : PySem.W.subIn K (.ref C6) (.type "ValueError") = some true) (t6i0 : PySem.W.subIn K (.ref C6) (.ref C0) = some true) (t6i1 : PySem.W.subIn K (.ref C6) (.ref C1) = some false) (t6i2 : PySem.W.subIn K (.ref C6) (.ref C2) = some false) (t6i3 : PySem.W.subIn K (.ref C6) (.ref C3) = some false) (t6i4 : PySem.W.subIn K (.ref C6) (.ref C4) = some false) (t6i5 : PySem.W.subIn K (.ref C6) (.ref C5) = some false) (t6i6 : PySem.W.subIn K (.ref C6) (.ref C6) = some true) (t6i7 : PySem.W.subIn K (.ref C6) (.ref C7) = some false)
    (t7hg : PySem.W.findIn K (.ref C7) "__getattribute__" = some (some (.builtin "BaseException.__getattribute__"))) (t7hk : PySem.W.findIn K (.ref C7) "__getattr__" = some none) (t7hs : PySem.W.subIn K (.ref C7) (.type "BaseException") = some true) (t7hd : PySem.W.hasDictIn K C7 = true) (t7ha : PySem.W.findIn K (.ref C7) "__class__" = some (some (.builtin "object.__class__"))) (t7hn : PySem.W.specialIn K (.builtin "object.__class__") "__get__" = some (some (.builtin "getset_descriptor.__get__"))) (t7ht : PySem.W.takesIn K (.builtin "object.__class__") = some true) (t7hm : PySem.W.mroIn K C7 (.type "object") = some true) (t7v : PySem.W.subIn K (.ref C7) (.type "ValueError") = some true) (t7i0 : PySem.W.subIn K (.ref C7) (.ref C0) = some true) (t7i1 : PySem.W.subIn K (.ref C7) (.ref C1) = some false) (t7i2 : PySem.W.subIn K (.ref C7) (.ref C2) = some false) (t7i3 : PySem.W.subIn K (.ref C7) (.ref C3) = some false) (t7i4 : PySem.W.subIn K (.ref C7) (.ref C4) = some false) (t7i5 : PySem.W.subIn K (.ref C7) (.ref C5) = some false) (t7i6 : PySem.W.subIn K (.ref C7) (.ref C6) = some false) (t7i7 : PySem.W.subIn K (.ref C7) (.ref C7) = some true)
    : ∃ fd : FuncData, (∀ (s : Shared) (v : Value), BindsTo s fd ⟨[v], []⟩ [("_law_script", v)]) ∧ ∀ base : Heap, K.In base → base.Ns mainGlobals mg → FnOk l.prog w K mg base CX0 7 fa fd ["_law_script"] (sp_law K) := by
  have z : Bt mg := ⟨PySem.W.mg_none_of X G z_ValueError, PySem.W.mg_none_of X G z_all, PySem.W.mg_none_of X G z_any, PySem.W.mg_none_of X G z_bool, PySem.W.mg_none_of X G z_dict, PySem.W.mg_none_of X G z_int, PySem.W.mg_none_of X G z_isinstance, PySem.W.mg_none_of X G z_len, PySem.W.mg_none_of X G z_range, PySem.W.mg_none_of X G z_reversed, PySem.W.mg_none_of X G z_set, PySem.W.mg_none_of X G z_sorted, PySem.W.mg_none_of X G z_str, ⟨_, PySem.W.mg_of X G z_MOST_PARTS⟩, ⟨_, PySem.W.mg_of X G z_MOST_SIGNS⟩, ⟨_, PySem.W.mg_of X G z_SIGNS⟩⟩
  have Tb : BkT K mg C := ⟨⟨pg, hdi, pov, sat⟩, nnT, nnP, PySem.W.mg_of X G aC⟩
  have EG : EG mg (cs8 C0 C1 C2 C3 C4 C5 C6 C7) := ⟨PySem.W.mg_of X G eg0, PySem.W.mg_of X G eg1, PySem.W.mg_of X G eg2, PySem.W.mg_of X G eg3, PySem.W.mg_of X G eg4, PySem.W.mg_of X G eg5, PySem.W.mg_of X G eg6, PySem.W.mg_of X G eg7⟩
  have R1 : ErrR K (cs8 C0 C1 C2 C3 C4 C5 C6 C7) 1 := ⟨rx1, rk1, rb1, rt1⟩
  have R2 : ErrR K (cs8 C0 C1 C2 C3 C4 C5 C6 C7) 2 := ⟨rx2, rk2, rb2, rt2⟩
  have R3 : ErrR K (cs8 C0 C1 C2 C3 C4 C5 C6 C7) 3 := ⟨rx3, rk3, rb3, rt3⟩
  have R4 : ErrR K (cs8 C0 C1 C2 C3 C4 C5 C6 C7) 4 := ⟨rx4, rk4, rb4, rt4⟩
  have R5 : ErrR K (cs8 C0 C1 C2 C3 C4 C5 C6 C7) 5 := ⟨rx5, rk5, rb5, rt5⟩
  have R6 : ErrR K (cs8 C0 C1 C2 C3 C4 C5 C6 C7) 6 := ⟨rx6, rk6, rb6, rt6⟩
  have R7 : ErrR K (cs8 C0 C1 C2 C3 C4 C5 C6 C7) 7 := ⟨rx7, rk7, rb7, rt7⟩
  have E6 : ErrC K (cs8 C0 C1 C2 C3 C4 C5 C6 C7) 6 := ⟨⟨t6hg, t6hk, t6hs, t6hd, t6ha, t6hn, t6ht, t6hm⟩, exm_t qcb qci0 qct0 t6i0, fun j hj => match j, hj with | 0, _ => kit_t qci0 qct0 t6i0 | 1, _ => kit_f qci1 qct1 t6i1 t6i6 | 2, _ => kit_f qci2 qct2 t6i2 t6i6 | 3, _ => kit_f qci3 qct3 t6i3 t6i6 | 4, _ => kit_f qci4 qct4 t6i4 t6i6 | 5, _ => kit_f qci5 qct5 t6i5 t6i6 | 6, _ => kit_t qci6 qct6 t6i6 | 7, _ => kit_f qci7 qct7 t6i7 t6i6, kit_ve t6v⟩
  have E7 : ErrC K (cs8 C0 C1 C2 C3 C4 C5 C6 C7) 7 := ⟨⟨t7hg, t7hk, t7hs, t7hd, t7ha, t7hn, t7ht, t7hm⟩, exm_t qcb qci0 qct0 t7i0, fun j hj => match j, hj with | 0, _ => kit_t qci0 qct0 t7i0 | 1, _ => kit_f qci1 qct1 t7i1 t7i7 | 2, _ => kit_f qci2 qct2 t7i2 t7i7 | 3, _ => kit_f qci3 qct3 t7i3 t7i7 | 4, _ => kit_f qci4 qct4 t7i4 t7i7 | 5, _ => kit_f qci5 qct5 t7i5 t7i7 | 6, _ => kit_f qci6 qct6 t7i6 t7i7 | 7, _ => kit_t qci7 qct7 t7i7, kit_ve t7v⟩
  have F0 := fun_mk (st := s_is_part) l0 c0 k0
  have b0 := F0.binds (ps := ["text"]) fun _ _ _ _ _ _ us hl => match us, hl with | [_], _ => rfl
  have F1 := fun_mk (st := s_is_path) l1 c1 k1
  have b1 := F1.binds (ps := ["text"]) fun _ _ _ _ _ _ us hl => match us, hl with | [_], _ => rfl
  have F2 := fun_mk (st := s_above) l2 c2 k2
  have b2 := F2.binds (ps := ["path"]) fun _ _ _ _ _ _ us hl => match us, hl with | [_], _ => rfl
  have F3 := fun_mk (st := s_is_beneath) l3 c3 k3
  have b3 := F3.binds (ps := ["path", "upper"]) fun _ _ _ _ _ _ us hl => match us, hl with | [_, _], _ => rfl
  have F4 := fun_mk (st := s_overlaps) l4 c4 k4
  have b4 := F4.binds (ps := ["files"]) fun _ _ _ _ _ _ us hl => match us, hl with | [_], _ => rfl
  have F5 := fun_mk (st := s_is_blocked) l5 c5 k5
  have b5 := F5.binds (ps := ["tree", "path"]) fun _ _ _ _ _ _ us hl => match us, hl with | [_, _], _ => rfl
  have F6 := fun_mk (st := s_done) l6 c6 k6
  have b6 := F6.binds (ps := ["tree", "deed"]) fun _ _ _ _ _ _ us hl => match us, hl with | [_, _], _ => rfl
  have F7 := fun_mk (st := s_changed) l7 c7 k7
  have b7 := F7.binds (ps := ["tree", "deeds"]) fun _ _ _ _ _ _ us hl => match us, hl with | [_, _], _ => rfl
  have F8 := fun_mk (st := s_mark_of) l8 c8 k8
  have b8 := F8.binds (ps := ["before", "left", "right"]) fun _ _ _ _ _ _ us hl => match us, hl with | [_, _, _], _ => rfl
  have F9 := fun_mk (st := s_marks) l9 c9 k9
  have b9 := F9.binds (ps := ["elder", "one", "other"]) fun _ _ _ _ _ _ us hl => match us, hl with | [_, _, _], _ => rfl
  have F10 := fun_mk (st := s_single_clashes) l10 c10 k10
  have b10 := F10.binds (ps := ["elder", "one", "other"]) fun _ _ _ _ _ _ us hl => match us, hl with | [_, _, _], _ => rfl
  have F11 := fun_mk (st := s_settle) l11 c11 k11
  have b11 := F11.binds (ps := ["files", "path", "text"]) fun _ _ _ _ _ _ us hl => match us, hl with | [_, _, _], _ => rfl
  have F12 := fun_mk (st := s_agreed) l12 c12 k12
  have b12 := F12.binds (ps := ["elder", "one", "other"]) fun _ _ _ _ _ _ us hl => match us, hl with | [_, _, _], _ => rfl
  have F13 := fun_mk (st := s_clashes) l13 c13 k13
  have b13 := F13.binds (ps := ["elder", "one", "other"]) fun _ _ _ _ _ _ us hl => match us, hl with | [_, _, _], _ => rfl
  have F14 := fun_mk (st := s_joined) l14 c14 k14
  have b14 := F14.binds (ps := ["elder", "one", "other", "picks"]) fun _ _ _ _ _ _ us hl => match us, hl with | [_, _, _, _], _ => rfl
  have F15 := fun_mk (st := sB_init) l15 c15 k15
  have b15 := F15.binds (ps := ["self"]) fun _ _ _ _ _ _ us hl => match us, hl with | [_], _ => rfl
  have F16 := fun_mk (st := sB_check) l16 c16 k16
  have b16 := F16.binds (ps := ["self", "number"]) fun _ _ _ _ _ _ us hl => match us, hl with | [_, _], _ => rfl
  have F17 := fun_mk (st := sB_keep) l17 c17 k17
  have b17 := F17.binds (ps := ["self", "parents", "files"]) fun _ _ _ _ _ _ us hl => match us, hl with | [_, _, _], _ => rfl
  have F18 := fun_mk (st := sB_has_changed) l18 c18 k18
  have b18 := F18.binds (ps := ["self", "number", "path"]) fun _ _ _ _ _ _ us hl => match us, hl with | [_, _, _], _ => rfl
  have F19 := fun_mk (st := sB_many) l19 c19 k19
  have b19 := F19.binds (ps := ["self"]) fun _ _ _ _ _ _ us hl => match us, hl with | [_], _ => rfl
  have F20 := fun_mk (st := sB_tree) l20 c20 k20
  have b20 := F20.binds (ps := ["self", "number"]) fun _ _ _ _ _ _ us hl => match us, hl with | [_, _], _ => rfl
  have F21 := fun_mk (st := sB_parents) l21 c21 k21
  have b21 := F21.binds (ps := ["self", "number"]) fun _ _ _ _ _ _ us hl => match us, hl with | [_, _], _ => rfl
  have F22 := fun_mk (st := sB_elders) l22 c22 k22
  have b22 := F22.binds (ps := ["self", "number"]) fun _ _ _ _ _ _ us hl => match us, hl with | [_, _], _ => rfl
  have F23 := fun_mk (st := sB_nearest) l23 c23 k23
  have b23 := F23.binds (ps := ["self", "one", "other"]) fun _ _ _ _ _ _ us hl => match us, hl with | [_, _, _], _ => rfl
  have F24 := fun_mk (st := sB_road) l24 c24 k24
  have b24 := F24.binds (ps := ["self", "elder", "number"]) fun _ _ _ _ _ _ us hl => match us, hl with | [_, _, _], _ => rfl
  have F25 := fun_mk (st := sB_story) l25 c25 k25
  have b25 := F25.binds (ps := ["self", "number", "path"]) fun _ _ _ _ _ _ us hl => match us, hl with | [_, _, _], _ => rfl
  have F26 := fun_mk (st := sB_grow) l26 c26 k26
  have b26 := F26.binds (ps := ["self", "parent", "deeds"]) fun _ _ _ _ _ _ us hl => match us, hl with | [_, _, _], _ => rfl
  have F27 := fun_mk (st := sB_check_x) l27 c27 k27
  have b27 := F27.binds (ps := ["self", "number"]) fun _ _ _ _ _ _ us hl => match us, hl with | [_, _], _ => rfl
  have F28 := fun_mk (st := sB_tree_x) l28 c28 k28
  have b28 := F28.binds (ps := ["self", "number"]) fun _ _ _ _ _ _ us hl => match us, hl with | [_, _], _ => rfl
  have F29 := fun_mk (st := sB_parents_x) l29 c29 k29
  have b29 := F29.binds (ps := ["self", "number"]) fun _ _ _ _ _ _ us hl => match us, hl with | [_, _], _ => rfl
  have F30 := fun_mk (st := sB_elders_x) l30 c30 k30
  have b30 := F30.binds (ps := ["self", "number"]) fun _ _ _ _ _ _ us hl => match us, hl with | [_, _], _ => rfl
  have F31 := fun_mk (st := sB_grow_x) l31 c31 k31
  have b31 := F31.binds (ps := ["self", "parent", "deeds"]) fun _ _ _ _ _ _ us hl => match us, hl with | [_, _, _], _ => rfl
  have F32 := fun_mk (st := sB_merge_x) l32 c32 k32
  have b32 := F32.binds (ps := ["self", "one", "other", "picks"]) fun _ _ _ _ _ _ us hl => match us, hl with | [_, _, _, _], _ => rfl
  have F33 := fun_mk (st := sB_road_x) l33 c33 k33
  have b33 := F33.binds (ps := ["self", "elder", "number"]) fun _ _ _ _ _ _ us hl => match us, hl with | [_, _, _], _ => rfl
  have F34 := fun_mk (st := sB_nearest_x) l34 c34 k34
  have b34 := F34.binds (ps := ["self", "one", "other"]) fun _ _ _ _ _ _ us hl => match us, hl with | [_, _, _], _ => rfl
  have F35 := fun_mk (st := sB_story_x) l35 c35 k35
  have b35 := F35.binds (ps := ["self", "number", "path"]) fun _ _ _ _ _ _ us hl => match us, hl with | [_, _, _], _ => rfl
  have F36 := fun_mk (st := s_law_cell_at) l36 c36 k36
  have b36 := F36.binds (ps := ["_law_script", "_law_k"]) fun _ _ _ _ _ _ us hl => match us, hl with | [_, _], _ => rfl
  have F37 := fun_mk (st := s_law_asked) l37 c37 k37
  have b37 := F37.binds (ps := ["_law_book", "_law_way", "_law_wrong", "_law_good"]) fun _ _ _ _ _ _ us hl => match us, hl with | [_, _, _, _], _ => rfl
  have F38 := fun_mk (st := s_law_told) l38 c38 k38
  have b38 := F38.binds (ps := ["_law_book", "_law_way", "_law_wrong", "_law_good"]) fun _ _ _ _ _ _ us hl => match us, hl with | [_, _, _, _], _ => rfl
  have F39 := fun_mk (st := s_law_there_then) l39 c39 k39
  have b39 := F39.binds (ps := ["_law_book", "_law_many", "_law_good"]) fun _ _ _ _ _ _ us hl => match us, hl with | [_, _, _], _ => rfl
  have F40 := fun_mk (st := s_law) l40 c40 k40
  have b40 := F40.binds (ps := ["_law_script"]) fun _ _ _ _ _ _ us hl => match us, hl with | [_], _ => rfl
  have e := hfa.symm.trans (PySem.W.mg_of X G a40)
  cases e
  refine ⟨PySem.W.fnOf "law" "law" (defArgs s_law) (defBody s_law) (defScope s_law) .none kV40 dc40 pm40 an40 cd40 ct40, fun s v => .of_eq rfl, fun base _ _ => ?_⟩
  have C_is_part : Cal l.prog w K mg base 1 "is_part" ["text"] (sp_is_part K) := cal_of (ok_is_part F0 z  ) (PySem.W.mg_of X G a0) F0.kp b0
  have C_is_path : Cal l.prog w K mg base 2 "is_path" ["text"] (sp_is_path K) := cal_of (ok_is_path F1 z C_is_part ) (PySem.W.mg_of X G a1) F1.kp b1
  have C_above : Cal l.prog w K mg base 1 "above" ["path"] (sp_above K) := cal_of (ok_above F2 z  ) (PySem.W.mg_of X G a2) F2.kp b2
  have C_is_beneath : Cal l.prog w K mg base 1 "is_beneath" ["path", "upper"] (sp_is_beneath K) := cal_of (ok_is_beneath F3 z  ) (PySem.W.mg_of X G a3) F3.kp b3
  have C_overlaps : Cal l.prog w K mg base 2 "overlaps" ["files"] (sp_overlaps K) := cal_of (ok_overlaps F4 z C_above ) (PySem.W.mg_of X G a4) F4.kp b4
  have C_is_blocked : Cal l.prog w K mg base 2 "is_blocked" ["tree", "path"] (sp_is_blocked K) := cal_of (ok_is_blocked F5 z C_above C_is_beneath ) (PySem.W.mg_of X G a5) F5.kp b5
  have C_done : CalX l.prog w K mg base 3 "done" ["tree", "deed"] (sp_done K (cs8 C0 C1 C2 C3 C4 C5 C6 C7)) := calX_of (ok_done EG F6 z C_is_path C_is_blocked R1 R2 R3) (PySem.W.mg_of X G a6) F6.kp b6
  have C_changed : CalX l.prog w K mg base 4 "changed" ["tree", "deeds"] (sp_changed K (cs8 C0 C1 C2 C3 C4 C5 C6 C7)) := calX_of (ok_changed EG F7 z C_done ) (PySem.W.mg_of X G a7) F7.kp b7
  have C_mark_of : Cal l.prog w K mg base 1 "mark_of" ["before", "left", "right"] (sp_mark_of K) := cal_of (ok_mark_of F8 z  ) (PySem.W.mg_of X G a8) F8.kp b8
  have C_marks : Cal l.prog w K mg base 2 "marks" ["elder", "one", "other"] (sp_marks K) := cal_of (ok_marks F9 z C_mark_of ) (PySem.W.mg_of X G a9) F9.kp b9
  have C_single_clashes : Cal l.prog w K mg base 3 "single_clashes" ["elder", "one", "other"] (sp_single_clashes K) := cal_of (ok_single_clashes F10 z C_marks ) (PySem.W.mg_of X G a10) F10.kp b10
  have C_settle : Cal l.prog w K mg base 1 "settle" ["files", "path", "text"] (sp_settle K) := cal_of (ok_settle F11 z  ) (PySem.W.mg_of X G a11) F11.kp b11
  have C_agreed : Cal l.prog w K mg base 3 "agreed" ["elder", "one", "other"] (sp_agreed K) := cal_of (ok_agreed F12 z C_marks C_settle ) (PySem.W.mg_of X G a12) F12.kp b12
  have C_clashes : Cal l.prog w K mg base 4 "clashes" ["elder", "one", "other"] (sp_clashes K) := cal_of (ok_clashes F13 z C_single_clashes C_agreed C_overlaps ) (PySem.W.mg_of X G a13) F13.kp b13
  have C_joined : CalX l.prog w K mg base 5 "joined" ["elder", "one", "other", "picks"] (sp_joined K (cs8 C0 C1 C2 C3 C4 C5 C6 C7)) := calX_of (ok_joined EG F14 z C_clashes C_single_clashes C_agreed C_settle C_overlaps R4 R5) (PySem.W.mg_of X G a14) F14.kp b14
  have CB_init : CalMk l.prog w K mg base 1 C := ⟨_, _, ⟨mkk, a15, i15, kcc⟩, okB_init Tb F15 z, b15⟩
  have CB_check : CalM l.prog w K mg base 1 C "_check" ["self", "number"] (spB_check K C) := calM_of (okB_check Tb F16 z  ) ⟨a16, i16, k16⟩ b16 Tb.cl
  have CB_keep : CalM l.prog w K mg base 1 C "_keep" ["self", "parents", "files"] (spB_keep K C) := calM_of (okB_keep Tb F17 z  ) ⟨a17, i17, k17⟩ b17 Tb.cl
  have CB_has_changed : CalM l.prog w K mg base 1 C "_has_changed" ["self", "number", "path"] (spB_has_changed K C) := calM_of (okB_has_changed Tb F18 z  ) ⟨a18, i18, k18⟩ b18 Tb.cl
  have CB_many : CalM l.prog w K mg base 1 C "many" ["self"] (spB_many K C) := calM_of (okB_many Tb F19 z  ) ⟨a19, i19, k19⟩ b19 Tb.cl
  have CB_tree : CalM l.prog w K mg base 2 C "tree" ["self", "number"] (spB_tree K C) := calM_of (okB_tree Tb F20 z CB_check ) ⟨a20, i20, k20⟩ b20 Tb.cl
  have CB_parents : CalM l.prog w K mg base 2 C "parents" ["self", "number"] (spB_parents K C) := calM_of (okB_parents Tb F21 z CB_check ) ⟨a21, i21, k21⟩ b21 Tb.cl
  have CB_elders : CalM l.prog w K mg base 2 C "elders" ["self", "number"] (spB_elders K C) := calM_of (okB_elders Tb F22 z CB_check ) ⟨a22, i22, k22⟩ b22 Tb.cl
  have CB_nearest : CalM l.prog w K mg base 3 C "nearest" ["self", "one", "other"] (spB_nearest K C) := calM_of (okB_nearest Tb F23 z CB_elders ) ⟨a23, i23, k23⟩ b23 Tb.cl
  have CB_road : CalM l.prog w K mg base 2 C "road" ["self", "elder", "number"] (spB_road K C) := calM_of (okB_road Tb F24 z CB_check ) ⟨a24, i24, k24⟩ b24 Tb.cl
  have CB_story : CalM l.prog w K mg base 3 C "story" ["self", "number", "path"] (spB_story K C) := calM_of (okB_story Tb F25 z CB_elders CB_has_changed ) ⟨a25, i25, k25⟩ b25 Tb.cl
  have CB_grow : CalM l.prog w K mg base 5 C "grow" ["self", "parent", "deeds"] (spB_grow K C) := calM_of (okB_grow Tb F26 z CB_check C_changed CB_keep ) ⟨a26, i26, k26⟩ b26 Tb.cl
  have CB_check_x : CalMX l.prog w K mg base 1 C "_check" ["self", "number"] (spB_check_x K (cs8 C0 C1 C2 C3 C4 C5 C6 C7) C) := calMX_of (okB_check_x Tb EG F27 z  R6) ⟨a27, i27, k27⟩ b27 Tb.cl
  have CB_tree_x : CalMX l.prog w K mg base 2 C "tree" ["self", "number"] (spB_tree_x K (cs8 C0 C1 C2 C3 C4 C5 C6 C7) C) := calMX_of (okB_tree_x Tb EG F28 z CB_check_x ) ⟨a28, i28, k28⟩ b28 Tb.cl
  have CB_parents_x : CalMX l.prog w K mg base 2 C "parents" ["self", "number"] (spB_parents_x K (cs8 C0 C1 C2 C3 C4 C5 C6 C7) C) := calMX_of (okB_parents_x Tb EG F29 z CB_check_x ) ⟨a29, i29, k29⟩ b29 Tb.cl
  have CB_elders_x : CalMX l.prog w K mg base 2 C "elders" ["self", "number"] (spB_elders_x K (cs8 C0 C1 C2 C3 C4 C5 C6 C7) C) := calMX_of (okB_elders_x Tb EG F30 z CB_check_x ) ⟨a30, i30, k30⟩ b30 Tb.cl
  have CB_grow_x : CalMX l.prog w K mg base 2 C "grow" ["self", "parent", "deeds"] (spB_grow_x K (cs8 C0 C1 C2 C3 C4 C5 C6 C7) C) := calMX_of (okB_grow_x Tb EG F31 z CB_check_x ) ⟨a31, i31, k31⟩ b31 Tb.cl
  have CB_merge_x : CalMX l.prog w K mg base 2 C "merge" ["self", "one", "other", "picks"] (spB_merge_x K (cs8 C0 C1 C2 C3 C4 C5 C6 C7) C) := calMX_of (okB_merge_x Tb EG F32 z CB_check CB_check_x R7) ⟨a32, i32, k32⟩ b32 Tb.cl
  have CB_road_x : CalMX l.prog w K mg base 2 C "road" ["self", "elder", "number"] (spB_road_x K (cs8 C0 C1 C2 C3 C4 C5 C6 C7) C) := calMX_of (okB_road_x Tb EG F33 z CB_check CB_check_x ) ⟨a33, i33, k33⟩ b33 Tb.cl
  have CB_nearest_x : CalMX l.prog w K mg base 3 C "nearest" ["self", "one", "other"] (spB_nearest_x K (cs8 C0 C1 C2 C3 C4 C5 C6 C7) C) := calMX_of (okB_nearest_x Tb EG F34 z CB_elders CB_elders_x ) ⟨a34, i34, k34⟩ b34 Tb.cl
  have CB_story_x : CalMX l.prog w K mg base 3 C "story" ["self", "number", "path"] (spB_story_x K (cs8 C0 C1 C2 C3 C4 C5 C6 C7) C) := calMX_of (okB_story_x Tb EG F35 z CB_elders_x CB_has_changed CB_elders ) ⟨a35, i35, k35⟩ b35 Tb.cl
  have C_law_cell_at : Cal l.prog w K mg base 1 "_law_cell_at" ["_law_script", "_law_k"] (sp_law_cell_at K) := cal_of (ok_law_cell_at F36 z  ) (PySem.W.mg_of X G a36) F36.kp b36
  have C_law_asked : CalX l.prog w K mg base 4 "_law_asked" ["_law_book", "_law_way", "_law_wrong", "_law_good"] (sp_law_asked K (cs8 C0 C1 C2 C3 C4 C5 C6 C7) C) := calX_of (ok_law_asked Tb EG F37 z CB_tree_x CB_parents_x CB_grow_x CB_merge_x CB_elders_x CB_nearest_x CB_road_x CB_story_x ) (PySem.W.mg_of X G a37) F37.kp b37
  have C_law_told : Cal l.prog w K mg base 5 "_law_told" ["_law_book", "_law_way", "_law_wrong", "_law_good"] (sp_law_told K C) := cal_of (ok_law_told Tb EG F38 z C_law_asked E6 E7) (PySem.W.mg_of X G a38) F38.kp b38
  have C_law_there_then : Cal l.prog w K mg base 6 "_law_there_then" ["_law_book", "_law_many", "_law_good"] (sp_law_there_then K C) := cal_of (ok_law_there_then Tb F39 z CB_tree CB_grow CB_many CB_parents CB_elders CB_nearest CB_road CB_story ) (PySem.W.mg_of X G a39) F39.kp b39
  exact ok_law Tb F40 z CB_init C_law_cell_at CB_grow C_law_told CB_many CB_tree CB_parents C_law_there_then 
end K10


open PySem PySem.W PyProof.Rows
set_option maxHeartbeats 0 in
theorem PySem.Challenge.cw_threeroad_k10_no_version_holds : PySem.Challenge.rw_threeroad_k10_no_version.Holds := by
  w_on; o_law; k_head; (case hw => w_witness2)
  k_fill
  refine L2.walk_of (l := PySem.Challenge.rw_threeroad_k10_no_version) (n := 63) (k := 7) (x := "_law_script") (CX := fun _ => L2.CX0) (sp := fun w => K10.sp_law _) rfl (by decide) rfl ⟨rfl, by decide, by decide⟩ (fun w h Y => PySem.W.kIn_of Y) ?F (fun _ _ a ns hl _ hS => ⟨_, ⟨a, ns, rfl, hS, rfl⟩, fun _ _ => congrArg L2.V.bl (K10.law_holds ns)⟩) (fun _ _ _ _ _ h => h)
  case F =>
    intro w mg fa h KX G hmg
    refine' K10.all_mk KX G hmg ?a0 ?l0 ?c0 ?k0 ?a1 ?l1 ?c1 ?k1 ?a2 ?l2 ?c2 ?k2 ?a3 ?l3 ?c3 ?k3 ?a4 ?l4 ?c4 ?k4 ?a5 ?l5 ?c5 ?k5 ?a6 ?l6 ?c6 ?k6 ?a7 ?l7 ?c7 ?k7 ?a8 ?l8 ?c8 ?k8 ?a9 ?l9 ?c9 ?k9 ?a10 ?l10 ?c10 ?k10 ?a11 ?l11 ?c11 ?k11 ?a12 ?l12 ?c12 ?k12 ?a13 ?l13 ?c13 ?k13 ?a14 ?l14 ?c14 ?k14 ?a15 ?i15 ?l15 ?c15 ?k15 ?a16 ?i16 ?l16 ?c16 ?k16 ?a17 ?i17 ?l17 ?c17 ?k17 ?a18 ?i18 ?l18 ?c18 ?k18 ?a19 ?i19 ?l19 ?c19 ?k19 ?a20 ?i20 ?l20 ?c20 ?k20 ?a21 ?i21 ?l21 ?c21 ?k21 ?a22 ?i22 ?l22 ?c22 ?k22 ?a23 ?i23 ?l23 ?c23 ?k23 ?a24 ?i24 ?l24 ?c24 ?k24 ?a25 ?i25 ?l25 ?c25 ?k25 ?a26 ?i26 ?l26 ?c26 ?k26 ?a27 ?i27 ?l27 ?c27 ?k27 ?a28 ?i28 ?l28 ?c28 ?k28 ?a29 ?i29 ?l29 ?c29 ?k29 ?a30 ?i30 ?l30 ?c30 ?k30 ?a31 ?i31 ?l31 ?c31 ?k31 ?a32 ?i32 ?l32 ?c32 ?k32 ?a33 ?i33 ?l33 ?c33 ?k33 ?a34 ?i34 ?l34 ?c34 ?k34 ?a35 ?i35 ?l35 ?c35 ?k35 ?a36 ?l36 ?c36 ?k36 ?a37 ?l37 ?c37 ?k37 ?a38 ?l38 ?c38 ?k38 ?a39 ?l39 ?c39 ?k39 ?a40 ?l40 ?c40 ?k40 ?aC ?pg ?hdi ?pov ?sat ?mkk ?kcc ?nnT ?nnP ?z_ValueError ?z_all ?z_any ?z_bool ?z_dict ?z_int ?z_isinstance ?z_len ?z_range ?z_reversed ?z_set ?z_sorted ?z_str ?z_MOST_PARTS ?z_MOST_SIGNS ?z_SIGNS ?eg0 ?eg1 ?eg2 ?eg3 ?eg4 ?eg5 ?eg6 ?eg7 ?rx1 ?rk1 ?rb1 ?rt1 ?rx2 ?rk2 ?rb2 ?rt2 ?rx3 ?rk3 ?rb3 ?rt3 ?rx4 ?rk4 ?rb4 ?rt4 ?rx5 ?rk5 ?rb5 ?rt5 ?rx6 ?rk6 ?rb6 ?rt6 ?rx7 ?rk7 ?rb7 ?rt7 ?qcb ?qci0 ?qci1 ?qci2 ?qci3 ?qci4 ?qci5 ?qci6 ?qci7 ?qct0 ?qct1 ?qct2 ?qct3 ?qct4 ?qct5 ?qct6 ?qct7 ?t6hg ?t6hk ?t6hs ?t6hd ?t6ha ?t6hn ?t6ht ?t6hm ?t6v ?t6i0 ?t6i1 ?t6i2 ?t6i3 ?t6i4 ?t6i5 ?t6i6 ?t6i7 ?t7hg ?t7hk ?t7hs ?t7hd ?t7ha ?t7hn ?t7ht ?t7hm ?t7v ?t7i0 ?t7i1 ?t7i2 ?t7i3 ?t7i4 ?t7i5 ?t7i6 ?t7i7
    (case a0 => k_is)
    (case l0 => k_is)
    (case c0 => k_is)
    (case k0 => k_is)
    (case a1 => k_is)
    (case l1 => k_is)
    (case c1 => k_is)
    (case k1 => k_is)
    (case a2 => k_is)
    (case l2 => k_is)
    (case c2 => k_is)
    (case k2 => k_is)
    (case a3 => k_is)
    (case l3 => k_is)
    (case c3 => k_is)
    (case k3 => k_is)
    (case a4 => k_is)
    (case l4 => k_is)
    (case c4 => k_is)
    (case k4 => k_is)
    (case a5 => k_is)
    (case l5 => k_is)
    (case c5 => k_is)
    (case k5 => k_is)
    (case a6 => k_is)
    (case l6 => k_is)
    (case c6 => k_is)
    (case k6 => k_is)
    (case a7 => k_is)
    (case l7 => k_is)
    (case c7 => k_is)
    (case k7 => k_is)
    (case a8 => k_is)
    (case l8 => k_is)
    (case c8 => k_is)
    (case k8 => k_is)
    (case a9 => k_is)
    (case l9 => k_is)
    (case c9 => k_is)
    (case k9 => k_is)
    (case a10 => k_is)
    (case l10 => k_is)
    (case c10 => k_is)
    (case k10 => k_is)
    (case a11 => k_is)
    (case l11 => k_is)
    (case c11 => k_is)
    (case k11 => k_is)
    (case a12 => k_is)
    (case l12 => k_is)
    (case c12 => k_is)
    (case k12 => k_is)
    (case a13 => k_is)
    (case l13 => k_is)
    (case c13 => k_is)
    (case k13 => k_is)
    (case a14 => k_is)
    (case l14 => k_is)
    (case c14 => k_is)
    (case k14 => k_is)
    (case a15 => k_is)
    (case i15 => k_is)
    (case l15 => k_is)
    (case c15 => k_is)
    (case k15 => k_is)
    (case a16 => k_is)
    (case i16 => k_is)
    (case l16 => k_is)
    (case c16 => k_is)
    (case k16 => k_is)
    (case a17 => k_is)
    (case i17 => k_is)
    (case l17 => k_is)
    (case c17 => k_is)
    (case k17 => k_is)
    (case a18 => k_is)
    (case i18 => k_is)
    (case l18 => k_is)
    (case c18 => k_is)
    (case k18 => k_is)
    (case a19 => k_is)
    (case i19 => k_is)
    (case l19 => k_is)
    (case c19 => k_is)
    (case k19 => k_is)
    (case a20 => k_is)
    (case i20 => k_is)
    (case l20 => k_is)
    (case c20 => k_is)
    (case k20 => k_is)
    (case a21 => k_is)
    (case i21 => k_is)
    (case l21 => k_is)
    (case c21 => k_is)
    (case k21 => k_is)
    (case a22 => k_is)
    (case i22 => k_is)
    (case l22 => k_is)
    (case c22 => k_is)
    (case k22 => k_is)
    (case a23 => k_is)
    (case i23 => k_is)
    (case l23 => k_is)
    (case c23 => k_is)
    (case k23 => k_is)
    (case a24 => k_is)
    (case i24 => k_is)
    (case l24 => k_is)
    (case c24 => k_is)
    (case k24 => k_is)
    (case a25 => k_is)
    (case i25 => k_is)
    (case l25 => k_is)
    (case c25 => k_is)
    (case k25 => k_is)
    (case a26 => k_is)
    (case i26 => k_is)
    (case l26 => k_is)
    (case c26 => k_is)
    (case k26 => k_is)
    (case a27 => k_is)
    (case i27 => k_is)
    (case l27 => k_is)
    (case c27 => k_is)
    (case k27 => k_is)
    (case a28 => k_is)
    (case i28 => k_is)
    (case l28 => k_is)
    (case c28 => k_is)
    (case k28 => k_is)
    (case a29 => k_is)
    (case i29 => k_is)
    (case l29 => k_is)
    (case c29 => k_is)
    (case k29 => k_is)
    (case a30 => k_is)
    (case i30 => k_is)
    (case l30 => k_is)
    (case c30 => k_is)
    (case k30 => k_is)
    (case a31 => k_is)
    (case i31 => k_is)
    (case l31 => k_is)
    (case c31 => k_is)
    (case k31 => k_is)
    (case a32 => k_is)
    (case i32 => k_is)
    (case l32 => k_is)
    (case c32 => k_is)
    (case k32 => k_is)
    (case a33 => k_is)
    (case i33 => k_is)
    (case l33 => k_is)
    (case c33 => k_is)
    (case k33 => k_is)
    (case a34 => k_is)
    (case i34 => k_is)
    (case l34 => k_is)
    (case c34 => k_is)
    (case k34 => k_is)
    (case a35 => k_is)
    (case i35 => k_is)
    (case l35 => k_is)
    (case c35 => k_is)
    (case k35 => k_is)
    (case a36 => k_is)
    (case l36 => k_is)
    (case c36 => k_is)
    (case k36 => k_is)
    (case a37 => k_is)
    (case l37 => k_is)
    (case c37 => k_is)
    (case k37 => k_is)
    (case a38 => k_is)
    (case l38 => k_is)
    (case c38 => k_is)
    (case k38 => k_is)
    (case a39 => k_is)
    (case l39 => k_is)
    (case c39 => k_is)
    (case k39 => k_is)
    (case a40 => k_is)
    (case l40 => k_is)
    (case c40 => k_is)
    (case k40 => k_is)
    (case aC => k_is)
    (case pg => k_is)
    (case hdi => k_is)
    (case pov => k_is)
    (case sat => k_is)
    (case mkk => k_is)
    (case kcc => k_is)
    (case nnT => k_is)
    (case nnP => k_is)
    (case z_ValueError => k_is)
    (case z_all => k_is)
    (case z_any => k_is)
    (case z_bool => k_is)
    (case z_dict => k_is)
    (case z_int => k_is)
    (case z_isinstance => k_is)
    (case z_len => k_is)
    (case z_range => k_is)
    (case z_reversed => k_is)
    (case z_set => k_is)
    (case z_sorted => k_is)
    (case z_str => k_is)
    (case z_MOST_PARTS => k_is)
    (case z_MOST_SIGNS => k_is)
    (case z_SIGNS => k_is)
    (case eg0 => k_is)
    (case eg1 => k_is)
    (case eg2 => k_is)
    (case eg3 => k_is)
    (case eg4 => k_is)
    (case eg5 => k_is)
    (case eg6 => k_is)
    (case eg7 => k_is)
    (case rx1 => k_exc)
    (case rk1 => k_is)
    (case rb1 => k_is)
    (case rt1 => k_is)
    (case rx2 => k_exc)
    (case rk2 => k_is)
    (case rb2 => k_is)
    (case rt2 => k_is)
    (case rx3 => k_exc)
    (case rk3 => k_is)
    (case rb3 => k_is)
    (case rt3 => k_is)
    (case rx4 => k_exc)
    (case rk4 => k_is)
    (case rb4 => k_is)
    (case rt4 => k_is)
    (case rx5 => k_exc)
    (case rk5 => k_is)
    (case rb5 => k_is)
    (case rt5 => k_is)
    (case rx6 => k_exc)
    (case rk6 => k_is)
    (case rb6 => k_is)
    (case rt6 => k_is)
    (case rx7 => k_exc)
    (case rk7 => k_is)
    (case rb7 => k_is)
    (case rt7 => k_is)
    (case qcb => k_is)
    (case qci0 => k_is)
    (case qci1 => k_is)
    (case qci2 => k_is)
    (case qci3 => k_is)
    (case qci4 => k_is)
    (case qci5 => k_is)
    (case qci6 => k_is)
    (case qci7 => k_is)
    (case qct0 => k_is)
    (case qct1 => k_is)
    (case qct2 => k_is)
    (case qct3 => k_is)
    (case qct4 => k_is)
    (case qct5 => k_is)
    (case qct6 => k_is)
    (case qct7 => k_is)
    (case t6hg => k_is)
    (case t6hk => k_is)
    (case t6hs => k_is)
    (case t6hd => k_is)
    (case t6ha => k_is)
    (case t6hn => k_is)
    (case t6ht => k_is)
    (case t6hm => k_is)
    (case t6v => k_is)
    (case t6i0 => k_is)
    (case t6i1 => k_is)
    (case t6i2 => k_is)
    (case t6i3 => k_is)
    (case t6i4 => k_is)
    (case t6i5 => k_is)
    (case t6i6 => k_is)
    (case t6i7 => k_is)
    (case t7hg => k_is)
    (case t7hk => k_is)
    (case t7hs => k_is)
    (case t7hd => k_is)
    (case t7ha => k_is)
    (case t7hn => k_is)
    (case t7ht => k_is)
    (case t7hm => k_is)
    (case t7v => k_is)
    (case t7i0 => k_is)
    (case t7i1 => k_is)
    (case t7i2 => k_is)
    (case t7i3 => k_is)
    (case t7i4 => k_is)
    (case t7i5 => k_is)
    (case t7i6 => k_is)
    (case t7i7 => k_is)

